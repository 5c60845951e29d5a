/- Chapter 9 of the specification: boxes, sums over boxes. No condition beyond those typed. Written by mkbox9.py. -/
import Derived.Test.YteconjkjpalomaaSp9
import Derived.Test.YteconjkjpalomaaDr8
namespace Go.Proofs.Yteconjkjpalomaa
open Go.RowKit
set_option linter.unusedVariables false
set_option maxRecDepth 100000
set_option linter.unusedSimpArgs false

theorem BxP.set0 {w : World} {G : Nat} {x y v : Int} (h : BxP w G x y) : BxP (w.setCell ⟨G, 0, none⟩ (.int .i64 v)) G v y := by
  have k0 := h.c0
  have k1 := h.c1
  have kf := h.fz
  exact ⟨by simp [go_sem, k0], by simp [go_sem, k1], fun o => by simp [go_sem, kf]⟩
theorem BxP.set1 {w : World} {G : Nat} {x y v : Int} (h : BxP w G x y) : BxP (w.setCell ⟨G, 1, none⟩ (.int .i64 v)) G x v := by
  have k0 := h.c0
  have k1 := h.c1
  have kf := h.fz
  exact ⟨by simp [go_sem, k0], by simp [go_sem, k1], fun o => by simp [go_sem, kf]⟩
theorem BxP.other {w : World} {G K i : Nat} {x y : Int} {v : Value} (h : BxP w G x y) (hne : G ≠ K) : BxP (w.setCell ⟨K, i, none⟩ v) G x y := by
  have hb : But K (K + 1) w (w.setCell ⟨K, i, none⟩ v) := (But.refl _ _ _).set (p := ⟨K, i, none⟩) (Nat.le_refl K) (Nat.lt_succ_self K) v
  exact h.keep hb (by omega)
theorem bel_set {B K i : Nat} {a w : World} {v : Value} (h : Below B a w) (hB : B ≤ K) (hs : B ≤ w.heap.size) : Below B a (w.setCell ⟨K, i, none⟩ v) := ((But.refl K (K + 1) w).set (p := ⟨K, i, none⟩) (Nat.le_refl K) (Nat.lt_succ_self K) v).below h hB hs
def loS (l : List (Int × Int)) : Nat → Int × Int
  | 0 => l.getD 0 (0, 0)
  | k + 1 => (min (loS l k).1 (l.getD k (0, 0)).1, min (loS l k).2 (l.getD k (0, 0)).2)
def hiS (l : List (Int × Int)) : Nat → Int × Int
  | 0 => l.getD 0 (0, 0)
  | k + 1 => (max (hiS l k).1 (l.getD k (0, 0)).1, max (hiS l k).2 (l.getD k (0, 0)).2)
def bxL (l : List (Int × Int)) : Int × Int := if wayB l then loS l l.length else (0, 0)
def bxH (l : List (Int × Int)) : Int × Int := if wayB l then hiS l l.length else (0, 0)
theorem lo_bd {l : List (Int × Int)} (h : ∀ p ∈ l, gPt p = true) (h0 : 0 < l.length) : ∀ k, k ≤ l.length → (-1000 ≤ (loS l k).1 ∧ (loS l k).1 ≤ 1000) ∧ (-1000 ≤ (loS l k).2 ∧ (loS l k).2 ≤ 1000)
  | 0, _ => by
    have k := h (l.getD 0 (0, 0)) (by rw [getD_gt h0]; exact List.getElem_mem _)
    simp [gPt, inR] at k
    simp [loS]
    omega
  | k + 1, hk => by
    have ih := lo_bd h h0 k (by omega)
    have g := h (l.getD k (0, 0)) (by rw [getD_gt (by omega)]; exact List.getElem_mem _)
    simp only [gPt, inR, Bool.and_eq_true, decide_eq_true_eq] at g
    unfold loS
    dsimp only
    omega
theorem hi_bd {l : List (Int × Int)} (h : ∀ p ∈ l, gPt p = true) (h0 : 0 < l.length) : ∀ k, k ≤ l.length → (-1000 ≤ (hiS l k).1 ∧ (hiS l k).1 ≤ 1000) ∧ (-1000 ≤ (hiS l k).2 ∧ (hiS l k).2 ≤ 1000)
  | 0, _ => by
    have k := h (l.getD 0 (0, 0)) (by rw [getD_gt h0]; exact List.getElem_mem _)
    simp [gPt, inR] at k
    simp [hiS]
    omega
  | k + 1, hk => by
    have ih := hi_bd h h0 k (by omega)
    have g := h (l.getD k (0, 0)) (by rw [getD_gt (by omega)]; exact List.getElem_mem _)
    simp only [gPt, inR, Bool.and_eq_true, decide_eq_true_eq] at g
    unfold hiS
    dsimp only
    omega
/-- What a point of the grid counts. -/
def ptT (l : List (Int × Int)) (p : Int × Int) : Int := if onK l p l.length then 0 else wiS l p l.length
def colS (l : List (Int × Int)) (x y0 : Int) : Nat → Int
  | 0 => 0
  | k + 1 => colS l x y0 k + ptT l (x, y0 + k)
def gridS (l : List (Int × Int)) (x0 y0 : Int) (m : Nat) : Nat → Int
  | 0 => 0
  | k + 1 => gridS l x0 y0 m k + colS l (x0 + k) y0 m
theorem ptT_bd (l : List (Int × Int)) (p : Int × Int) : -(l.length : Int) ≤ ptT l p ∧ ptT l p ≤ l.length := by
  unfold ptT
  have := wiS_bd l p l.length
  split <;> omega
theorem colS_bd (l : List (Int × Int)) (x y0 : Int) (h : l.length ≤ 12) : ∀ k : Nat, -(12 * (k : Int)) ≤ colS l x y0 k ∧ colS l x y0 k ≤ 12 * k
  | 0 => by simp [colS]
  | k + 1 => by have := colS_bd l x y0 h k; have := ptT_bd l (x, y0 + k); unfold colS; omega
theorem gridS_bd (l : List (Int × Int)) (x0 y0 : Int) (m : Nat) (h : l.length ≤ 12) (hm : m ≤ 2001) : ∀ k : Nat, -(24012 * (k : Int)) ≤ gridS l x0 y0 m k ∧ gridS l x0 y0 m k ≤ 24012 * k
  | 0 => by simp [gridS]
  | k + 1 => by have := gridS_bd l x0 y0 m h hm k; have := colS_bd l (x0 + k) y0 h m; unfold gridS; omega
def bigB (l : List (Int × Int)) : Bool := decide (400 < ((hiS l l.length).1 - (loS l l.length).1 + 1) * ((hiS l l.length).2 - (loS l l.length).2 + 1))
def wsB (l : List (Int × Int)) : Bool := wayB l && !(bigB l)
def wsV (l : List (Int × Int)) : Int := if wsB l then gridS l (loS l l.length).1 (loS l l.length).2 ((hiS l l.length).2 - (loS l l.length).2 + 1).toNat ((hiS l l.length).1 - (loS l l.length).1 + 1).toNat else 0
theorem way_good9 {l : List (Int × Int)} (h : wayB l = true) : ∀ p ∈ l, gPt p = true := by
  unfold wayB at h
  exact List.all_eq_true.1 ((Bool.and_eq_true _ _).mp h).2
end Go.Proofs.Yteconjkjpalomaa
