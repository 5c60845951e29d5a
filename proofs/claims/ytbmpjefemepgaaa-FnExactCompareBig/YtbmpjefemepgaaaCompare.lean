/- CompareBig: the program's and the specification's answer the same pair at every two numbers. No condition beyond those typed. -/
import Derived.Test.YtbmpjefemepgaaaCmp
namespace Go.Proofs.Ytbmpjefemepgaaa
open Go.RowKit
set_option linter.unusedVariables false

theorem below_via {w w1 w2 : World} (h : Below w.heap.size w w1) (k : Below w1.heap.size w1 w2) : Below w.heap.size w w2 := h.trans (k.mono h.size)
def cmpOk (g : Bool) (xs : List Int) (g' : Bool) (ys : List Int) : Bool := goodB g xs && goodB g' ys
def cmpV (g : Bool) (xs : List Int) (g' : Bool) (ys : List Int) : Int := if cmpOk g xs g' ys then cmpB g xs g' ys else 0

set_option maxHeartbeats 1000000 in
theorem CompareI_any (g g' : Bool) (a a' : Option Addr) (n m c c' : Nat) (xs ys : List Int) (w : World) (hx : Sl w a xs) (hy : Sl w a' ys) (hn : xs.length = n) (hn' : ys.length = m) (hm : n ≤ maxLen) (hm' : m ≤ maxLen) :
    Calls Try.prog 14 #[.agg #[.bool g, .slice a n c], .agg #[.bool g', .slice a' m c']] w fun e w' => e = .returned (.tuple #[.int .i64 (cmpV g xs g' ys), .bool (cmpOk g xs g' ys)]) ∧ Below w.heap.size w w' := by
  have HX := hide hx
  have HY := hide hy
  have HN := hide hn
  have HN' := hide hn'
  clear hx hy hn hn'
  cases hg : cmpOk g xs g' ys
  · have hv : cmpV g xs g' ys = 0 := by simp [cmpV, hg]
    rw [hv]
    have hg' : (goodB g xs && goodB g' ys) = false := hg
    clear hg hv
    go_enter Try.func14, Try.ntmps14
    go_wp2_with fail
    refine (pair_any g g' a a' n m c c' xs ys _ ((unhide HX).later (Nat.le_refl _) (below_two _ _ _)) ((unhide HY).later (Nat.le_refl _) (below_two _ _ _)) (unhide HN) (unhide HN') hm hm').mono ?_
    rintro e w1 ⟨rfl, hb⟩
    rw [hg']
    go_wp2
    go_ret2
    exact ⟨rfl, below_two' hb⟩
  · have hv : cmpV g xs g' ys = cmpB g xs g' ys := by simp [cmpV, hg]
    rw [hv]
    have hg' : (goodB g xs && goodB g' ys) = true := hg
    clear hg hv
    go_enter Try.func14, Try.ntmps14
    go_wp2_with fail
    refine (pair_any g g' a a' n m c c' xs ys _ ((unhide HX).later (Nat.le_refl _) (below_two _ _ _)) ((unhide HY).later (Nat.le_refl _) (below_two _ _ _)) (unhide HN) (unhide HN') hm hm').mono ?_
    rintro e w1 ⟨rfl, hb⟩
    rw [hg']
    have x0 : w1.cell? ⟨w.heap.size, 0, none⟩ = some (.bool g) := cell_later hb (by simp [go_sem])
    have x1 : w1.cell? ⟨w.heap.size, 1, none⟩ = some (.slice a n c) := cell_later hb (by simp [go_sem])
    have y0 : w1.cell? ⟨w.heap.size + 1, 0, none⟩ = some (.bool g') := cell_later hb (by simp [go_sem])
    have y1 : w1.cell? ⟨w.heap.size + 1, 1, none⟩ = some (.slice a' m c') := cell_later hb (by simp [go_sem])
    have HB := hide (below_two' hb)
    clear hb hg'
    go_wp2_with fail
    refine (cmpBI_any g g' a a' n m c c' xs ys w1 ((unhide HX).later (Nat.le_refl _) (unhide HB)) ((unhide HY).later (Nat.le_refl _) (unhide HB)) (unhide HN) (unhide HN') hm hm').mono ?_
    rintro e w2 ⟨rfl, hb2⟩
    go_wp2
    go_ret2
    exact ⟨rfl, below_via (unhide HB) hb2⟩

set_option maxHeartbeats 2000000 in
theorem CompareS_any (g g' : Bool) (a a' : Option Addr) (n m c c' : Nat) (xs ys : List Int) (w : World) (hx : Sl w a xs) (hy : Sl w a' ys) (hn : xs.length = n) (hn' : ys.length = m) (hm : n ≤ maxLen) (hm' : m ≤ maxLen) :
    Calls Try.prog 13 #[.agg #[.bool g, .slice a n c], .agg #[.bool g', .slice a' m c']] w fun e w' => e = .returned (.tuple #[.int .i64 (cmpV g xs g' ys), .bool (cmpOk g xs g' ys)]) ∧ Below w.heap.size w w' := by
  have HX := hide hx
  have HY := hide hy
  have HN := hide hn
  have HN' := hide hn'
  clear hx hy hn hn'
  cases h1 : goodB g xs
  · have ho : cmpOk g xs g' ys = false := by simp [cmpOk, h1]
    have hv : cmpV g xs g' ys = 0 := by simp [cmpV, ho]
    rw [hv, ho]
    clear hv ho
    go_enter Try.func13, Try.ntmps13
    go_wp2_with fail
    refine (goodS_any g a n c xs _ ((unhide HX).later (Nat.le_refl _) (below_two _ _ _)) (unhide HN) hm).mono ?_
    rintro e w1 ⟨rfl, hb⟩
    go_wp2
    go_ret2
    exact ⟨rfl, below_two' hb⟩
  · cases h2 : goodB g' ys
    · have ho : cmpOk g xs g' ys = false := by simp [cmpOk, h2]
      have hv : cmpV g xs g' ys = 0 := by simp [cmpV, ho]
      rw [hv, ho]
      clear hv ho
      go_enter Try.func13, Try.ntmps13
      go_wp2_with fail
      refine (goodS_any g a n c xs _ ((unhide HX).later (Nat.le_refl _) (below_two _ _ _)) (unhide HN) hm).mono ?_
      rintro e w1 ⟨rfl, hb⟩
      have y0 : w1.cell? ⟨w.heap.size + 1, 0, none⟩ = some (.bool g') := cell_later hb (by simp [go_sem])
      have y1 : w1.cell? ⟨w.heap.size + 1, 1, none⟩ = some (.slice a' m c') := cell_later hb (by simp [go_sem])
      have HB := hide (below_two' hb)
      clear hb
      go_wp2_with fail
      refine (goodS_any g' a' m c' ys w1 ((unhide HY).later (Nat.le_refl _) (unhide HB)) (unhide HN') hm').mono ?_
      rintro e w2 ⟨rfl, hb2⟩
      go_wp2
      go_ret2
      exact ⟨rfl, below_via (unhide HB) hb2⟩
    · have ho : cmpOk g xs g' ys = true := by simp [cmpOk, h1, h2]
      have hv : cmpV g xs g' ys = cmpB g xs g' ys := by simp [cmpV, ho]
      rw [hv, ho]
      clear hv ho
      go_enter Try.func13, Try.ntmps13
      go_wp2_with fail
      refine (goodS_any g a n c xs _ ((unhide HX).later (Nat.le_refl _) (below_two _ _ _)) (unhide HN) hm).mono ?_
      rintro e w1 ⟨rfl, hb⟩
      have x0 : w1.cell? ⟨w.heap.size, 0, none⟩ = some (.bool g) := cell_later hb (by simp [go_sem])
      have x1 : w1.cell? ⟨w.heap.size, 1, none⟩ = some (.slice a n c) := cell_later hb (by simp [go_sem])
      have y0 : w1.cell? ⟨w.heap.size + 1, 0, none⟩ = some (.bool g') := cell_later hb (by simp [go_sem])
      have y1 : w1.cell? ⟨w.heap.size + 1, 1, none⟩ = some (.slice a' m c') := cell_later hb (by simp [go_sem])
      have HB := hide (below_two' hb)
      clear hb
      go_wp2_with fail
      refine (goodS_any g' a' m c' ys w1 ((unhide HY).later (Nat.le_refl _) (unhide HB)) (unhide HN') hm').mono ?_
      rintro e w2 ⟨rfl, hb2⟩
      replace x0 := cell_later hb2 x0
      replace x1 := cell_later hb2 x1
      replace y0 := cell_later hb2 y0
      replace y1 := cell_later hb2 y1
      replace HB := hide (below_via (unhide HB) hb2)
      clear hb2
      go_wp2_with fail
      refine (cmpBS_any g g' a a' n m c c' xs ys w2 ((unhide HX).later (Nat.le_refl _) (unhide HB)) ((unhide HY).later (Nat.le_refl _) (unhide HB)) (unhide HN) (unhide HN') hm hm').mono ?_
      rintro e w3 ⟨rfl, hb3⟩
      go_wp2
      go_ret2
      exact ⟨rfl, below_via (unhide HB) hb3⟩
end Go.Proofs.Ytbmpjefemepgaaa
