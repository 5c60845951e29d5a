/- AddBig and SubBig: the program's and the specification's, at every two numbers: they answer the sum or the difference, where both are good and it fits. No condition beyond those typed. -/
import Derived.Test.YtidhncaeknipoaaFit
namespace Go.Proofs.Ytidhncaeknipoaa
open Go.RowKit
set_option linter.unusedVariables false
set_option linter.unusedSimpArgs false

theorem outA_of {w w2 : World} {P : Bool} {V : Int} {gr : Bool} {a : Option Addr} {n c : Nat} {ts : List Int} {ok : Bool} {s : Nat} (hs : w.heap.size ≤ s) (hb : Below w.heap.size w w2) (ho : Own (s + 1) w2 a ts) (ha : Arg w2 a n c ts) (h : Ans P V gr ts ok) (v v' : Value) :
    OutA w P V (.returned (.tuple #[.agg #[.bool gr, .slice a n c], .bool ok])) ((w2.setCell ⟨s, 0, none⟩ v).setCell ⟨s, 1, none⟩ v') := by
  obtain ⟨f1, f2, f3⟩ := fin_set hs hb ho ha v v'
  exact ⟨gr, a, n, c, ts, ok, rfl, f1, f2, f3, h⟩
theorem outA_no {w w2 : World} {V : Int} {s : Nat} (hs : w.heap.size ≤ s) (hb : Below w.heap.size w w2) (v v' : Value) :
    OutA w false V (.returned (.tuple #[.agg #[.bool false, .slice none 0 0], .bool false])) ((w2.setCell ⟨s, 0, none⟩ v).setCell ⟨s, 1, none⟩ v') :=
  ⟨false, none, 0, 0, [], false, rfl, (hb.setCell hs _).setCell hs _, .inl rfl, Arg.none _, .inr ⟨rfl, rfl, rfl, rfl⟩⟩

set_option maxHeartbeats 4000000 in
theorem AddI_any (g g' : Bool) (a a' : Option Addr) (n m c c' : Nat) (xs ys : List Int) (w : World) (hx : Arg w a n c xs) (hy : Arg w a' m c' ys) :
    Calls Try.prog 26 #[.agg #[.bool g, .slice a n c], .agg #[.bool g', .slice a' m c']] w (OutA w (goodB g xs && goodB g' ys) (sv g xs + sv g' ys)) := by
  have HX := hide hx
  have HY := hide hy
  clear hx hy
  have B3 := hide (below_three w (.cells #[.bool g, .slice a n c] 25) (.cells #[.bool g', .slice a' m c'] 25) (.cells #[.bool false, .slice none 0 0] 25))
  cases hP : (goodB g xs && goodB g' ys)
  · go_enter Try.func26, Try.ntmps26
    go_wp2_with fail
    refine (pair_any g g' a a' n m c c' xs ys _ ((unhide HX).later (unhide B3)).sl ((unhide HY).later (unhide B3)).sl (unhide HX).len (unhide HY).len (Nat.le_trans (unhide HX).cap (unhide HX).top) (Nat.le_trans (unhide HY).cap (unhide HY).top)).mono ?_
    rintro e w1 ⟨rfl, hb1⟩
    rw [hP]
    have r0 : w1.cell? ⟨w.heap.size + 1 + 1, 0, none⟩ = some (.bool false) := cell_later hb1 (by simp [go_sem])
    have r1 : w1.cell? ⟨w.heap.size + 1 + 1, 1, none⟩ = some (.slice none 0 0) := cell_later hb1 (by simp [go_sem])
    have f0 : ∀ o, w1.frozen? ⟨w.heap.size + 1 + 1, o, none⟩ = false := fun o => frozen_later hb1 (by simp) (by simp [go_sem])
    have HB := hide ((unhide B3).trans (hb1.mono (by simp <;> omega)))
    clear hb1 hP
    go_wp2
    exact bodyPost_ret (v := .tuple #[.agg #[.bool false, .slice none 0 0], .bool false]) (by simp [results, Try.results26, go_sem, r0, r1]) rfl (outA_no (s := w.heap.size + 1 + 1) (by omega) (unhide HB) _ _)
  · have hg1 : goodB g xs = true := by revert hP; cases goodB g xs <;> simp
    have hg2 : goodB g' ys = true := by revert hP; cases goodB g' ys <;> simp
    have NX := hide (num_of_good (unhide HX) hg1)
    have NY := hide (num_of_good (unhide HY) hg2)
    clear hg1 hg2
    go_enter Try.func26, Try.ntmps26
    go_wp2_with fail
    refine (pair_any g g' a a' n m c c' xs ys _ ((unhide HX).later (unhide B3)).sl ((unhide HY).later (unhide B3)).sl (unhide HX).len (unhide HY).len (Nat.le_trans (unhide HX).cap (unhide HX).top) (Nat.le_trans (unhide HY).cap (unhide HY).top)).mono ?_
    rintro e w1 ⟨rfl, hb1⟩
    rw [hP]
    have x0 : w1.cell? ⟨w.heap.size, 0, none⟩ = some (.bool g) := cell_later hb1 (by simp [go_sem])
    have x1 : w1.cell? ⟨w.heap.size, 1, none⟩ = some (.slice a n c) := cell_later hb1 (by simp [go_sem])
    have y0 : w1.cell? ⟨w.heap.size + 1, 0, none⟩ = some (.bool g') := cell_later hb1 (by simp [go_sem])
    have y1 : w1.cell? ⟨w.heap.size + 1, 1, none⟩ = some (.slice a' m c') := cell_later hb1 (by simp [go_sem])
    have r0 : w1.cell? ⟨w.heap.size + 1 + 1, 0, none⟩ = some (.bool false) := cell_later hb1 (by simp [go_sem])
    have r1 : w1.cell? ⟨w.heap.size + 1 + 1, 1, none⟩ = some (.slice none 0 0) := cell_later hb1 (by simp [go_sem])
    have f0 : ∀ o, w1.frozen? ⟨w.heap.size + 1 + 1, o, none⟩ = false := fun o => frozen_later hb1 (by simp) (by simp [go_sem])
    have s1 : w.heap.size + 1 + 1 + 1 ≤ w1.heap.size := by have := hb1.size; simp at this; omega
    have HB := hide ((unhide B3).trans (hb1.mono (by simp <;> omega)))
    clear hb1 hP
    go_wp2_with fail
    refine (addSgI_any g g' a a' n m c c' xs ys w1 ((unhide NX).later (unhide HB)) ((unhide NY).later (unhide HB))).mono ?_
    rintro e w2 ⟨a2, n2, c2, zs, rfl, hb2, ho2, ha2, hn2⟩
    replace r0 := cell_later hb2 r0
    replace r1 := cell_later hb2 r1
    replace f0 : ∀ o, w2.frozen? ⟨w.heap.size + 1 + 1, o, none⟩ = false := fun o => frozen_later hb2 (by omega) (f0 o)
    replace HB := hide (below_on (unhide HB) hb2)
    have s2 : w.heap.size + 1 + 1 + 1 ≤ w2.heap.size := Nat.le_trans s1 hb2.size
    have HF := hide (fitI_any (sv g xs + sv g' ys) a2 n2 c2 zs w2 (w.heap.size + 1 + 1 + 1) (ho2.mono s1) ha2 hn2)
    clear x0 x1 y0 y1 hb2 ho2 ha2 hn2 s1
    go_wp2_with fail
    refine (unhide HF).mono ?_
    rintro e w3 ⟨gr, a3, n3, c3, ts, ok, rfl, hb3, ho3, ha3, hans⟩
    replace r0 := cell_later hb3 r0
    replace r1 := cell_later hb3 r1
    replace f0 : ∀ o, w3.frozen? ⟨w.heap.size + 1 + 1, o, none⟩ = false := fun o => frozen_later hb3 (by omega) (f0 o)
    replace HB := hide (below_on (unhide HB) hb3)
    have HO := hide ho3
    have HA := hide ha3
    have HS := hide hans
    clear hb3 ho3 ha3 hans s2 HF
    go_wp2
    exact bodyPost_ret (v := .tuple #[.agg #[.bool gr, .slice a3 n3 c3], .bool ok]) (by simp [results, Try.results26, go_sem, r0, r1]) rfl (outA_of (s := w.heap.size + 1 + 1) (by omega) (unhide HB) (unhide HO) (unhide HA) (unhide HS) _ _)

set_option maxHeartbeats 4000000 in
theorem SubI_any (g g' : Bool) (a a' : Option Addr) (n m c c' : Nat) (xs ys : List Int) (w : World) (hx : Arg w a n c xs) (hy : Arg w a' m c' ys) :
    Calls Try.prog 43 #[.agg #[.bool g, .slice a n c], .agg #[.bool g', .slice a' m c']] w (OutA w (goodB g xs && goodB g' ys) (sv g xs - sv g' ys)) := by
  have HX := hide hx
  have HY := hide hy
  clear hx hy
  have B3 := hide (below_three w (.cells #[.bool g, .slice a n c] 25) (.cells #[.bool g', .slice a' m c'] 25) (.cells #[.bool false, .slice none 0 0] 25))
  cases hP : (goodB g xs && goodB g' ys)
  · go_enter Try.func43, Try.ntmps43
    go_wp2_with fail
    refine (pair_any g g' a a' n m c c' xs ys _ ((unhide HX).later (unhide B3)).sl ((unhide HY).later (unhide B3)).sl (unhide HX).len (unhide HY).len (Nat.le_trans (unhide HX).cap (unhide HX).top) (Nat.le_trans (unhide HY).cap (unhide HY).top)).mono ?_
    rintro e w1 ⟨rfl, hb1⟩
    rw [hP]
    have r0 : w1.cell? ⟨w.heap.size + 1 + 1, 0, none⟩ = some (.bool false) := cell_later hb1 (by simp [go_sem])
    have r1 : w1.cell? ⟨w.heap.size + 1 + 1, 1, none⟩ = some (.slice none 0 0) := cell_later hb1 (by simp [go_sem])
    have f0 : ∀ o, w1.frozen? ⟨w.heap.size + 1 + 1, o, none⟩ = false := fun o => frozen_later hb1 (by simp) (by simp [go_sem])
    have HB := hide ((unhide B3).trans (hb1.mono (by simp <;> omega)))
    clear hb1 hP
    go_wp2
    exact bodyPost_ret (v := .tuple #[.agg #[.bool false, .slice none 0 0], .bool false]) (by simp [results, Try.results43, go_sem, r0, r1]) rfl (outA_no (s := w.heap.size + 1 + 1) (by omega) (unhide HB) _ _)
  · have hg1 : goodB g xs = true := by revert hP; cases goodB g xs <;> simp
    have hg2 : goodB g' ys = true := by revert hP; cases goodB g' ys <;> simp
    have NX := hide (num_of_good (unhide HX) hg1)
    have NY := hide (num_of_good (unhide HY) hg2)
    clear hg1 hg2
    go_enter Try.func43, Try.ntmps43
    go_wp2_with fail
    refine (pair_any g g' a a' n m c c' xs ys _ ((unhide HX).later (unhide B3)).sl ((unhide HY).later (unhide B3)).sl (unhide HX).len (unhide HY).len (Nat.le_trans (unhide HX).cap (unhide HX).top) (Nat.le_trans (unhide HY).cap (unhide HY).top)).mono ?_
    rintro e w1 ⟨rfl, hb1⟩
    rw [hP]
    have x0 : w1.cell? ⟨w.heap.size, 0, none⟩ = some (.bool g) := cell_later hb1 (by simp [go_sem])
    have x1 : w1.cell? ⟨w.heap.size, 1, none⟩ = some (.slice a n c) := cell_later hb1 (by simp [go_sem])
    have y0 : w1.cell? ⟨w.heap.size + 1, 0, none⟩ = some (.bool g') := cell_later hb1 (by simp [go_sem])
    have y1 : w1.cell? ⟨w.heap.size + 1, 1, none⟩ = some (.slice a' m c') := cell_later hb1 (by simp [go_sem])
    have r0 : w1.cell? ⟨w.heap.size + 1 + 1, 0, none⟩ = some (.bool false) := cell_later hb1 (by simp [go_sem])
    have r1 : w1.cell? ⟨w.heap.size + 1 + 1, 1, none⟩ = some (.slice none 0 0) := cell_later hb1 (by simp [go_sem])
    have f0 : ∀ o, w1.frozen? ⟨w.heap.size + 1 + 1, o, none⟩ = false := fun o => frozen_later hb1 (by simp) (by simp [go_sem])
    have s1 : w.heap.size + 1 + 1 + 1 ≤ w1.heap.size := by have := hb1.size; simp at this; omega
    have HB := hide ((unhide B3).trans (hb1.mono (by simp <;> omega)))
    clear hb1 hP
    go_wp2_with fail
    refine (subSgI_any g g' a a' n m c c' xs ys w1 ((unhide NX).later (unhide HB)) ((unhide NY).later (unhide HB))).mono ?_
    rintro e w2 ⟨a2, n2, c2, zs, rfl, hb2, ho2, ha2, hn2⟩
    replace r0 := cell_later hb2 r0
    replace r1 := cell_later hb2 r1
    replace f0 : ∀ o, w2.frozen? ⟨w.heap.size + 1 + 1, o, none⟩ = false := fun o => frozen_later hb2 (by omega) (f0 o)
    replace HB := hide (below_on (unhide HB) hb2)
    have s2 : w.heap.size + 1 + 1 + 1 ≤ w2.heap.size := Nat.le_trans s1 hb2.size
    have HF := hide (fitI_any (sv g xs - sv g' ys) a2 n2 c2 zs w2 (w.heap.size + 1 + 1 + 1) (ho2.mono s1) ha2 hn2)
    clear x0 x1 y0 y1 hb2 ho2 ha2 hn2 s1
    go_wp2_with fail
    refine (unhide HF).mono ?_
    rintro e w3 ⟨gr, a3, n3, c3, ts, ok, rfl, hb3, ho3, ha3, hans⟩
    replace r0 := cell_later hb3 r0
    replace r1 := cell_later hb3 r1
    replace f0 : ∀ o, w3.frozen? ⟨w.heap.size + 1 + 1, o, none⟩ = false := fun o => frozen_later hb3 (by omega) (f0 o)
    replace HB := hide (below_on (unhide HB) hb3)
    have HO := hide ho3
    have HA := hide ha3
    have HS := hide hans
    clear hb3 ho3 ha3 hans s2 HF
    go_wp2
    exact bodyPost_ret (v := .tuple #[.agg #[.bool gr, .slice a3 n3 c3], .bool ok]) (by simp [results, Try.results43, go_sem, r0, r1]) rfl (outA_of (s := w.heap.size + 1 + 1) (by omega) (unhide HB) (unhide HO) (unhide HA) (unhide HS) _ _)

set_option maxHeartbeats 4000000 in
theorem AddS_any (g g' : Bool) (a a' : Option Addr) (n m c c' : Nat) (xs ys : List Int) (w : World) (hx : Arg w a n c xs) (hy : Arg w a' m c' ys) :
    Calls Try.prog 41 #[.agg #[.bool g, .slice a n c], .agg #[.bool g', .slice a' m c']] w (OutA w (goodB g xs && goodB g' ys) (sv g xs + sv g' ys)) := by
  have HX := hide hx
  have HY := hide hy
  clear hx hy
  have B3 := hide (below_three w (.cells #[.bool g, .slice a n c] 25) (.cells #[.bool g', .slice a' m c'] 25) (.cells #[.bool false, .slice none 0 0] 25))
  have mx := hide (Nat.le_trans (unhide HX).cap (unhide HX).top)
  have my := hide (Nat.le_trans (unhide HY).cap (unhide HY).top)
  cases hg1 : goodB g xs
  · rw [Bool.false_and]
    go_enter Try.func41, Try.ntmps41
    go_wp2_with fail
    refine (goodS_any g a n c xs _ ((unhide HX).later (unhide B3)).sl (unhide HX).len (unhide mx)).mono ?_
    rintro e w1 ⟨rfl, hb1⟩
    have r0 : w1.cell? ⟨w.heap.size + 1 + 1, 0, none⟩ = some (.bool false) := cell_later hb1 (by simp [go_sem])
    have r1 : w1.cell? ⟨w.heap.size + 1 + 1, 1, none⟩ = some (.slice none 0 0) := cell_later hb1 (by simp [go_sem])
    have f0 : ∀ o, w1.frozen? ⟨w.heap.size + 1 + 1, o, none⟩ = false := fun o => frozen_later hb1 (by simp) (by simp [go_sem])
    have HB := hide ((unhide B3).trans (hb1.mono (by simp <;> omega)))
    clear hb1
    go_wp2
    exact bodyPost_ret (v := .tuple #[.agg #[.bool false, .slice none 0 0], .bool false]) (by simp [results, Try.results41, go_sem, r0, r1]) rfl (outA_no (s := w.heap.size + 1 + 1) (by omega) (unhide HB) _ _)
  · rw [Bool.true_and]
    have NX := hide (num_of_good (unhide HX) hg1)
    cases hg2 : goodB g' ys
    · go_enter Try.func41, Try.ntmps41
      go_wp2_with fail
      refine (goodS_any g a n c xs _ ((unhide HX).later (unhide B3)).sl (unhide HX).len (unhide mx)).mono ?_
      rintro e w1 ⟨rfl, hb1⟩
      have y0 : w1.cell? ⟨w.heap.size + 1, 0, none⟩ = some (.bool g') := cell_later hb1 (by simp [go_sem])
      have y1 : w1.cell? ⟨w.heap.size + 1, 1, none⟩ = some (.slice a' m c') := cell_later hb1 (by simp [go_sem])
      have r0 : w1.cell? ⟨w.heap.size + 1 + 1, 0, none⟩ = some (.bool false) := cell_later hb1 (by simp [go_sem])
      have r1 : w1.cell? ⟨w.heap.size + 1 + 1, 1, none⟩ = some (.slice none 0 0) := cell_later hb1 (by simp [go_sem])
      have f0 : ∀ o, w1.frozen? ⟨w.heap.size + 1 + 1, o, none⟩ = false := fun o => frozen_later hb1 (by simp) (by simp [go_sem])
      have s1 : w.heap.size + 1 + 1 + 1 ≤ w1.heap.size := by have := hb1.size; simp at this; omega
      have HB := hide ((unhide B3).trans (hb1.mono (by simp <;> omega)))
      clear hb1
      go_wp2_with fail
      refine (goodS_any g' a' m c' ys _ ((unhide HY).later (unhide HB)).sl (unhide HY).len (unhide my)).mono ?_
      rintro e w2 ⟨rfl, hb2⟩
      replace r0 := cell_later hb2 r0
      replace r1 := cell_later hb2 r1
      replace f0 : ∀ o, w2.frozen? ⟨w.heap.size + 1 + 1, o, none⟩ = false := fun o => frozen_later hb2 (by omega) (f0 o)
      replace HB := hide (below_on (unhide HB) hb2)
      clear hb2
      go_wp2
      exact bodyPost_ret (v := .tuple #[.agg #[.bool false, .slice none 0 0], .bool false]) (by simp [results, Try.results41, go_sem, r0, r1]) rfl (outA_no (s := w.heap.size + 1 + 1) (by omega) (unhide HB) _ _)
    · have NY := hide (num_of_good (unhide HY) hg2)
      go_enter Try.func41, Try.ntmps41
      go_wp2_with fail
      refine (goodS_any g a n c xs _ ((unhide HX).later (unhide B3)).sl (unhide HX).len (unhide mx)).mono ?_
      rintro e w1 ⟨rfl, hb1⟩
      have x0 : w1.cell? ⟨w.heap.size, 0, none⟩ = some (.bool g) := cell_later hb1 (by simp [go_sem])
      have x1 : w1.cell? ⟨w.heap.size, 1, none⟩ = some (.slice a n c) := cell_later hb1 (by simp [go_sem])
      have y0 : w1.cell? ⟨w.heap.size + 1, 0, none⟩ = some (.bool g') := cell_later hb1 (by simp [go_sem])
      have y1 : w1.cell? ⟨w.heap.size + 1, 1, none⟩ = some (.slice a' m c') := cell_later hb1 (by simp [go_sem])
      have r0 : w1.cell? ⟨w.heap.size + 1 + 1, 0, none⟩ = some (.bool false) := cell_later hb1 (by simp [go_sem])
      have r1 : w1.cell? ⟨w.heap.size + 1 + 1, 1, none⟩ = some (.slice none 0 0) := cell_later hb1 (by simp [go_sem])
      have f0 : ∀ o, w1.frozen? ⟨w.heap.size + 1 + 1, o, none⟩ = false := fun o => frozen_later hb1 (by simp) (by simp [go_sem])
      have s1 : w.heap.size + 1 + 1 + 1 ≤ w1.heap.size := by have := hb1.size; simp at this; omega
      have HB := hide ((unhide B3).trans (hb1.mono (by simp <;> omega)))
      clear hb1
      go_wp2_with fail
      refine (goodS_any g' a' m c' ys _ ((unhide HY).later (unhide HB)).sl (unhide HY).len (unhide my)).mono ?_
      rintro e w2 ⟨rfl, hb2⟩
      replace x0 := cell_later hb2 x0
      replace x1 := cell_later hb2 x1
      replace y0 := cell_later hb2 y0
      replace y1 := cell_later hb2 y1
      replace r0 := cell_later hb2 r0
      replace r1 := cell_later hb2 r1
      replace f0 : ∀ o, w2.frozen? ⟨w.heap.size + 1 + 1, o, none⟩ = false := fun o => frozen_later hb2 (by omega) (f0 o)
      replace HB := hide (below_on (unhide HB) hb2)
      have s2 : w.heap.size + 1 + 1 + 1 ≤ w2.heap.size := Nat.le_trans s1 hb2.size
      clear hb2 s1
      go_wp2_with fail
      refine (addSgS_any g g' a a' n m c c' xs ys w2 ((unhide NX).later (unhide HB)) ((unhide NY).later (unhide HB))).mono ?_
      rintro e w3 ⟨a2, n2, c2, zs, rfl, hb3, ho2, ha2, hn2⟩
      replace r0 := cell_later hb3 r0
      replace r1 := cell_later hb3 r1
      replace f0 : ∀ o, w3.frozen? ⟨w.heap.size + 1 + 1, o, none⟩ = false := fun o => frozen_later hb3 (by omega) (f0 o)
      replace HB := hide (below_on (unhide HB) hb3)
      have s3 : w.heap.size + 1 + 1 + 1 ≤ w3.heap.size := Nat.le_trans s2 hb3.size
      have HF := hide (fitS_any (sv g xs + sv g' ys) a2 n2 c2 zs w3 (w.heap.size + 1 + 1 + 1) (ho2.mono s2) ha2 hn2)
      clear x0 x1 y0 y1 hb3 ho2 ha2 hn2 s2
      go_wp2_with fail
      refine (unhide HF).mono ?_
      rintro e w4 ⟨gr, a3, n3, c3, ts, ok, rfl, hb4, ho3, ha3, hans⟩
      replace r0 := cell_later hb4 r0
      replace r1 := cell_later hb4 r1
      replace f0 : ∀ o, w4.frozen? ⟨w.heap.size + 1 + 1, o, none⟩ = false := fun o => frozen_later hb4 (by omega) (f0 o)
      replace HB := hide (below_on (unhide HB) hb4)
      have HO := hide ho3
      have HA := hide ha3
      have HS := hide hans
      clear hb4 ho3 ha3 hans s3 HF
      go_wp2
      exact bodyPost_ret (v := .tuple #[.agg #[.bool gr, .slice a3 n3 c3], .bool ok]) (by simp [results, Try.results41, go_sem, r0, r1]) rfl (outA_of (s := w.heap.size + 1 + 1) (by omega) (unhide HB) (unhide HO) (unhide HA) (unhide HS) _ _)

set_option maxHeartbeats 4000000 in
theorem SubS_any (g g' : Bool) (a a' : Option Addr) (n m c c' : Nat) (xs ys : List Int) (w : World) (hx : Arg w a n c xs) (hy : Arg w a' m c' ys) :
    Calls Try.prog 42 #[.agg #[.bool g, .slice a n c], .agg #[.bool g', .slice a' m c']] w (OutA w (goodB g xs && goodB g' ys) (sv g xs - sv g' ys)) := by
  have HX := hide hx
  have HY := hide hy
  clear hx hy
  have B3 := hide (below_three w (.cells #[.bool g, .slice a n c] 25) (.cells #[.bool g', .slice a' m c'] 25) (.cells #[.bool false, .slice none 0 0] 25))
  have mx := hide (Nat.le_trans (unhide HX).cap (unhide HX).top)
  have my := hide (Nat.le_trans (unhide HY).cap (unhide HY).top)
  cases hg1 : goodB g xs
  · rw [Bool.false_and]
    go_enter Try.func42, Try.ntmps42
    go_wp2_with fail
    refine (goodS_any g a n c xs _ ((unhide HX).later (unhide B3)).sl (unhide HX).len (unhide mx)).mono ?_
    rintro e w1 ⟨rfl, hb1⟩
    have r0 : w1.cell? ⟨w.heap.size + 1 + 1, 0, none⟩ = some (.bool false) := cell_later hb1 (by simp [go_sem])
    have r1 : w1.cell? ⟨w.heap.size + 1 + 1, 1, none⟩ = some (.slice none 0 0) := cell_later hb1 (by simp [go_sem])
    have f0 : ∀ o, w1.frozen? ⟨w.heap.size + 1 + 1, o, none⟩ = false := fun o => frozen_later hb1 (by simp) (by simp [go_sem])
    have HB := hide ((unhide B3).trans (hb1.mono (by simp <;> omega)))
    clear hb1
    go_wp2
    exact bodyPost_ret (v := .tuple #[.agg #[.bool false, .slice none 0 0], .bool false]) (by simp [results, Try.results42, go_sem, r0, r1]) rfl (outA_no (s := w.heap.size + 1 + 1) (by omega) (unhide HB) _ _)
  · rw [Bool.true_and]
    have NX := hide (num_of_good (unhide HX) hg1)
    cases hg2 : goodB g' ys
    · go_enter Try.func42, Try.ntmps42
      go_wp2_with fail
      refine (goodS_any g a n c xs _ ((unhide HX).later (unhide B3)).sl (unhide HX).len (unhide mx)).mono ?_
      rintro e w1 ⟨rfl, hb1⟩
      have y0 : w1.cell? ⟨w.heap.size + 1, 0, none⟩ = some (.bool g') := cell_later hb1 (by simp [go_sem])
      have y1 : w1.cell? ⟨w.heap.size + 1, 1, none⟩ = some (.slice a' m c') := cell_later hb1 (by simp [go_sem])
      have r0 : w1.cell? ⟨w.heap.size + 1 + 1, 0, none⟩ = some (.bool false) := cell_later hb1 (by simp [go_sem])
      have r1 : w1.cell? ⟨w.heap.size + 1 + 1, 1, none⟩ = some (.slice none 0 0) := cell_later hb1 (by simp [go_sem])
      have f0 : ∀ o, w1.frozen? ⟨w.heap.size + 1 + 1, o, none⟩ = false := fun o => frozen_later hb1 (by simp) (by simp [go_sem])
      have s1 : w.heap.size + 1 + 1 + 1 ≤ w1.heap.size := by have := hb1.size; simp at this; omega
      have HB := hide ((unhide B3).trans (hb1.mono (by simp <;> omega)))
      clear hb1
      go_wp2_with fail
      refine (goodS_any g' a' m c' ys _ ((unhide HY).later (unhide HB)).sl (unhide HY).len (unhide my)).mono ?_
      rintro e w2 ⟨rfl, hb2⟩
      replace r0 := cell_later hb2 r0
      replace r1 := cell_later hb2 r1
      replace f0 : ∀ o, w2.frozen? ⟨w.heap.size + 1 + 1, o, none⟩ = false := fun o => frozen_later hb2 (by omega) (f0 o)
      replace HB := hide (below_on (unhide HB) hb2)
      clear hb2
      go_wp2
      exact bodyPost_ret (v := .tuple #[.agg #[.bool false, .slice none 0 0], .bool false]) (by simp [results, Try.results42, go_sem, r0, r1]) rfl (outA_no (s := w.heap.size + 1 + 1) (by omega) (unhide HB) _ _)
    · have NY := hide (num_of_good (unhide HY) hg2)
      go_enter Try.func42, Try.ntmps42
      go_wp2_with fail
      refine (goodS_any g a n c xs _ ((unhide HX).later (unhide B3)).sl (unhide HX).len (unhide mx)).mono ?_
      rintro e w1 ⟨rfl, hb1⟩
      have x0 : w1.cell? ⟨w.heap.size, 0, none⟩ = some (.bool g) := cell_later hb1 (by simp [go_sem])
      have x1 : w1.cell? ⟨w.heap.size, 1, none⟩ = some (.slice a n c) := cell_later hb1 (by simp [go_sem])
      have y0 : w1.cell? ⟨w.heap.size + 1, 0, none⟩ = some (.bool g') := cell_later hb1 (by simp [go_sem])
      have y1 : w1.cell? ⟨w.heap.size + 1, 1, none⟩ = some (.slice a' m c') := cell_later hb1 (by simp [go_sem])
      have r0 : w1.cell? ⟨w.heap.size + 1 + 1, 0, none⟩ = some (.bool false) := cell_later hb1 (by simp [go_sem])
      have r1 : w1.cell? ⟨w.heap.size + 1 + 1, 1, none⟩ = some (.slice none 0 0) := cell_later hb1 (by simp [go_sem])
      have f0 : ∀ o, w1.frozen? ⟨w.heap.size + 1 + 1, o, none⟩ = false := fun o => frozen_later hb1 (by simp) (by simp [go_sem])
      have s1 : w.heap.size + 1 + 1 + 1 ≤ w1.heap.size := by have := hb1.size; simp at this; omega
      have HB := hide ((unhide B3).trans (hb1.mono (by simp <;> omega)))
      clear hb1
      go_wp2_with fail
      refine (goodS_any g' a' m c' ys _ ((unhide HY).later (unhide HB)).sl (unhide HY).len (unhide my)).mono ?_
      rintro e w2 ⟨rfl, hb2⟩
      replace x0 := cell_later hb2 x0
      replace x1 := cell_later hb2 x1
      replace y0 := cell_later hb2 y0
      replace y1 := cell_later hb2 y1
      replace r0 := cell_later hb2 r0
      replace r1 := cell_later hb2 r1
      replace f0 : ∀ o, w2.frozen? ⟨w.heap.size + 1 + 1, o, none⟩ = false := fun o => frozen_later hb2 (by omega) (f0 o)
      replace HB := hide (below_on (unhide HB) hb2)
      have s2 : w.heap.size + 1 + 1 + 1 ≤ w2.heap.size := Nat.le_trans s1 hb2.size
      clear hb2 s1
      go_wp2_with fail
      refine (subSgS_any g g' a a' n m c c' xs ys w2 ((unhide NX).later (unhide HB)) ((unhide NY).later (unhide HB))).mono ?_
      rintro e w3 ⟨a2, n2, c2, zs, rfl, hb3, ho2, ha2, hn2⟩
      replace r0 := cell_later hb3 r0
      replace r1 := cell_later hb3 r1
      replace f0 : ∀ o, w3.frozen? ⟨w.heap.size + 1 + 1, o, none⟩ = false := fun o => frozen_later hb3 (by omega) (f0 o)
      replace HB := hide (below_on (unhide HB) hb3)
      have s3 : w.heap.size + 1 + 1 + 1 ≤ w3.heap.size := Nat.le_trans s2 hb3.size
      have HF := hide (fitS_any (sv g xs - sv g' ys) a2 n2 c2 zs w3 (w.heap.size + 1 + 1 + 1) (ho2.mono s2) ha2 hn2)
      clear x0 x1 y0 y1 hb3 ho2 ha2 hn2 s2
      go_wp2_with fail
      refine (unhide HF).mono ?_
      rintro e w4 ⟨gr, a3, n3, c3, ts, ok, rfl, hb4, ho3, ha3, hans⟩
      replace r0 := cell_later hb4 r0
      replace r1 := cell_later hb4 r1
      replace f0 : ∀ o, w4.frozen? ⟨w.heap.size + 1 + 1, o, none⟩ = false := fun o => frozen_later hb4 (by omega) (f0 o)
      replace HB := hide (below_on (unhide HB) hb4)
      have HO := hide ho3
      have HA := hide ha3
      have HS := hide hans
      clear hb4 ho3 ha3 hans s3 HF
      go_wp2
      exact bodyPost_ret (v := .tuple #[.agg #[.bool gr, .slice a3 n3 c3], .bool ok]) (by simp [results, Try.results42, go_sem, r0, r1]) rfl (outA_of (s := w.heap.size + 1 + 1) (by omega) (unhide HB) (unhide HO) (unhide HA) (unhide HS) _ _)

end Go.Proofs.Ytidhncaeknipoaa
