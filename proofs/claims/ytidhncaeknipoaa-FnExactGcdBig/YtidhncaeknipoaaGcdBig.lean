/- GcdBig: the program's and the specification's, at every two numbers: they answer the greatest common divisor, where both are good. No condition beyond those typed. -/
import Derived.Test.YtidhncaeknipoaaDivJ
namespace Go.Proofs.Ytidhncaeknipoaa
open Go.RowKit
set_option linter.unusedVariables false
set_option linter.unusedSimpArgs false

theorem gcd_short {xs ys zs : List Int} (ox : okL xs) (oy : okL ys) (hx : xs.length ≤ 40) (hy : ys.length ≤ 40) (h : Nm zs ((Nat.gcd (val xs).toNat (val ys).toNat : Nat) : Int)) : zs.length ≤ 40 := by
  have x0 := val_nonneg ox
  have y0 := val_nonneg oy
  by_cases h0 : 0 < (val xs).toNat
  · have := Nat.gcd_le_left (val ys).toNat h0
    exact Nat.le_trans (len_of_val ox h.ok h.tr (by rw [h.v]; omega)) hx
  · have e : (val xs).toNat = 0 := by omega
    rw [e, Nat.gcd_zero_left] at h
    exact Nat.le_trans (len_of_val oy h.ok h.tr (by rw [h.v]; omega)) hy

set_option maxHeartbeats 4000000 in
theorem GcdI_any (g g' : Bool) (a a' : Option Addr) (n m c c' : Nat) (xs ys : List Int) (w : World) (hx : Arg w a n c xs) (hy : Arg w a' m c' ys) :
    Calls Try.prog 22 #[.agg #[.bool g, .slice a n c], .agg #[.bool g', .slice a' m c']] w (OutA w (goodB g xs && goodB g' ys) (((Nat.gcd (val xs).toNat (val ys).toNat : Nat) : Int))) := by
  have HX := hide hx
  have HY := hide hy
  clear hx hy
  have B3 := hide (below_three w (.cells #[.bool g, .slice a n c] 25) (.cells #[.bool g', .slice a' m c'] 25) (.cells #[.bool false, .slice none 0 0] 25))
  cases hP : (goodB g xs && goodB g' ys)
  · go_enter Try.func22, Try.ntmps22
    go_wp2_with fail
    refine (pair_any g g' a a' n m c c' xs ys _ ((unhide HX).later (unhide B3)).sl ((unhide HY).later (unhide B3)).sl (unhide HX).len (unhide HY).len (Nat.le_trans (unhide HX).cap (unhide HX).top) (Nat.le_trans (unhide HY).cap (unhide HY).top)).mono ?_
    rintro e w1 ⟨rfl, hb1⟩
    rw [hP]
    have r0 : w1.cell? ⟨w.heap.size + 1 + 1, 0, none⟩ = some (.bool false) := cell_later hb1 (by simp [go_sem])
    have r1 : w1.cell? ⟨w.heap.size + 1 + 1, 1, none⟩ = some (.slice none 0 0) := cell_later hb1 (by simp [go_sem])
    have f0 : ∀ o, w1.frozen? ⟨w.heap.size + 1 + 1, o, none⟩ = false := fun o => frozen_later hb1 (by simp) (by simp [go_sem])
    have HB := hide ((unhide B3).trans (hb1.mono (by simp <;> omega)))
    clear hb1 hP
    go_wp2
    exact bodyPost_ret (v := .tuple #[.agg #[.bool false, .slice none 0 0], .bool false]) (by simp [results, Try.results22, go_sem, r0, r1]) rfl (outA_no (s := w.heap.size + 1 + 1) (by omega) (unhide HB) _ _)
  · have hg1 : goodB g xs = true := by revert hP; cases goodB g xs <;> simp
    have hg2 : goodB g' ys = true := by revert hP; cases goodB g' ys <;> simp
    have NX := hide (num_of_good (unhide HX) hg1)
    have NY := hide (num_of_good (unhide HY) hg2)
    have NL : Hid (n ≤ 40) := hide (by have := (good_parts hg1).2.2.1; have := (unhide HX).len; omega)
    have ML : Hid (m ≤ 40) := hide (by have := (good_parts hg2).2.2.1; have := (unhide HY).len; omega)
    clear hg1 hg2
    go_enter Try.func22, Try.ntmps22
    go_wp2_with fail
    refine (pair_any g g' a a' n m c c' xs ys _ ((unhide HX).later (unhide B3)).sl ((unhide HY).later (unhide B3)).sl (unhide HX).len (unhide HY).len (Nat.le_trans (unhide HX).cap (unhide HX).top) (Nat.le_trans (unhide HY).cap (unhide HY).top)).mono ?_
    rintro e w1 ⟨rfl, hb1⟩
    rw [hP]
    have x0 : w1.cell? ⟨w.heap.size, 0, none⟩ = some (.bool g) := cell_later hb1 (by simp [go_sem])
    have x1 : w1.cell? ⟨w.heap.size, 1, none⟩ = some (.slice a n c) := cell_later hb1 (by simp [go_sem])
    have y0 : w1.cell? ⟨w.heap.size + 1, 0, none⟩ = some (.bool g') := cell_later hb1 (by simp [go_sem])
    have y1 : w1.cell? ⟨w.heap.size + 1, 1, none⟩ = some (.slice a' m c') := cell_later hb1 (by simp [go_sem])
    have r0 : w1.cell? ⟨w.heap.size + 1 + 1, 0, none⟩ = some (.bool false) := cell_later hb1 (by simp [go_sem])
    have r1 : w1.cell? ⟨w.heap.size + 1 + 1, 1, none⟩ = some (.slice none 0 0) := cell_later hb1 (by simp [go_sem])
    have f0 : ∀ o, w1.frozen? ⟨w.heap.size + 1 + 1, o, none⟩ = false := fun o => frozen_later hb1 (by simp) (by simp [go_sem])
    have s1 : w.heap.size + 1 + 1 + 1 ≤ w1.heap.size := by have := hb1.size; simp at this; omega
    have HB := hide ((unhide B3).trans (hb1.mono (by simp <;> omega)))
    clear hb1 hP
    go_wp2_with fail
    refine (gcdI_any a a' n m c c' xs ys _ ((unhide HX).later (unhide HB)) ((unhide HY).later (unhide HB)) (unhide NX).ok (unhide NX).tr (unhide NY).ok (unhide NY).tr (by have := unhide NL; omega) (by have := unhide ML; omega)).mono ?_
    rintro e w2 ⟨a2, n2, c2, zs, rfl, hb2, ho2, ha2, hn2⟩
    replace r0 := cell_later hb2 r0
    replace r1 := cell_later hb2 r1
    have f0' := f0
    clear f0
    have f0 : ∀ o, w2.frozen? ⟨w.heap.size + 1 + 1, o, none⟩ = false := fun o => frozen_later hb2 (by omega) (f0' o)
    clear f0'
    replace HB := hide (below_on (unhide HB) hb2)
    have hsz2 := hb2.size
    have s2' : w.heap.size + 1 + 1 + 1 ≤ w2.heap.size := by omega
    have hl2 : zs.length ≤ 40 := gcd_short (unhide NX).ok (unhide NY).ok (by rw [(unhide NX).arg.len]; exact unhide NL) (by rw [(unhide NY).arg.len]; exact unhide ML) hn2
    have hnn : n2 ≤ 40 := by rw [← ha2.len]; exact hl2
    have HN2 := hide hn2
    have HF := hide (signI_out false a2 n2 c2 zs w2 (w.heap.size + 1 + 1 + 1) _ ha2 (ho2.mono (by omega)) hn2.ok hn2.v s2' (by omega))
    have HL2 := hide hl2
    clear x0 x1 y0 y1 hb2 ho2 ha2 hn2 hsz2 hl2
    go_wp2_with fail
    refine (unhide HF).mono ?_
    rintro e w9 ⟨a3, n3, c3, ts, rfl, hb3, ho3, ha3, hn3⟩
    have hans : Ans true ((Nat.gcd (val xs).toNat (val ys).toNat : Nat) : Int) (sd false ((Nat.gcd (val xs).toNat (val ys).toNat : Nat) : Int)) ts true := by
      refine .inl ⟨rfl, ts, ?_, .inl ⟨?_, rfl, rfl, rfl⟩⟩
      · rw [Int.natAbs_natCast]; exact hn3
      · rw [hn3.same (unhide HN2)]; exact unhide HL2
    replace r0 := cell_later hb3 r0
    replace r1 := cell_later hb3 r1
    replace f0 : ∀ o, w9.frozen? ⟨w.heap.size + 1 + 1, o, none⟩ = false := fun o => frozen_later hb3 (by omega) (f0 o)
    replace HB := hide (below_on (unhide HB) hb3)
    have HO := hide ho3
    have HA := hide ha3
    have HS := hide hans
    clear hb3 ho3 ha3 hans HF
    go_wp2
    exact bodyPost_ret (v := .tuple #[.agg #[.bool (sd false ((Nat.gcd (val xs).toNat (val ys).toNat : Nat) : Int)), .slice a3 n3 c3], .bool true]) (by simp [results, Try.results22, go_sem, r0, r1]) rfl (outA_of (s := w.heap.size + 1 + 1) (by omega) (unhide HB) (unhide HO) (unhide HA) (unhide HS) _ _)

set_option maxHeartbeats 4000000 in
theorem GcdS_any (g g' : Bool) (a a' : Option Addr) (n m c c' : Nat) (xs ys : List Int) (w : World) (hx : Arg w a n c xs) (hy : Arg w a' m c' ys) :
    Calls Try.prog 23 #[.agg #[.bool g, .slice a n c], .agg #[.bool g', .slice a' m c']] w (OutA w (goodB g xs && goodB g' ys) (((Nat.gcd (val xs).toNat (val ys).toNat : Nat) : Int))) := by
  have HX := hide hx
  have HY := hide hy
  clear hx hy
  have B3 := hide (below_three w (.cells #[.bool g, .slice a n c] 25) (.cells #[.bool g', .slice a' m c'] 25) (.cells #[.bool false, .slice none 0 0] 25))
  have mx := hide (Nat.le_trans (unhide HX).cap (unhide HX).top)
  have my := hide (Nat.le_trans (unhide HY).cap (unhide HY).top)
  cases hg1 : goodB g xs
  · rw [Bool.false_and]
    go_enter Try.func23, Try.ntmps23
    go_wp2_with fail
    refine (goodS_any g a n c xs _ ((unhide HX).later (unhide B3)).sl (unhide HX).len (unhide mx)).mono ?_
    rintro e w1 ⟨rfl, hb1⟩
    have r0 : w1.cell? ⟨w.heap.size + 1 + 1, 0, none⟩ = some (.bool false) := cell_later hb1 (by simp [go_sem])
    have r1 : w1.cell? ⟨w.heap.size + 1 + 1, 1, none⟩ = some (.slice none 0 0) := cell_later hb1 (by simp [go_sem])
    have f0 : ∀ o, w1.frozen? ⟨w.heap.size + 1 + 1, o, none⟩ = false := fun o => frozen_later hb1 (by simp) (by simp [go_sem])
    have HB := hide ((unhide B3).trans (hb1.mono (by simp <;> omega)))
    clear hb1
    go_wp2
    exact bodyPost_ret (v := .tuple #[.agg #[.bool false, .slice none 0 0], .bool false]) (by simp [results, Try.results23, go_sem, r0, r1]) rfl (outA_no (s := w.heap.size + 1 + 1) (by omega) (unhide HB) _ _)
  · rw [Bool.true_and]
    have NX := hide (num_of_good (unhide HX) hg1)
    cases hg2 : goodB g' ys
    · go_enter Try.func23, Try.ntmps23
      go_wp2_with fail
      refine (goodS_any g a n c xs _ ((unhide HX).later (unhide B3)).sl (unhide HX).len (unhide mx)).mono ?_
      rintro e w1 ⟨rfl, hb1⟩
      have y0 : w1.cell? ⟨w.heap.size + 1, 0, none⟩ = some (.bool g') := cell_later hb1 (by simp [go_sem])
      have y1 : w1.cell? ⟨w.heap.size + 1, 1, none⟩ = some (.slice a' m c') := cell_later hb1 (by simp [go_sem])
      have r0 : w1.cell? ⟨w.heap.size + 1 + 1, 0, none⟩ = some (.bool false) := cell_later hb1 (by simp [go_sem])
      have r1 : w1.cell? ⟨w.heap.size + 1 + 1, 1, none⟩ = some (.slice none 0 0) := cell_later hb1 (by simp [go_sem])
      have f0 : ∀ o, w1.frozen? ⟨w.heap.size + 1 + 1, o, none⟩ = false := fun o => frozen_later hb1 (by simp) (by simp [go_sem])
      have s1 : w.heap.size + 1 + 1 + 1 ≤ w1.heap.size := by have := hb1.size; simp at this; omega
      have HB := hide ((unhide B3).trans (hb1.mono (by simp <;> omega)))
      clear hb1
      go_wp2_with fail
      refine (goodS_any g' a' m c' ys _ ((unhide HY).later (unhide HB)).sl (unhide HY).len (unhide my)).mono ?_
      rintro e w2 ⟨rfl, hb2⟩
      replace r0 := cell_later hb2 r0
      replace r1 := cell_later hb2 r1
      replace f0 : ∀ o, w2.frozen? ⟨w.heap.size + 1 + 1, o, none⟩ = false := fun o => frozen_later hb2 (by omega) (f0 o)
      replace HB := hide (below_on (unhide HB) hb2)
      clear hb2
      go_wp2
      exact bodyPost_ret (v := .tuple #[.agg #[.bool false, .slice none 0 0], .bool false]) (by simp [results, Try.results23, go_sem, r0, r1]) rfl (outA_no (s := w.heap.size + 1 + 1) (by omega) (unhide HB) _ _)
    · have NY := hide (num_of_good (unhide HY) hg2)
      have NL : Hid (n ≤ 40) := hide (by have := (good_parts hg1).2.2.1; have := (unhide HX).len; omega)
      have ML : Hid (m ≤ 40) := hide (by have := (good_parts hg2).2.2.1; have := (unhide HY).len; omega)
      go_enter Try.func23, Try.ntmps23
      go_wp2_with fail
      refine (goodS_any g a n c xs _ ((unhide HX).later (unhide B3)).sl (unhide HX).len (unhide mx)).mono ?_
      rintro e w1 ⟨rfl, hb1⟩
      have x0 : w1.cell? ⟨w.heap.size, 0, none⟩ = some (.bool g) := cell_later hb1 (by simp [go_sem])
      have x1 : w1.cell? ⟨w.heap.size, 1, none⟩ = some (.slice a n c) := cell_later hb1 (by simp [go_sem])
      have y0 : w1.cell? ⟨w.heap.size + 1, 0, none⟩ = some (.bool g') := cell_later hb1 (by simp [go_sem])
      have y1 : w1.cell? ⟨w.heap.size + 1, 1, none⟩ = some (.slice a' m c') := cell_later hb1 (by simp [go_sem])
      have r0 : w1.cell? ⟨w.heap.size + 1 + 1, 0, none⟩ = some (.bool false) := cell_later hb1 (by simp [go_sem])
      have r1 : w1.cell? ⟨w.heap.size + 1 + 1, 1, none⟩ = some (.slice none 0 0) := cell_later hb1 (by simp [go_sem])
      have f0 : ∀ o, w1.frozen? ⟨w.heap.size + 1 + 1, o, none⟩ = false := fun o => frozen_later hb1 (by simp) (by simp [go_sem])
      have s1 : w.heap.size + 1 + 1 + 1 ≤ w1.heap.size := by have := hb1.size; simp at this; omega
      have HB := hide ((unhide B3).trans (hb1.mono (by simp <;> omega)))
      clear hb1
      go_wp2_with fail
      refine (goodS_any g' a' m c' ys _ ((unhide HY).later (unhide HB)).sl (unhide HY).len (unhide my)).mono ?_
      rintro e w2 ⟨rfl, hb2⟩
      replace x0 := cell_later hb2 x0
      replace x1 := cell_later hb2 x1
      replace y0 := cell_later hb2 y0
      replace y1 := cell_later hb2 y1
      replace r0 := cell_later hb2 r0
      replace r1 := cell_later hb2 r1
      replace f0 : ∀ o, w2.frozen? ⟨w.heap.size + 1 + 1, o, none⟩ = false := fun o => frozen_later hb2 (by omega) (f0 o)
      replace HB := hide (below_on (unhide HB) hb2)
      have s2 : w.heap.size + 1 + 1 + 1 ≤ w2.heap.size := Nat.le_trans s1 hb2.size
      clear hb2 s1
      go_wp2_with fail
      refine (gcdS_any a a' n m c c' xs ys _ ((unhide HX).later (unhide HB)) ((unhide HY).later (unhide HB)) (unhide NX).ok (unhide NX).tr (unhide NY).ok (unhide NY).tr (by have := unhide NL; omega) (by have := unhide ML; omega)).mono ?_
      rintro e w3 ⟨a2, n2, c2, zs, rfl, hb2, ho2, ha2, hn2⟩
      replace r0 := cell_later hb2 r0
      replace r1 := cell_later hb2 r1
      have f0' := f0
      clear f0
      have f0 : ∀ o, w3.frozen? ⟨w.heap.size + 1 + 1, o, none⟩ = false := fun o => frozen_later hb2 (by omega) (f0' o)
      clear f0'
      replace HB := hide (below_on (unhide HB) hb2)
      have hsz2 := hb2.size
      have s3' : w.heap.size + 1 + 1 + 1 ≤ w3.heap.size := by omega
      have hl2 : zs.length ≤ 40 := gcd_short (unhide NX).ok (unhide NY).ok (by rw [(unhide NX).arg.len]; exact unhide NL) (by rw [(unhide NY).arg.len]; exact unhide ML) hn2
      have hnn : n2 ≤ 40 := by rw [← ha2.len]; exact hl2
      have HN2 := hide hn2
      have HF := hide (signS_out false a2 n2 c2 zs w3 (w.heap.size + 1 + 1 + 1) _ ha2 (ho2.mono (by omega)) hn2.ok hn2.v s3' (by omega))
      have HL2 := hide hl2
      clear x0 x1 y0 y1 hb2 ho2 ha2 hn2 hsz2 hl2
      go_wp2_with fail
      refine (unhide HF).mono ?_
      rintro e w9 ⟨a3, n3, c3, ts, rfl, hb3, ho3, ha3, hn3⟩
      have hans : Ans true ((Nat.gcd (val xs).toNat (val ys).toNat : Nat) : Int) (sd false ((Nat.gcd (val xs).toNat (val ys).toNat : Nat) : Int)) ts true := by
        refine .inl ⟨rfl, ts, ?_, .inl ⟨?_, rfl, rfl, rfl⟩⟩
        · rw [Int.natAbs_natCast]; exact hn3
        · rw [hn3.same (unhide HN2)]; exact unhide HL2
      replace r0 := cell_later hb3 r0
      replace r1 := cell_later hb3 r1
      replace f0 : ∀ o, w9.frozen? ⟨w.heap.size + 1 + 1, o, none⟩ = false := fun o => frozen_later hb3 (by omega) (f0 o)
      replace HB := hide (below_on (unhide HB) hb3)
      have HO := hide ho3
      have HA := hide ha3
      have HS := hide hans
      clear hb3 ho3 ha3 hans HF
      go_wp2
      exact bodyPost_ret (v := .tuple #[.agg #[.bool (sd false ((Nat.gcd (val xs).toNat (val ys).toNat : Nat) : Int)), .slice a3 n3 c3], .bool true]) (by simp [results, Try.results23, go_sem, r0, r1]) rfl (outA_of (s := w.heap.size + 1 + 1) (by omega) (unhide HB) (unhide HO) (unhide HA) (unhide HS) _ _)


end Go.Proofs.Ytidhncaeknipoaa
