/- RatOf: the program's and the specification's, at every two ints. No condition beyond those typed. Written by mkfloor.py. -/
import Derived.Test.YtdgonpbponnnaaaGreatDoorRatF
import Derived.Test.YtdgonpbponnnaaaGreatDoorMake3
namespace Go.Proofs.YtdgonpbponnnaaaGreatDoor
open Go.RowKit
set_option linter.unusedVariables false
set_option maxRecDepth 100000
set_option linter.unusedSimpArgs false

theorem beyond_any (n : Int) (w : World) (b : Bool) (h : b = decide (n < -4611686018427387904 ∨ 4611686018427387904 < n)) : Calls Tryz.prog 50 #[.int .i64 n] w fun e w' => e = .returned (.bool b) ∧ w' = w := by
  subst h
  by_cases h1 : n < -4611686018427387904
  · rw [show decide (n < -4611686018427387904 ∨ 4611686018427387904 < n) = true from decide_eq_true (.inl h1)]
    go_enter Tryz.func50, Tryz.ntmps50
    go_wp2
    go_ret
    exact ⟨rfl, rfl⟩
  · have h1' : ¬ (n < -4611686018427387904) := h1
    by_cases h2 : 4611686018427387904 < n
    · rw [show decide (n < -4611686018427387904 ∨ 4611686018427387904 < n) = true from decide_eq_true (.inr h2)]
      go_enter Tryz.func50, Tryz.ntmps50
      go_wp2
      go_ret
      exact ⟨rfl, rfl⟩
    · rw [show decide (n < -4611686018427387904 ∨ 4611686018427387904 < n) = false from decide_eq_false (fun h => h.elim h1 h2)]
      go_enter Tryz.func50, Tryz.ntmps50
      go_wp2
      go_ret
      exact ⟨rfl, rfl⟩
theorem in_any (n lo hi : Int) (w : World) (b : Bool) (h : b = decide (lo ≤ n ∧ n ≤ hi)) : Calls Tryz.prog 53 #[.int .i64 n, .int .i64 lo, .int .i64 hi] w fun e w' => e = .returned (.bool b) ∧ w' = w := by
  subst h
  by_cases h1 : lo ≤ n
  · by_cases h2 : n ≤ hi
    · rw [show decide (lo ≤ n ∧ n ≤ hi) = true from decide_eq_true ⟨h1, h2⟩]
      go_enter Tryz.func53, Tryz.ntmps53
      go_wp2
      go_ret
      exact ⟨rfl, rfl⟩
    · rw [show decide (lo ≤ n ∧ n ≤ hi) = false from decide_eq_false (fun h => h2 h.2)]
      go_enter Tryz.func53, Tryz.ntmps53
      go_wp2
      go_ret
      exact ⟨rfl, rfl⟩
  · rw [show decide (lo ≤ n ∧ n ≤ hi) = false from decide_eq_false (fun h => h1 h.1)]
    go_enter Tryz.func53, Tryz.ntmps53
    go_wp2
    go_ret
    exact ⟨rfl, rfl⟩
theorem Bd.int {n : Int} (h0 : -9223372036854775808 ≤ n) (h1 : n ≤ 9223372036854775807) : Bd n 4 := ⟨by omega⟩

set_option maxHeartbeats 4000000 in
theorem RatOfRI (x y : Int) (w : World) (wx : -9223372036854775808 ≤ x ∧ x ≤ 9223372036854775807) (wy : -9223372036854775808 ≤ y ∧ y ≤ 9223372036854775807) :
    Calls Tryz.prog 19 #[.int .i64 x, .int .i64 y] w (RetQ w (AnsQ ((decide (-4611686018427387904 ≤ x ∧ x ≤ 4611686018427387904) && decide (-4611686018427387904 ≤ y ∧ y ≤ 4611686018427387904)) && decide (y ≠ 0)) (lowN x y) (lowD x y))) := by
  by_cases h0 : y = 0
  · rw [show ((decide (-4611686018427387904 ≤ x ∧ x ≤ 4611686018427387904) && decide (-4611686018427387904 ≤ y ∧ y ≤ 4611686018427387904)) && decide (y ≠ 0)) = false from by simp; omega]
    have t0 : (y == 0) = true := by simp; omega
    clear h0
    have HB := hide (show Below w.heap.size w (w.alloc (.cells #[.bool false, .slice none 0 0, .bool false, .slice none 0 0] 27)) from ((Below.refl _ _).alloc (by simp) _))
    go_enter Tryz.func19, Tryz.ntmps19
    go_wp2
    refine bodyPost_ret (v := .tuple #[.agg #[.bool false, .slice none 0 0, .bool false, .slice none 0 0], .bool false]) (by simp [results, Tryz.results19, go_sem]) rfl ?_
    exact ⟨(⟨⟨false, none, 0, 0⟩, ⟨false, none, 0, 0⟩⟩ : QV), (⟨⟨false, []⟩, ⟨false, []⟩⟩ : QD), false, rfl, unhide HB, zeroQ _ _ _, ansQ_none _ _⟩
  by_cases h1 : x < -4611686018427387904 ∨ 4611686018427387904 < x
  · rw [show ((decide (-4611686018427387904 ≤ x ∧ x ≤ 4611686018427387904) && decide (-4611686018427387904 ≤ y ∧ y ≤ 4611686018427387904)) && decide (y ≠ 0)) = false from by simp; omega]
    have t0 : (y == 0) = false := by simp; omega
    have HB := hide (show Below w.heap.size w (w.alloc (.cells #[.bool false, .slice none 0 0, .bool false, .slice none 0 0] 27)) from ((Below.refl _ _).alloc (by simp) _))
    go_enter Tryz.func19, Tryz.ntmps19
    go_wp2_with fail
    refine (beyond_any x _ true (by exact (decide_eq_true (by omega)).symm)).mono ?_
    rintro e w1 ⟨rfl, rfl⟩
    go_wp2
    refine bodyPost_ret (v := .tuple #[.agg #[.bool false, .slice none 0 0, .bool false, .slice none 0 0], .bool false]) (by simp [results, Tryz.results19, go_sem]) rfl ?_
    exact ⟨(⟨⟨false, none, 0, 0⟩, ⟨false, none, 0, 0⟩⟩ : QV), (⟨⟨false, []⟩, ⟨false, []⟩⟩ : QD), false, rfl, unhide HB, zeroQ _ _ _, ansQ_none _ _⟩
  by_cases h2 : y < -4611686018427387904 ∨ 4611686018427387904 < y
  · rw [show ((decide (-4611686018427387904 ≤ x ∧ x ≤ 4611686018427387904) && decide (-4611686018427387904 ≤ y ∧ y ≤ 4611686018427387904)) && decide (y ≠ 0)) = false from by simp; omega]
    have t0 : (y == 0) = false := by simp; omega
    have HB := hide (show Below w.heap.size w (w.alloc (.cells #[.bool false, .slice none 0 0, .bool false, .slice none 0 0] 27)) from ((Below.refl _ _).alloc (by simp) _))
    go_enter Tryz.func19, Tryz.ntmps19
    go_wp2_with fail
    refine (beyond_any x _ false (by exact (decide_eq_false (by omega)).symm)).mono ?_
    rintro e w1 ⟨rfl, rfl⟩
    go_wp2_with fail
    refine (beyond_any y _ true (by exact (decide_eq_true (by omega)).symm)).mono ?_
    rintro e w2 ⟨rfl, rfl⟩
    go_wp2
    refine bodyPost_ret (v := .tuple #[.agg #[.bool false, .slice none 0 0, .bool false, .slice none 0 0], .bool false]) (by simp [results, Tryz.results19, go_sem]) rfl ?_
    exact ⟨(⟨⟨false, none, 0, 0⟩, ⟨false, none, 0, 0⟩⟩ : QV), (⟨⟨false, []⟩, ⟨false, []⟩⟩ : QD), false, rfl, unhide HB, zeroQ _ _ _, ansQ_none _ _⟩
  rw [show ((decide (-4611686018427387904 ≤ x ∧ x ≤ 4611686018427387904) && decide (-4611686018427387904 ≤ y ∧ y ≤ 4611686018427387904)) && decide (y ≠ 0)) = true from by simp; omega]
  have HZ := hide (show y ≠ 0 by omega)
  have t0 : (y == 0) = false := by simp; omega
  have B0 := hide (show Below w.heap.size w (w.alloc (.cells #[.bool false, .slice none 0 0, .bool false, .slice none 0 0] 27)) from ((Below.refl _ _).alloc (by simp) _))
  go_enter Tryz.func19, Tryz.ntmps19
  go_wp2_with fail
  refine (beyond_any x _ false (by exact (decide_eq_false (by omega)).symm)).mono ?_
  rintro e w1 ⟨rfl, rfl⟩
  go_wp2_with fail
  refine (beyond_any y _ false (by exact (decide_eq_false (by omega)).symm)).mono ?_
  rintro e w2 ⟨rfl, rfl⟩
  go_wp2_with fail
  refine (ofI_v x _ (by omega) (by omega)).mono ?_
  rintro e w3 ⟨x1, l1, rfl, hb, o1, a1, n1⟩
  have s3 : w.heap.size < w3.heap.size := by have := hb.size; simp at this; omega
  have k0_0 : w3.cell? ⟨w.heap.size, 0, none⟩ = some (.bool false) := cell_later hb (by simp [go_sem])
  have k0_1 : w3.cell? ⟨w.heap.size, 1, none⟩ = some (.slice none 0 0) := cell_later hb (by simp [go_sem])
  have k0_2 : w3.cell? ⟨w.heap.size, 2, none⟩ = some (.bool false) := cell_later hb (by simp [go_sem])
  have k0_3 : w3.cell? ⟨w.heap.size, 3, none⟩ = some (.slice none 0 0) := cell_later hb (by simp [go_sem])
  have z0 : ∀ o, w3.frozen? ⟨w.heap.size, o, none⟩ = false := fun o => frozen_later hb (by simp) (by simp [go_sem])
  have P1 := hide (outN_ow o1 a1 n1)
  have HB := hide (below_on (unhide B0) hb)
  clear hb
  clear o1 a1 n1
  go_wp2_with fail
  refine (ofI_v y _ (by omega) (by omega)).mono ?_
  rintro e w4 ⟨x2, l2, rfl, hb, o2, a2, n2⟩
  have s4 := hb.size
  replace z0 := fun o => frozen_later hb (World.block_lt_of_cell? _ _ k0_0) (z0 o)
  replace k0_0 := cell_later hb k0_0
  replace k0_1 := cell_later hb k0_1
  replace k0_2 := cell_later hb k0_2
  replace k0_3 := cell_later hb k0_3
  replace P1 := hide ((unhide P1).later hb)
  have P2 := hide (outN_ow o2 a2 n2)
  replace HB := hide (below_on (unhide HB) hb)
  clear hb
  clear o2 a2 n2
  go_wp2_with fail
  refine (lowI x1 x2 x y _ (unhide P1).is (unhide P2).is (unhide HZ) ((Bd.int wx.1 wx.2).mono (by omega)) ((Bd.int wy.1 wy.2).mono (by omega))).mono ?_
  rintro e w5 ⟨r, zs, us, rfl, hb, or, ar, nz, nu⟩
  have s5 := hb.size
  have NN := hide (And.intro nz nu)
  replace z0 := fun o => frozen_later hb (World.block_lt_of_cell? _ _ k0_0) (z0 o)
  replace k0_0 := cell_later hb k0_0
  replace k0_1 := cell_later hb k0_1
  replace k0_2 := cell_later hb k0_2
  replace k0_3 := cell_later hb k0_3
  replace P1 := hide ((unhide P1).later hb)
  replace P2 := hide ((unhide P2).later hb)
  have OR := hide (or)
  replace HB := hide (below_on (unhide HB) hb)
  clear hb
  clear or ar nz nu
  go_wp2
  refine bodyPost_ret (v := .tuple #[.agg #[.bool r.num.g, .slice r.num.a r.num.n r.num.c, .bool r.den.g, .slice r.den.a r.den.n r.den.c], .bool true]) (by simp [results, Tryz.results19, go_sem, k0_0, k0_1, k0_2, k0_3]) rfl ?_
  exact retQ_fin (v := r) (d := ⟨⟨decide (lowN x y < 0), zs⟩, ⟨decide (lowD x y < 0), us⟩⟩) (R := w.heap.size) (Nat.le_refl _) (unhide HB) (metQ_but (w5 := w5) (v := r) (G := w.heap.size)) ((unhide OR).wide (by omega) (Nat.le_refl _)) (.inl ⟨rfl, zs, us, (unhide NN).1, (unhide NN).2, .inl ⟨Nat.le_trans ((unhide NN).1.len_le (lowN_bd (Bd.int wx.1 wx.2))) (by omega), Nat.le_trans ((unhide NN).2.len_le (lowD_bd (Bd.int wy.1 wy.2))) (by omega), rfl, rfl⟩⟩)

set_option maxHeartbeats 4000000 in
theorem RatOfRS (x y : Int) (w : World) (wx : -9223372036854775808 ≤ x ∧ x ≤ 9223372036854775807) (wy : -9223372036854775808 ≤ y ∧ y ≤ 9223372036854775807) :
    Calls Tryz.prog 20 #[.int .i64 x, .int .i64 y] w (RetQ w (AnsQ ((decide (-4611686018427387904 ≤ x ∧ x ≤ 4611686018427387904) && decide (-4611686018427387904 ≤ y ∧ y ≤ 4611686018427387904)) && decide (y ≠ 0)) (lowN x y) (lowD x y))) := by
  by_cases h0 : x < -4611686018427387904 ∨ 4611686018427387904 < x
  · rw [show ((decide (-4611686018427387904 ≤ x ∧ x ≤ 4611686018427387904) && decide (-4611686018427387904 ≤ y ∧ y ≤ 4611686018427387904)) && decide (y ≠ 0)) = false from by simp; omega]
    have HB := hide (show Below w.heap.size w (w.alloc (.cells #[.bool false, .slice none 0 0, .bool false, .slice none 0 0] 27)) from ((Below.refl _ _).alloc (by simp) _))
    go_enter Tryz.func20, Tryz.ntmps20
    go_wp2_with fail
    refine (in_any x _ _ _ false (by exact (decide_eq_false (by omega)).symm)).mono ?_
    rintro e w1 ⟨rfl, rfl⟩
    go_wp2
    refine bodyPost_ret (v := .tuple #[.agg #[.bool false, .slice none 0 0, .bool false, .slice none 0 0], .bool false]) (by simp [results, Tryz.results20, go_sem]) rfl ?_
    exact ⟨(⟨⟨false, none, 0, 0⟩, ⟨false, none, 0, 0⟩⟩ : QV), (⟨⟨false, []⟩, ⟨false, []⟩⟩ : QD), false, rfl, unhide HB, zeroQ _ _ _, ansQ_none _ _⟩
  by_cases h1 : y < -4611686018427387904 ∨ 4611686018427387904 < y
  · rw [show ((decide (-4611686018427387904 ≤ x ∧ x ≤ 4611686018427387904) && decide (-4611686018427387904 ≤ y ∧ y ≤ 4611686018427387904)) && decide (y ≠ 0)) = false from by simp; omega]
    have HB := hide (show Below w.heap.size w (w.alloc (.cells #[.bool false, .slice none 0 0, .bool false, .slice none 0 0] 27)) from ((Below.refl _ _).alloc (by simp) _))
    go_enter Tryz.func20, Tryz.ntmps20
    go_wp2_with fail
    refine (in_any x _ _ _ true (by exact (decide_eq_true (by omega)).symm)).mono ?_
    rintro e w1 ⟨rfl, rfl⟩
    go_wp2_with fail
    refine (in_any y _ _ _ false (by exact (decide_eq_false (by omega)).symm)).mono ?_
    rintro e w2 ⟨rfl, rfl⟩
    go_wp2
    refine bodyPost_ret (v := .tuple #[.agg #[.bool false, .slice none 0 0, .bool false, .slice none 0 0], .bool false]) (by simp [results, Tryz.results20, go_sem]) rfl ?_
    exact ⟨(⟨⟨false, none, 0, 0⟩, ⟨false, none, 0, 0⟩⟩ : QV), (⟨⟨false, []⟩, ⟨false, []⟩⟩ : QD), false, rfl, unhide HB, zeroQ _ _ _, ansQ_none _ _⟩
  by_cases h2 : y = 0
  · rw [show ((decide (-4611686018427387904 ≤ x ∧ x ≤ 4611686018427387904) && decide (-4611686018427387904 ≤ y ∧ y ≤ 4611686018427387904)) && decide (y ≠ 0)) = false from by simp; omega]
    have t0 : (y == 0) = true := by simp; omega
    clear h2
    have HB := hide (show Below w.heap.size w (w.alloc (.cells #[.bool false, .slice none 0 0, .bool false, .slice none 0 0] 27)) from ((Below.refl _ _).alloc (by simp) _))
    go_enter Tryz.func20, Tryz.ntmps20
    go_wp2_with fail
    refine (in_any x _ _ _ true (by exact (decide_eq_true (by omega)).symm)).mono ?_
    rintro e w1 ⟨rfl, rfl⟩
    go_wp2_with fail
    refine (in_any y _ _ _ true (by exact (decide_eq_true (by omega)).symm)).mono ?_
    rintro e w2 ⟨rfl, rfl⟩
    go_wp2
    refine bodyPost_ret (v := .tuple #[.agg #[.bool false, .slice none 0 0, .bool false, .slice none 0 0], .bool false]) (by simp [results, Tryz.results20, go_sem]) rfl ?_
    exact ⟨(⟨⟨false, none, 0, 0⟩, ⟨false, none, 0, 0⟩⟩ : QV), (⟨⟨false, []⟩, ⟨false, []⟩⟩ : QD), false, rfl, unhide HB, zeroQ _ _ _, ansQ_none _ _⟩
  rw [show ((decide (-4611686018427387904 ≤ x ∧ x ≤ 4611686018427387904) && decide (-4611686018427387904 ≤ y ∧ y ≤ 4611686018427387904)) && decide (y ≠ 0)) = true from by simp; omega]
  have HZ := hide (show y ≠ 0 by omega)
  have t0 : (y == 0) = false := by simp; omega
  have B0 := hide (show Below w.heap.size w (w.alloc (.cells #[.bool false, .slice none 0 0, .bool false, .slice none 0 0] 27)) from ((Below.refl _ _).alloc (by simp) _))
  go_enter Tryz.func20, Tryz.ntmps20
  go_wp2_with fail
  refine (in_any x _ _ _ true (by exact (decide_eq_true (by omega)).symm)).mono ?_
  rintro e w1 ⟨rfl, rfl⟩
  go_wp2_with fail
  refine (in_any y _ _ _ true (by exact (decide_eq_true (by omega)).symm)).mono ?_
  rintro e w2 ⟨rfl, rfl⟩
  go_wp2_with fail
  refine (ofS_v x _ (by omega) (by omega)).mono ?_
  rintro e w3 ⟨x1, l1, rfl, hb, o1, a1, n1⟩
  have s3 : w.heap.size < w3.heap.size := by have := hb.size; simp at this; omega
  have k0_0 : w3.cell? ⟨w.heap.size, 0, none⟩ = some (.bool false) := cell_later hb (by simp [go_sem])
  have k0_1 : w3.cell? ⟨w.heap.size, 1, none⟩ = some (.slice none 0 0) := cell_later hb (by simp [go_sem])
  have k0_2 : w3.cell? ⟨w.heap.size, 2, none⟩ = some (.bool false) := cell_later hb (by simp [go_sem])
  have k0_3 : w3.cell? ⟨w.heap.size, 3, none⟩ = some (.slice none 0 0) := cell_later hb (by simp [go_sem])
  have z0 : ∀ o, w3.frozen? ⟨w.heap.size, o, none⟩ = false := fun o => frozen_later hb (by simp) (by simp [go_sem])
  have P1 := hide (outN_ow o1 a1 n1)
  have HB := hide (below_on (unhide B0) hb)
  clear hb
  clear o1 a1 n1
  go_wp2_with fail
  refine (ofS_v y _ (by omega) (by omega)).mono ?_
  rintro e w4 ⟨x2, l2, rfl, hb, o2, a2, n2⟩
  have s4 := hb.size
  replace z0 := fun o => frozen_later hb (World.block_lt_of_cell? _ _ k0_0) (z0 o)
  replace k0_0 := cell_later hb k0_0
  replace k0_1 := cell_later hb k0_1
  replace k0_2 := cell_later hb k0_2
  replace k0_3 := cell_later hb k0_3
  replace P1 := hide ((unhide P1).later hb)
  have P2 := hide (outN_ow o2 a2 n2)
  replace HB := hide (below_on (unhide HB) hb)
  clear hb
  clear o2 a2 n2
  go_wp2_with fail
  refine (lowS2 x1 x2 x y _ (unhide P1).is (unhide P2).is (unhide HZ) ((Bd.int wx.1 wx.2).mono (by omega)) ((Bd.int wy.1 wy.2).mono (by omega))).mono ?_
  rintro e w5 ⟨r, zs, us, rfl, hb, or, ar, nz, nu⟩
  have s5 := hb.size
  have NN := hide (And.intro nz nu)
  replace z0 := fun o => frozen_later hb (World.block_lt_of_cell? _ _ k0_0) (z0 o)
  replace k0_0 := cell_later hb k0_0
  replace k0_1 := cell_later hb k0_1
  replace k0_2 := cell_later hb k0_2
  replace k0_3 := cell_later hb k0_3
  replace P1 := hide ((unhide P1).later hb)
  replace P2 := hide ((unhide P2).later hb)
  have OR := hide (or)
  replace HB := hide (below_on (unhide HB) hb)
  clear hb
  clear or ar nz nu
  go_wp2
  refine bodyPost_ret (v := .tuple #[.agg #[.bool r.num.g, .slice r.num.a r.num.n r.num.c, .bool r.den.g, .slice r.den.a r.den.n r.den.c], .bool true]) (by simp [results, Tryz.results20, go_sem, k0_0, k0_1, k0_2, k0_3]) rfl ?_
  exact retQ_fin (v := r) (d := ⟨⟨decide (lowN x y < 0), zs⟩, ⟨decide (lowD x y < 0), us⟩⟩) (R := w.heap.size) (Nat.le_refl _) (unhide HB) (metQ_but (w5 := w5) (v := r) (G := w.heap.size)) ((unhide OR).wide (by omega) (Nat.le_refl _)) (.inl ⟨rfl, zs, us, (unhide NN).1, (unhide NN).2, .inl ⟨Nat.le_trans ((unhide NN).1.len_le (lowN_bd (Bd.int wx.1 wx.2))) (by omega), Nat.le_trans ((unhide NN).2.len_le (lowD_bd (Bd.int wy.1 wy.2))) (by omega), rfl, rfl⟩⟩)
end Go.Proofs.YtdgonpbponnnaaaGreatDoor
