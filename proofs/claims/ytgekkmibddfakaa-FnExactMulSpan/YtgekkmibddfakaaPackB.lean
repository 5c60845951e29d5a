/- The least span of some fractions: the specification's l3Of. No condition beyond those typed. Written by mkl3of.py. -/
import Derived.Test.YtgekkmibddfakaaPackA
namespace Go.Proofs.Ytgekkmibddfakaa
open Go.RowKit
set_option linter.unusedVariables false
set_option maxRecDepth 100000
set_option linter.unusedSimpArgs false

set_option maxHeartbeats 2000000 in
theorem spanFits_v (v : SV) (w : World) (m1 : v.lo.den.n ≤ maxLen) (m2 : v.hi.den.n ≤ maxLen) :
    Calls Try.prog 184 #[.agg #[.bool v.lo.num.g, .slice v.lo.num.a v.lo.num.n v.lo.num.c, .bool v.lo.den.g, .slice v.lo.den.a v.lo.den.n v.lo.den.c, .bool v.hi.num.g, .slice v.hi.num.a v.hi.num.n v.hi.num.c, .bool v.hi.den.g, .slice v.hi.den.a v.hi.den.n v.hi.den.c]] w fun e w' => e = .returned (.bool (decide ((v.lo.den.n ≠ 0 ∧ v.lo.num.n ≤ 40 ∧ v.lo.den.n ≤ 40) ∧ (v.hi.den.n ≠ 0 ∧ v.hi.num.n ≤ 40 ∧ v.hi.den.n ≤ 40)))) ∧ Below w.heap.size w w' := by
  cases c1 : decide (v.lo.den.n ≠ 0 ∧ v.lo.num.n ≤ 40 ∧ v.lo.den.n ≤ 40)
  · have F1 := hide (fun w1 => fitsI v.lo w1 m1)
    have F2 := hide (fun w1 => fitsI v.hi w1 m2)
    rw [c1] at F1
    rw [show decide ((v.lo.den.n ≠ 0 ∧ v.lo.num.n ≤ 40 ∧ v.lo.den.n ≤ 40) ∧ (v.hi.den.n ≠ 0 ∧ v.hi.num.n ≤ 40 ∧ v.hi.den.n ≤ 40)) = false from decide_eq_false (fun h => absurd h.1 (of_decide_eq_false c1))]
    clear c1
    have B0 := hide (show Below w.heap.size w (w.alloc (.cells #[.bool v.lo.num.g, .slice v.lo.num.a v.lo.num.n v.lo.num.c, .bool v.lo.den.g, .slice v.lo.den.a v.lo.den.n v.lo.den.c, .bool v.hi.num.g, .slice v.hi.num.a v.hi.num.n v.hi.num.c, .bool v.hi.den.g, .slice v.hi.den.a v.hi.den.n v.hi.den.c] 62)) from ((Below.refl _ _).alloc (by simp) _))
    go_enter Try.func184, Try.ntmps184
    go_wp2_with fail
    refine (unhide F1 _).mono ?_
    rintro e w1 ⟨rfl, hb⟩
    have HB := hide (below_on (unhide B0) hb)
    clear hb
    go_wp2
    go_ret
    exact ⟨rfl, unhide HB⟩
  cases c2 : decide (v.hi.den.n ≠ 0 ∧ v.hi.num.n ≤ 40 ∧ v.hi.den.n ≤ 40)
  · have F1 := hide (fun w1 => fitsI v.lo w1 m1)
    have F2 := hide (fun w1 => fitsI v.hi w1 m2)
    rw [c1] at F1
    rw [c2] at F2
    rw [show decide ((v.lo.den.n ≠ 0 ∧ v.lo.num.n ≤ 40 ∧ v.lo.den.n ≤ 40) ∧ (v.hi.den.n ≠ 0 ∧ v.hi.num.n ≤ 40 ∧ v.hi.den.n ≤ 40)) = false from decide_eq_false (fun h => absurd h.2 (of_decide_eq_false c2))]
    clear c1 c2
    have B0 := hide (show Below w.heap.size w (w.alloc (.cells #[.bool v.lo.num.g, .slice v.lo.num.a v.lo.num.n v.lo.num.c, .bool v.lo.den.g, .slice v.lo.den.a v.lo.den.n v.lo.den.c, .bool v.hi.num.g, .slice v.hi.num.a v.hi.num.n v.hi.num.c, .bool v.hi.den.g, .slice v.hi.den.a v.hi.den.n v.hi.den.c] 62)) from ((Below.refl _ _).alloc (by simp) _))
    go_enter Try.func184, Try.ntmps184
    go_wp2_with fail
    refine (unhide F1 _).mono ?_
    rintro e w1 ⟨rfl, hb⟩
    have k0_4 : w1.cell? ⟨w.heap.size, 4, none⟩ = some (.bool v.hi.num.g) := cell_later hb (by simp [go_sem])
    have k0_5 : w1.cell? ⟨w.heap.size, 5, none⟩ = some (.slice v.hi.num.a v.hi.num.n v.hi.num.c) := cell_later hb (by simp [go_sem])
    have k0_6 : w1.cell? ⟨w.heap.size, 6, none⟩ = some (.bool v.hi.den.g) := cell_later hb (by simp [go_sem])
    have k0_7 : w1.cell? ⟨w.heap.size, 7, none⟩ = some (.slice v.hi.den.a v.hi.den.n v.hi.den.c) := cell_later hb (by simp [go_sem])
    have HB := hide (below_on (unhide B0) hb)
    clear hb
    go_wp2_with fail
    refine (unhide F2 _).mono ?_
    rintro e w2 ⟨rfl, hb⟩
    clear k0_4 k0_5 k0_6 k0_7
    replace HB := hide (below_on (unhide HB) hb)
    clear hb
    go_wp2
    go_ret
    exact ⟨rfl, unhide HB⟩
  · have F1 := hide (fun w1 => fitsI v.lo w1 m1)
    have F2 := hide (fun w1 => fitsI v.hi w1 m2)
    rw [c1] at F1
    rw [c2] at F2
    rw [show decide ((v.lo.den.n ≠ 0 ∧ v.lo.num.n ≤ 40 ∧ v.lo.den.n ≤ 40) ∧ (v.hi.den.n ≠ 0 ∧ v.hi.num.n ≤ 40 ∧ v.hi.den.n ≤ 40)) = true from decide_eq_true ⟨of_decide_eq_true c1, of_decide_eq_true c2⟩]
    clear c1 c2
    have B0 := hide (show Below w.heap.size w (w.alloc (.cells #[.bool v.lo.num.g, .slice v.lo.num.a v.lo.num.n v.lo.num.c, .bool v.lo.den.g, .slice v.lo.den.a v.lo.den.n v.lo.den.c, .bool v.hi.num.g, .slice v.hi.num.a v.hi.num.n v.hi.num.c, .bool v.hi.den.g, .slice v.hi.den.a v.hi.den.n v.hi.den.c] 62)) from ((Below.refl _ _).alloc (by simp) _))
    go_enter Try.func184, Try.ntmps184
    go_wp2_with fail
    refine (unhide F1 _).mono ?_
    rintro e w1 ⟨rfl, hb⟩
    have k0_4 : w1.cell? ⟨w.heap.size, 4, none⟩ = some (.bool v.hi.num.g) := cell_later hb (by simp [go_sem])
    have k0_5 : w1.cell? ⟨w.heap.size, 5, none⟩ = some (.slice v.hi.num.a v.hi.num.n v.hi.num.c) := cell_later hb (by simp [go_sem])
    have k0_6 : w1.cell? ⟨w.heap.size, 6, none⟩ = some (.bool v.hi.den.g) := cell_later hb (by simp [go_sem])
    have k0_7 : w1.cell? ⟨w.heap.size, 7, none⟩ = some (.slice v.hi.den.a v.hi.den.n v.hi.den.c) := cell_later hb (by simp [go_sem])
    have HB := hide (below_on (unhide B0) hb)
    clear hb
    go_wp2_with fail
    refine (unhide F2 _).mono ?_
    rintro e w2 ⟨rfl, hb⟩
    clear k0_4 k0_5 k0_6 k0_7
    replace HB := hide (below_on (unhide HB) hb)
    clear hb
    go_wp2
    go_ret
    exact ⟨rfl, unhide HB⟩

def RetSin (lo hi : Nat) (w : World) (U : SD → Bool → Prop) (e : Ending) (w' : World) : Prop := ∃ (v : SV) (d : SD) (ok : Bool), e = .returned (.tuple #[.agg #[.bool v.lo.num.g, .slice v.lo.num.a v.lo.num.n v.lo.num.c, .bool v.lo.den.g, .slice v.lo.den.a v.lo.den.n v.lo.den.c, .bool v.hi.num.g, .slice v.hi.num.a v.hi.num.n v.hi.num.c, .bool v.hi.den.g, .slice v.hi.den.a v.hi.den.n v.hi.den.c], .bool ok]) ∧ Below w.heap.size w w' ∧ AllOwn lo hi w' [(v.lo.num, d.lo.num), (v.lo.den, d.lo.den), (v.hi.num, d.hi.num), (v.hi.den, d.hi.den)] ∧ U d ok
set_option maxHeartbeats 2000000 in
theorem whereS_yes (v : SV) (d : SD) (lo hi : Nat) (w : World) (ho : AllOwn lo hi w [(v.lo.num, d.lo.num), (v.lo.den, d.lo.den), (v.hi.num, d.hi.num), (v.hi.den, d.hi.den)]) (hh : hi ≤ w.heap.size) (m1 : v.lo.den.n ≤ maxLen) (m2 : v.hi.den.n ≤ maxLen) (hf : decide ((v.lo.den.n ≠ 0 ∧ v.lo.num.n ≤ 40 ∧ v.lo.den.n ≤ 40) ∧ (v.hi.den.n ≠ 0 ∧ v.hi.num.n ≤ 40 ∧ v.hi.den.n ≤ 40)) = true) :
    Calls Try.prog 183 #[.agg #[.bool v.lo.num.g, .slice v.lo.num.a v.lo.num.n v.lo.num.c, .bool v.lo.den.g, .slice v.lo.den.a v.lo.den.n v.lo.den.c, .bool v.hi.num.g, .slice v.hi.num.a v.hi.num.n v.hi.num.c, .bool v.hi.den.g, .slice v.hi.den.a v.hi.den.n v.hi.den.c], .func (Fn.func 184) #[] #[]] w (RetSin lo hi w (fun d' ok => d' = d ∧ ok = true)) := by
  have HO := hide ho
  clear ho
  have HF := hide (fun w1 => spanFits_v v w1 m1 m2)
  rw [hf] at HF
  clear hf
  have B0 := hide (show Below w.heap.size w ((w.alloc (.cells #[.bool v.lo.num.g, .slice v.lo.num.a v.lo.num.n v.lo.num.c, .bool v.lo.den.g, .slice v.lo.den.a v.lo.den.n v.lo.den.c, .bool v.hi.num.g, .slice v.hi.num.a v.hi.num.n v.hi.num.c, .bool v.hi.den.g, .slice v.hi.den.a v.hi.den.n v.hi.den.c] 62)).alloc (.cells #[.bool false, .slice none 0 0, .bool false, .slice none 0 0, .bool false, .slice none 0 0, .bool false, .slice none 0 0] 62)) from (((Below.refl _ _).alloc (by simp) _).alloc (by simp) _))
  go_enter Try.func183, Try.ntmps183
  go_wp2_with fail
  refine (unhide HF _).mono ?_
  rintro e w1 ⟨rfl, hb⟩
  have s1 : w.heap.size + 1 < w1.heap.size := by have := hb.size; simp at this; omega
  have k0_0 : w1.cell? ⟨w.heap.size, 0, none⟩ = some (.bool v.lo.num.g) := cell_later hb (by simp [go_sem])
  have k0_1 : w1.cell? ⟨w.heap.size, 1, none⟩ = some (.slice v.lo.num.a v.lo.num.n v.lo.num.c) := cell_later hb (by simp [go_sem])
  have k0_2 : w1.cell? ⟨w.heap.size, 2, none⟩ = some (.bool v.lo.den.g) := cell_later hb (by simp [go_sem])
  have k0_3 : w1.cell? ⟨w.heap.size, 3, none⟩ = some (.slice v.lo.den.a v.lo.den.n v.lo.den.c) := cell_later hb (by simp [go_sem])
  have k0_4 : w1.cell? ⟨w.heap.size, 4, none⟩ = some (.bool v.hi.num.g) := cell_later hb (by simp [go_sem])
  have k0_5 : w1.cell? ⟨w.heap.size, 5, none⟩ = some (.slice v.hi.num.a v.hi.num.n v.hi.num.c) := cell_later hb (by simp [go_sem])
  have k0_6 : w1.cell? ⟨w.heap.size, 6, none⟩ = some (.bool v.hi.den.g) := cell_later hb (by simp [go_sem])
  have k0_7 : w1.cell? ⟨w.heap.size, 7, none⟩ = some (.slice v.hi.den.a v.hi.den.n v.hi.den.c) := cell_later hb (by simp [go_sem])
  have k1_0 : w1.cell? ⟨w.heap.size + 1, 0, none⟩ = some (.bool false) := cell_later hb (by simp [go_sem])
  have k1_1 : w1.cell? ⟨w.heap.size + 1, 1, none⟩ = some (.slice none 0 0) := cell_later hb (by simp [go_sem])
  have k1_2 : w1.cell? ⟨w.heap.size + 1, 2, none⟩ = some (.bool false) := cell_later hb (by simp [go_sem])
  have k1_3 : w1.cell? ⟨w.heap.size + 1, 3, none⟩ = some (.slice none 0 0) := cell_later hb (by simp [go_sem])
  have k1_4 : w1.cell? ⟨w.heap.size + 1, 4, none⟩ = some (.bool false) := cell_later hb (by simp [go_sem])
  have k1_5 : w1.cell? ⟨w.heap.size + 1, 5, none⟩ = some (.slice none 0 0) := cell_later hb (by simp [go_sem])
  have k1_6 : w1.cell? ⟨w.heap.size + 1, 6, none⟩ = some (.bool false) := cell_later hb (by simp [go_sem])
  have k1_7 : w1.cell? ⟨w.heap.size + 1, 7, none⟩ = some (.slice none 0 0) := cell_later hb (by simp [go_sem])
  have z1 : ∀ o, w1.frozen? ⟨w.heap.size + 1, o, none⟩ = false := fun o => frozen_later hb (by simp) (by simp [go_sem])
  have HB := hide (below_on (unhide B0) hb)
  clear hb
  go_wp2
  refine bodyPost_ret (v := .tuple #[.agg #[.bool v.lo.num.g, .slice v.lo.num.a v.lo.num.n v.lo.num.c, .bool v.lo.den.g, .slice v.lo.den.a v.lo.den.n v.lo.den.c, .bool v.hi.num.g, .slice v.hi.num.a v.hi.num.n v.hi.num.c, .bool v.hi.den.g, .slice v.hi.den.a v.hi.den.n v.hi.den.c], .bool true]) (by simp [results, Try.results183, go_sem, k1_0, k1_1, k1_2, k1_3, k1_4, k1_5, k1_6, k1_7]) rfl ?_
  have bt := metS_but (w5 := w1) (v := v) (G := w.heap.size + 1)
  exact ⟨v, d, true, rfl, bt.below (unhide HB) (by omega) (unhide HB).size, ((unhide HO).later (unhide HB)).but bt (.inl (by omega)), rfl, rfl⟩

set_option maxHeartbeats 2000000 in
theorem whereS_no (v : SV) (lo hi : Nat) (w : World) (m1 : v.lo.den.n ≤ maxLen) (m2 : v.hi.den.n ≤ maxLen) (hf : decide ((v.lo.den.n ≠ 0 ∧ v.lo.num.n ≤ 40 ∧ v.lo.den.n ≤ 40) ∧ (v.hi.den.n ≠ 0 ∧ v.hi.num.n ≤ 40 ∧ v.hi.den.n ≤ 40)) = false) :
    Calls Try.prog 183 #[.agg #[.bool v.lo.num.g, .slice v.lo.num.a v.lo.num.n v.lo.num.c, .bool v.lo.den.g, .slice v.lo.den.a v.lo.den.n v.lo.den.c, .bool v.hi.num.g, .slice v.hi.num.a v.hi.num.n v.hi.num.c, .bool v.hi.den.g, .slice v.hi.den.a v.hi.den.n v.hi.den.c], .func (Fn.func 184) #[] #[]] w (RetSin lo hi w (fun d' ok => d' = (⟨⟨⟨false, []⟩, ⟨false, []⟩⟩, ⟨⟨false, []⟩, ⟨false, []⟩⟩⟩ : SD) ∧ ok = false)) := by
  have HF := hide (fun w1 => spanFits_v v w1 m1 m2)
  rw [hf] at HF
  clear hf
  have B0 := hide (show Below w.heap.size w ((w.alloc (.cells #[.bool v.lo.num.g, .slice v.lo.num.a v.lo.num.n v.lo.num.c, .bool v.lo.den.g, .slice v.lo.den.a v.lo.den.n v.lo.den.c, .bool v.hi.num.g, .slice v.hi.num.a v.hi.num.n v.hi.num.c, .bool v.hi.den.g, .slice v.hi.den.a v.hi.den.n v.hi.den.c] 62)).alloc (.cells #[.bool false, .slice none 0 0, .bool false, .slice none 0 0, .bool false, .slice none 0 0, .bool false, .slice none 0 0] 62)) from (((Below.refl _ _).alloc (by simp) _).alloc (by simp) _))
  go_enter Try.func183, Try.ntmps183
  go_wp2_with fail
  refine (unhide HF _).mono ?_
  rintro e w1 ⟨rfl, hb⟩
  have s1 : w.heap.size + 1 < w1.heap.size := by have := hb.size; simp at this; omega
  have k1_0 : w1.cell? ⟨w.heap.size + 1, 0, none⟩ = some (.bool false) := cell_later hb (by simp [go_sem])
  have k1_1 : w1.cell? ⟨w.heap.size + 1, 1, none⟩ = some (.slice none 0 0) := cell_later hb (by simp [go_sem])
  have k1_2 : w1.cell? ⟨w.heap.size + 1, 2, none⟩ = some (.bool false) := cell_later hb (by simp [go_sem])
  have k1_3 : w1.cell? ⟨w.heap.size + 1, 3, none⟩ = some (.slice none 0 0) := cell_later hb (by simp [go_sem])
  have k1_4 : w1.cell? ⟨w.heap.size + 1, 4, none⟩ = some (.bool false) := cell_later hb (by simp [go_sem])
  have k1_5 : w1.cell? ⟨w.heap.size + 1, 5, none⟩ = some (.slice none 0 0) := cell_later hb (by simp [go_sem])
  have k1_6 : w1.cell? ⟨w.heap.size + 1, 6, none⟩ = some (.bool false) := cell_later hb (by simp [go_sem])
  have k1_7 : w1.cell? ⟨w.heap.size + 1, 7, none⟩ = some (.slice none 0 0) := cell_later hb (by simp [go_sem])
  have z1 : ∀ o, w1.frozen? ⟨w.heap.size + 1, o, none⟩ = false := fun o => frozen_later hb (by simp) (by simp [go_sem])
  have HB := hide (below_on (unhide B0) hb)
  clear hb
  go_upto_region 3 with fail
  have hb : Below w1.heap.size w1 (w1.alloc (.cells #[.bool false, .slice none 0 0, .bool false, .slice none 0 0, .bool false, .slice none 0 0, .bool false, .slice none 0 0] 62)) := ((Below.refl _ _).alloc (by simp) _)
  have k2_0 : (w1.alloc (.cells #[.bool false, .slice none 0 0, .bool false, .slice none 0 0, .bool false, .slice none 0 0, .bool false, .slice none 0 0] 62)).cell? ⟨w1.heap.size, 0, none⟩ = some (.bool false) := by simp [go_sem]
  have k2_1 : (w1.alloc (.cells #[.bool false, .slice none 0 0, .bool false, .slice none 0 0, .bool false, .slice none 0 0, .bool false, .slice none 0 0] 62)).cell? ⟨w1.heap.size, 1, none⟩ = some (.slice none 0 0) := by simp [go_sem]
  have k2_2 : (w1.alloc (.cells #[.bool false, .slice none 0 0, .bool false, .slice none 0 0, .bool false, .slice none 0 0, .bool false, .slice none 0 0] 62)).cell? ⟨w1.heap.size, 2, none⟩ = some (.bool false) := by simp [go_sem]
  have k2_3 : (w1.alloc (.cells #[.bool false, .slice none 0 0, .bool false, .slice none 0 0, .bool false, .slice none 0 0, .bool false, .slice none 0 0] 62)).cell? ⟨w1.heap.size, 3, none⟩ = some (.slice none 0 0) := by simp [go_sem]
  have k2_4 : (w1.alloc (.cells #[.bool false, .slice none 0 0, .bool false, .slice none 0 0, .bool false, .slice none 0 0, .bool false, .slice none 0 0] 62)).cell? ⟨w1.heap.size, 4, none⟩ = some (.bool false) := by simp [go_sem]
  have k2_5 : (w1.alloc (.cells #[.bool false, .slice none 0 0, .bool false, .slice none 0 0, .bool false, .slice none 0 0, .bool false, .slice none 0 0] 62)).cell? ⟨w1.heap.size, 5, none⟩ = some (.slice none 0 0) := by simp [go_sem]
  have k2_6 : (w1.alloc (.cells #[.bool false, .slice none 0 0, .bool false, .slice none 0 0, .bool false, .slice none 0 0, .bool false, .slice none 0 0] 62)).cell? ⟨w1.heap.size, 6, none⟩ = some (.bool false) := by simp [go_sem]
  have k2_7 : (w1.alloc (.cells #[.bool false, .slice none 0 0, .bool false, .slice none 0 0, .bool false, .slice none 0 0, .bool false, .slice none 0 0] 62)).cell? ⟨w1.heap.size, 7, none⟩ = some (.slice none 0 0) := by simp [go_sem]
  replace k1_0 : (w1.alloc (.cells #[.bool false, .slice none 0 0, .bool false, .slice none 0 0, .bool false, .slice none 0 0, .bool false, .slice none 0 0] 62)).cell? ⟨w.heap.size + 1, 0, none⟩ = some (.bool false) := (ca_other k1_0)
  replace k1_1 : (w1.alloc (.cells #[.bool false, .slice none 0 0, .bool false, .slice none 0 0, .bool false, .slice none 0 0, .bool false, .slice none 0 0] 62)).cell? ⟨w.heap.size + 1, 1, none⟩ = some (.slice none 0 0) := (ca_other k1_1)
  replace k1_2 : (w1.alloc (.cells #[.bool false, .slice none 0 0, .bool false, .slice none 0 0, .bool false, .slice none 0 0, .bool false, .slice none 0 0] 62)).cell? ⟨w.heap.size + 1, 2, none⟩ = some (.bool false) := (ca_other k1_2)
  replace k1_3 : (w1.alloc (.cells #[.bool false, .slice none 0 0, .bool false, .slice none 0 0, .bool false, .slice none 0 0, .bool false, .slice none 0 0] 62)).cell? ⟨w.heap.size + 1, 3, none⟩ = some (.slice none 0 0) := (ca_other k1_3)
  replace k1_4 : (w1.alloc (.cells #[.bool false, .slice none 0 0, .bool false, .slice none 0 0, .bool false, .slice none 0 0, .bool false, .slice none 0 0] 62)).cell? ⟨w.heap.size + 1, 4, none⟩ = some (.bool false) := (ca_other k1_4)
  replace k1_5 : (w1.alloc (.cells #[.bool false, .slice none 0 0, .bool false, .slice none 0 0, .bool false, .slice none 0 0, .bool false, .slice none 0 0] 62)).cell? ⟨w.heap.size + 1, 5, none⟩ = some (.slice none 0 0) := (ca_other k1_5)
  replace k1_6 : (w1.alloc (.cells #[.bool false, .slice none 0 0, .bool false, .slice none 0 0, .bool false, .slice none 0 0, .bool false, .slice none 0 0] 62)).cell? ⟨w.heap.size + 1, 6, none⟩ = some (.bool false) := (ca_other k1_6)
  replace k1_7 : (w1.alloc (.cells #[.bool false, .slice none 0 0, .bool false, .slice none 0 0, .bool false, .slice none 0 0, .bool false, .slice none 0 0] 62)).cell? ⟨w.heap.size + 1, 7, none⟩ = some (.slice none 0 0) := (ca_other k1_7)
  replace z1 : ∀ o, (w1.alloc (.cells #[.bool false, .slice none 0 0, .bool false, .slice none 0 0, .bool false, .slice none 0 0, .bool false, .slice none 0 0] 62)).frozen? ⟨w.heap.size + 1, o, none⟩ = false := fun o => frozen_later hb (by omega) (z1 o)
  replace HB := hide (below_on (unhide HB) hb)
  have szw2 := hb.size
  clear hb
  generalize (w1.alloc (.cells #[.bool false, .slice none 0 0, .bool false, .slice none 0 0, .bool false, .slice none 0 0, .bool false, .slice none 0 0] 62)) = w2 at *
  go_wp2
  refine bodyPost_ret (v := .tuple #[.agg #[.bool false, .slice none 0 0, .bool false, .slice none 0 0, .bool false, .slice none 0 0, .bool false, .slice none 0 0], .bool false]) (by simp [results, Try.results183, go_sem, k1_0, k1_1, k1_2, k1_3, k1_4, k1_5, k1_6, k1_7]) rfl ?_
  have bt := metS_but (w5 := w2) (v := (⟨⟨⟨false, none, 0, 0⟩, ⟨false, none, 0, 0⟩⟩, ⟨⟨false, none, 0, 0⟩, ⟨false, none, 0, 0⟩⟩⟩ : SV)) (G := w.heap.size + 1)
  exact ⟨(⟨⟨⟨false, none, 0, 0⟩, ⟨false, none, 0, 0⟩⟩, ⟨⟨false, none, 0, 0⟩, ⟨false, none, 0, 0⟩⟩⟩ : SV), (⟨⟨⟨false, []⟩, ⟨false, []⟩⟩, ⟨⟨false, []⟩, ⟨false, []⟩⟩⟩ : SD), false, rfl, bt.below (unhide HB) (by omega) (unhide HB).size, zeroS _ _ _, rfl, rfl⟩

theorem whereS (v : SV) (N D N' D' : Int) (xs us ys vs : List Int) (lo hi : Nat) (w : World) (ho : AllOwn lo hi w [(v.lo.num, ⟨decide (N < 0), xs⟩), (v.lo.den, ⟨decide (D < 0), us⟩), (v.hi.num, ⟨decide (N' < 0), ys⟩), (v.hi.den, ⟨decide (D' < 0), vs⟩)]) (hh : hi ≤ w.heap.size) (m1 : v.lo.den.n ≤ maxLen) (m2 : v.hi.den.n ≤ maxLen) (n1 : Nm xs N.natAbs) (n2 : Nm us D.natAbs) (n3 : Nm ys N'.natAbs) (n4 : Nm vs D'.natAbs) (hD : D ≠ 0) (hD' : D' ≠ 0) :
    Calls Try.prog 183 #[.agg #[.bool v.lo.num.g, .slice v.lo.num.a v.lo.num.n v.lo.num.c, .bool v.lo.den.g, .slice v.lo.den.a v.lo.den.n v.lo.den.c, .bool v.hi.num.g, .slice v.hi.num.a v.hi.num.n v.hi.num.c, .bool v.hi.den.g, .slice v.hi.den.a v.hi.den.n v.hi.den.c], .func (Fn.func 184) #[] #[]] w (RetSin lo hi w (AnsS true N D N' D')) := by
  have e1 : xs.length = v.lo.num.n := (ho.own (v.lo.num, ⟨decide (N < 0), xs⟩) (by simp)).len
  have e2 : us.length = v.lo.den.n := (ho.own (v.lo.den, ⟨decide (D < 0), us⟩) (by simp)).len
  have e3 : ys.length = v.hi.num.n := (ho.own (v.hi.num, ⟨decide (N' < 0), ys⟩) (by simp)).len
  have e4 : vs.length = v.hi.den.n := (ho.own (v.hi.den, ⟨decide (D' < 0), vs⟩) (by simp)).len
  have z1 : v.lo.den.n ≠ 0 := fun e => by have := n2.nil_iff.1 (List.length_eq_zero_iff.1 (e2.trans e)); omega
  have z2 : v.hi.den.n ≠ 0 := fun e => by have := n4.nil_iff.1 (List.length_eq_zero_iff.1 (e4.trans e)); omega
  by_cases hf : (v.lo.num.n ≤ 40 ∧ v.lo.den.n ≤ 40) ∧ (v.hi.num.n ≤ 40 ∧ v.hi.den.n ≤ 40)
  · refine (whereS_yes v ⟨⟨⟨decide (N < 0), xs⟩, ⟨decide (D < 0), us⟩⟩, ⟨⟨decide (N' < 0), ys⟩, ⟨decide (D' < 0), vs⟩⟩⟩ lo hi w ho hh m1 m2 (decide_eq_true ⟨⟨z1, hf.1⟩, ⟨z2, hf.2⟩⟩)).mono ?_
    rintro e w' ⟨u, d, ok, rfl, hb, hv, rfl, rfl⟩
    exact ⟨u, _, _, rfl, hb, hv, .inl ⟨rfl, xs, us, ys, vs, n1, n2, n3, n4, .inl ⟨by omega, by omega, rfl, rfl⟩⟩⟩
  · refine (whereS_no v lo hi w m1 m2 (decide_eq_false (fun h => hf ⟨h.1.2, h.2.2⟩))).mono ?_
    rintro e w' ⟨u, d, ok, rfl, hb, hv, rfl, rfl⟩
    exact ⟨u, _, _, rfl, hb, hv, .inl ⟨rfl, xs, us, ys, vs, n1, n2, n3, n4, .inr ⟨by rw [e1, e2, e3, e4]; exact hf, rfl, rfl⟩⟩⟩

set_option maxHeartbeats 2000000 in
theorem bothSS (v u : SV) (d e : SD) (w : World) (h : AllAr w [(v.lo.num, d.lo.num), (v.lo.den, d.lo.den), (v.hi.num, d.hi.num), (v.hi.den, d.hi.den)]) (h' : AllAr w [(u.lo.num, e.lo.num), (u.lo.den, e.lo.den), (u.hi.num, e.hi.num), (u.hi.den, e.hi.den)]) : Calls Try.prog 139 #[.agg #[.bool v.lo.num.g, .slice v.lo.num.a v.lo.num.n v.lo.num.c, .bool v.lo.den.g, .slice v.lo.den.a v.lo.den.n v.lo.den.c, .bool v.hi.num.g, .slice v.hi.num.a v.hi.num.n v.hi.num.c, .bool v.hi.den.g, .slice v.hi.den.a v.hi.den.n v.hi.den.c], .agg #[.bool u.lo.num.g, .slice u.lo.num.a u.lo.num.n u.lo.num.c, .bool u.lo.den.g, .slice u.lo.den.a u.lo.den.n u.lo.den.c, .bool u.hi.num.g, .slice u.hi.num.a u.hi.num.n u.hi.num.c, .bool u.hi.den.g, .slice u.hi.den.a u.hi.den.n u.hi.den.c]] w fun r w' => r = .returned (.bool (gS d && gS e)) ∧ Below w.heap.size w w' := by
  have H1 := hide h
  have H2 := hide h'
  clear h h'
  cases hg1 : gS d
  · have G1 := hide (fun w1 (k : AllAr w1 [(v.lo.num, d.lo.num), (v.lo.den, d.lo.den), (v.hi.num, d.hi.num), (v.hi.den, d.hi.den)]) => goodSS v d w1 k)
    rw [hg1] at G1
    rw [Bool.false_and]
    clear hg1
    have B0 := hide (show Below w.heap.size w ((w.alloc (.cells #[.bool v.lo.num.g, .slice v.lo.num.a v.lo.num.n v.lo.num.c, .bool v.lo.den.g, .slice v.lo.den.a v.lo.den.n v.lo.den.c, .bool v.hi.num.g, .slice v.hi.num.a v.hi.num.n v.hi.num.c, .bool v.hi.den.g, .slice v.hi.den.a v.hi.den.n v.hi.den.c] 62)).alloc (.cells #[.bool u.lo.num.g, .slice u.lo.num.a u.lo.num.n u.lo.num.c, .bool u.lo.den.g, .slice u.lo.den.a u.lo.den.n u.lo.den.c, .bool u.hi.num.g, .slice u.hi.num.a u.hi.num.n u.hi.num.c, .bool u.hi.den.g, .slice u.hi.den.a u.hi.den.n u.hi.den.c] 62)) from (((Below.refl _ _).alloc (by simp) _).alloc (by simp) _))
    go_enter Try.func139, Try.ntmps139
    go_wp2_with fail
    refine (unhide G1 _ ((unhide H1).later (unhide B0))).mono ?_
    rintro e w1 ⟨rfl, hb⟩
    have HB := hide (below_on (unhide B0) hb)
    clear hb
    go_wp2
    go_ret
    exact ⟨rfl, unhide HB⟩
  · have G1 := hide (fun w1 (k : AllAr w1 [(v.lo.num, d.lo.num), (v.lo.den, d.lo.den), (v.hi.num, d.hi.num), (v.hi.den, d.hi.den)]) => goodSS v d w1 k)
    rw [hg1] at G1
    have G2 := hide (fun w1 (k : AllAr w1 [(u.lo.num, e.lo.num), (u.lo.den, e.lo.den), (u.hi.num, e.hi.num), (u.hi.den, e.hi.den)]) => goodSS u e w1 k)
    rw [Bool.true_and]
    clear hg1
    have B0 := hide (show Below w.heap.size w ((w.alloc (.cells #[.bool v.lo.num.g, .slice v.lo.num.a v.lo.num.n v.lo.num.c, .bool v.lo.den.g, .slice v.lo.den.a v.lo.den.n v.lo.den.c, .bool v.hi.num.g, .slice v.hi.num.a v.hi.num.n v.hi.num.c, .bool v.hi.den.g, .slice v.hi.den.a v.hi.den.n v.hi.den.c] 62)).alloc (.cells #[.bool u.lo.num.g, .slice u.lo.num.a u.lo.num.n u.lo.num.c, .bool u.lo.den.g, .slice u.lo.den.a u.lo.den.n u.lo.den.c, .bool u.hi.num.g, .slice u.hi.num.a u.hi.num.n u.hi.num.c, .bool u.hi.den.g, .slice u.hi.den.a u.hi.den.n u.hi.den.c] 62)) from (((Below.refl _ _).alloc (by simp) _).alloc (by simp) _))
    go_enter Try.func139, Try.ntmps139
    go_wp2_with fail
    refine (unhide G1 _ ((unhide H1).later (unhide B0))).mono ?_
    rintro e w1 ⟨rfl, hb⟩
    have k1_0 : w1.cell? ⟨w.heap.size + 1, 0, none⟩ = some (.bool u.lo.num.g) := cell_later hb (by simp [go_sem])
    have k1_1 : w1.cell? ⟨w.heap.size + 1, 1, none⟩ = some (.slice u.lo.num.a u.lo.num.n u.lo.num.c) := cell_later hb (by simp [go_sem])
    have k1_2 : w1.cell? ⟨w.heap.size + 1, 2, none⟩ = some (.bool u.lo.den.g) := cell_later hb (by simp [go_sem])
    have k1_3 : w1.cell? ⟨w.heap.size + 1, 3, none⟩ = some (.slice u.lo.den.a u.lo.den.n u.lo.den.c) := cell_later hb (by simp [go_sem])
    have k1_4 : w1.cell? ⟨w.heap.size + 1, 4, none⟩ = some (.bool u.hi.num.g) := cell_later hb (by simp [go_sem])
    have k1_5 : w1.cell? ⟨w.heap.size + 1, 5, none⟩ = some (.slice u.hi.num.a u.hi.num.n u.hi.num.c) := cell_later hb (by simp [go_sem])
    have k1_6 : w1.cell? ⟨w.heap.size + 1, 6, none⟩ = some (.bool u.hi.den.g) := cell_later hb (by simp [go_sem])
    have k1_7 : w1.cell? ⟨w.heap.size + 1, 7, none⟩ = some (.slice u.hi.den.a u.hi.den.n u.hi.den.c) := cell_later hb (by simp [go_sem])
    have HB := hide (below_on (unhide B0) hb)
    clear hb
    go_wp2_with fail
    refine (unhide G2 _ ((unhide H2).later (unhide HB))).mono ?_
    rintro e w2 ⟨rfl, hb⟩
    clear k1_0 k1_1 k1_2 k1_3 k1_4 k1_5 k1_6 k1_7
    replace HB := hide (below_on (unhide HB) hb)
    clear hb
    go_wp2
    go_ret
    exact ⟨rfl, unhide HB⟩

end Go.Proofs.Ytgekkmibddfakaa
namespace Go.Proofs.Ytgekkmibddfakaa
open Go.RowKit
set_option linter.unusedVariables false
set_option maxRecDepth 100000
set_option linter.unusedSimpArgs false

/-- The box of the span so far. -/
structure Ls3 (w wr : World) (G : Nat) (q1 q2 : QV) : Prop where
  a0 : wr.cell? ⟨G, 0, none⟩ = some (.bool q1.num.g)
  a1 : wr.cell? ⟨G, 1, none⟩ = some (.slice q1.num.a q1.num.n q1.num.c)
  a2 : wr.cell? ⟨G, 2, none⟩ = some (.bool q1.den.g)
  a3 : wr.cell? ⟨G, 3, none⟩ = some (.slice q1.den.a q1.den.n q1.den.c)
  b0 : wr.cell? ⟨G, 4, none⟩ = some (.bool q2.num.g)
  b1 : wr.cell? ⟨G, 5, none⟩ = some (.slice q2.num.a q2.num.n q2.num.c)
  b2 : wr.cell? ⟨G, 6, none⟩ = some (.bool q2.den.g)
  b3 : wr.cell? ⟨G, 7, none⟩ = some (.slice q2.den.a q2.den.n q2.den.c)
  f1 : ∀ o, wr.frozen? ⟨G, o, none⟩ = false
  r0 : wr.cell? ⟨w.heap.size, 0, none⟩ = some (.bool false)
  r1 : wr.cell? ⟨w.heap.size, 1, none⟩ = some (.slice none 0 0)
  r2 : wr.cell? ⟨w.heap.size, 2, none⟩ = some (.bool false)
  r3 : wr.cell? ⟨w.heap.size, 3, none⟩ = some (.slice none 0 0)
  r4 : wr.cell? ⟨w.heap.size, 4, none⟩ = some (.bool false)
  r5 : wr.cell? ⟨w.heap.size, 5, none⟩ = some (.slice none 0 0)
  r6 : wr.cell? ⟨w.heap.size, 6, none⟩ = some (.bool false)
  r7 : wr.cell? ⟨w.heap.size, 7, none⟩ = some (.slice none 0 0)
  fr : ∀ o, wr.frozen? ⟨w.heap.size, o, none⟩ = false
  bel : Below w.heap.size w wr
theorem Ls3.later {w wr wy : World} {G : Nat} {q1 q2 : QV} (h : Ls3 w wr G q1 q2) (hb : Below wr.heap.size wr wy) : Ls3 w wy G q1 q2 :=
  ⟨cell_later hb h.a0, cell_later hb h.a1, cell_later hb h.a2, cell_later hb h.a3, cell_later hb h.b0, cell_later hb h.b1, cell_later hb h.b2, cell_later hb h.b3, fun o => frozen_later hb (World.block_lt_of_cell? _ _ h.a0) (h.f1 o), cell_later hb h.r0, cell_later hb h.r1, cell_later hb h.r2, cell_later hb h.r3, cell_later hb h.r4, cell_later hb h.r5, cell_later hb h.r6, cell_later hb h.r7, fun o => frozen_later hb (World.block_lt_of_cell? _ _ h.r0) (h.fr o), below_on h.bel hb⟩
theorem Ls3.set1 {w wr : World} {G : Nat} {q1 q2 q : QV} (h : Ls3 w wr G q1 q2) (g1 : w.heap.size < G) : Ls3 w ((((wr.setCell ⟨G, 0, none⟩ (.bool q.num.g)).setCell ⟨G, 1, none⟩ (.slice q.num.a q.num.n q.num.c)).setCell ⟨G, 2, none⟩ (.bool q.den.g)).setCell ⟨G, 3, none⟩ (.slice q.den.a q.den.n q.den.c)) G q q2 :=
  ⟨by simp [go_sem, h.a0, h.a1, h.a2, h.a3, h.b0, h.b1, h.b2, h.b3], by simp [go_sem, h.a0, h.a1, h.a2, h.a3, h.b0, h.b1, h.b2, h.b3], by simp [go_sem, h.a0, h.a1, h.a2, h.a3, h.b0, h.b1, h.b2, h.b3], by simp [go_sem, h.a0, h.a1, h.a2, h.a3, h.b0, h.b1, h.b2, h.b3], by simp [go_sem, h.a0, h.a1, h.a2, h.a3, h.b0, h.b1, h.b2, h.b3], by simp [go_sem, h.a0, h.a1, h.a2, h.a3, h.b0, h.b1, h.b2, h.b3], by simp [go_sem, h.a0, h.a1, h.a2, h.a3, h.b0, h.b1, h.b2, h.b3], by simp [go_sem, h.a0, h.a1, h.a2, h.a3, h.b0, h.b1, h.b2, h.b3], fun o => by simp [go_sem, h.f1 o], cs_other (cs_other (cs_other (cs_other h.r0 (by omega)) (by omega)) (by omega)) (by omega), cs_other (cs_other (cs_other (cs_other h.r1 (by omega)) (by omega)) (by omega)) (by omega), cs_other (cs_other (cs_other (cs_other h.r2 (by omega)) (by omega)) (by omega)) (by omega), cs_other (cs_other (cs_other (cs_other h.r3 (by omega)) (by omega)) (by omega)) (by omega), cs_other (cs_other (cs_other (cs_other h.r4 (by omega)) (by omega)) (by omega)) (by omega), cs_other (cs_other (cs_other (cs_other h.r5 (by omega)) (by omega)) (by omega)) (by omega), cs_other (cs_other (cs_other (cs_other h.r6 (by omega)) (by omega)) (by omega)) (by omega), cs_other (cs_other (cs_other (cs_other h.r7 (by omega)) (by omega)) (by omega)) (by omega), fun o => by simp [go_sem, h.fr o], ((((h.bel.setCell (by show w.heap.size ≤ G; omega) _).setCell (by show w.heap.size ≤ G; omega) _).setCell (by show w.heap.size ≤ G; omega) _).setCell (by show w.heap.size ≤ G; omega) _)⟩
theorem Ls3.set2 {w wr : World} {G : Nat} {q1 q2 q : QV} (h : Ls3 w wr G q1 q2) (g1 : w.heap.size < G) : Ls3 w ((((wr.setCell ⟨G, 4, none⟩ (.bool q.num.g)).setCell ⟨G, 5, none⟩ (.slice q.num.a q.num.n q.num.c)).setCell ⟨G, 6, none⟩ (.bool q.den.g)).setCell ⟨G, 7, none⟩ (.slice q.den.a q.den.n q.den.c)) G q1 q :=
  ⟨by simp [go_sem, h.a0, h.a1, h.a2, h.a3, h.b0, h.b1, h.b2, h.b3], by simp [go_sem, h.a0, h.a1, h.a2, h.a3, h.b0, h.b1, h.b2, h.b3], by simp [go_sem, h.a0, h.a1, h.a2, h.a3, h.b0, h.b1, h.b2, h.b3], by simp [go_sem, h.a0, h.a1, h.a2, h.a3, h.b0, h.b1, h.b2, h.b3], by simp [go_sem, h.a0, h.a1, h.a2, h.a3, h.b0, h.b1, h.b2, h.b3], by simp [go_sem, h.a0, h.a1, h.a2, h.a3, h.b0, h.b1, h.b2, h.b3], by simp [go_sem, h.a0, h.a1, h.a2, h.a3, h.b0, h.b1, h.b2, h.b3], by simp [go_sem, h.a0, h.a1, h.a2, h.a3, h.b0, h.b1, h.b2, h.b3], fun o => by simp [go_sem, h.f1 o], cs_other (cs_other (cs_other (cs_other h.r0 (by omega)) (by omega)) (by omega)) (by omega), cs_other (cs_other (cs_other (cs_other h.r1 (by omega)) (by omega)) (by omega)) (by omega), cs_other (cs_other (cs_other (cs_other h.r2 (by omega)) (by omega)) (by omega)) (by omega), cs_other (cs_other (cs_other (cs_other h.r3 (by omega)) (by omega)) (by omega)) (by omega), cs_other (cs_other (cs_other (cs_other h.r4 (by omega)) (by omega)) (by omega)) (by omega), cs_other (cs_other (cs_other (cs_other h.r5 (by omega)) (by omega)) (by omega)) (by omega), cs_other (cs_other (cs_other (cs_other h.r6 (by omega)) (by omega)) (by omega)) (by omega), cs_other (cs_other (cs_other (cs_other h.r7 (by omega)) (by omega)) (by omega)) (by omega), fun o => by simp [go_sem, h.fr o], ((((h.bel.setCell (by show w.heap.size ≤ G; omega) _).setCell (by show w.heap.size ≤ G; omega) _).setCell (by show w.heap.size ≤ G; omega) _).setCell (by show w.heap.size ≤ G; omega) _)⟩

/-- A call answers what reads as a span. -/
def OutSv (w : World) (N D N' D' : Int) (e : Ending) (w' : World) : Prop := ∃ v : SV, e = .returned (.agg #[.bool v.lo.num.g, .slice v.lo.num.a v.lo.num.n v.lo.num.c, .bool v.lo.den.g, .slice v.lo.den.a v.lo.den.n v.lo.den.c, .bool v.hi.num.g, .slice v.hi.num.a v.hi.num.n v.hi.num.c, .bool v.hi.den.g, .slice v.hi.den.a v.hi.den.n v.hi.den.c]) ∧ Below w.heap.size w w' ∧ IsQ w' v.lo N D ∧ IsQ w' v.hi N' D'
set_option maxHeartbeats 8000000 in
theorem l3Of_v (x : RQ) (b off n c : Nat) (l : List RQ) (w : World) (jx : RQ.Is w x) (hl : Rats w b off l) (hn : l.length = n) (h1 : n ≤ 1000) (hp : 1 ≤ n) (h0 : w.cell? ⟨b, off, none⟩ = some (.bool x.q.num.g) ∧ w.cell? ⟨b, off + 1, none⟩ = some (.slice x.q.num.a x.q.num.n x.q.num.c) ∧ w.cell? ⟨b, off + 2, none⟩ = some (.bool x.q.den.g) ∧ w.cell? ⟨b, off + 3, none⟩ = some (.slice x.q.den.a x.q.den.n x.q.den.c)) :
    Calls Try.prog 143 #[.slice (some ⟨b, off, none⟩) n c] w (OutSv w (l.foldl stLo x).N (l.foldl stLo x).D (l.foldl stHi x).N (l.foldl stHi x).D) := by
  have HL := hide hl
  have HN := hide hn
  have H0 := hide h0
  have JX := hide jx
  clear hl hn h0 jx
  have p0 : 0 < n := by omega
  go_enter Try.func143, Try.ntmps143
  go_upto_region 1 with fail
  have hb : Below w.heap.size w (w.alloc (.cells #[.bool false, .slice none 0 0, .bool false, .slice none 0 0, .bool false, .slice none 0 0, .bool false, .slice none 0 0] 62)) := ((Below.refl _ _).alloc (by simp) _)
  have k0_0 : (w.alloc (.cells #[.bool false, .slice none 0 0, .bool false, .slice none 0 0, .bool false, .slice none 0 0, .bool false, .slice none 0 0] 62)).cell? ⟨w.heap.size, 0, none⟩ = some (.bool false) := by simp [go_sem]
  have k0_1 : (w.alloc (.cells #[.bool false, .slice none 0 0, .bool false, .slice none 0 0, .bool false, .slice none 0 0, .bool false, .slice none 0 0] 62)).cell? ⟨w.heap.size, 1, none⟩ = some (.slice none 0 0) := by simp [go_sem]
  have k0_2 : (w.alloc (.cells #[.bool false, .slice none 0 0, .bool false, .slice none 0 0, .bool false, .slice none 0 0, .bool false, .slice none 0 0] 62)).cell? ⟨w.heap.size, 2, none⟩ = some (.bool false) := by simp [go_sem]
  have k0_3 : (w.alloc (.cells #[.bool false, .slice none 0 0, .bool false, .slice none 0 0, .bool false, .slice none 0 0, .bool false, .slice none 0 0] 62)).cell? ⟨w.heap.size, 3, none⟩ = some (.slice none 0 0) := by simp [go_sem]
  have k0_4 : (w.alloc (.cells #[.bool false, .slice none 0 0, .bool false, .slice none 0 0, .bool false, .slice none 0 0, .bool false, .slice none 0 0] 62)).cell? ⟨w.heap.size, 4, none⟩ = some (.bool false) := by simp [go_sem]
  have k0_5 : (w.alloc (.cells #[.bool false, .slice none 0 0, .bool false, .slice none 0 0, .bool false, .slice none 0 0, .bool false, .slice none 0 0] 62)).cell? ⟨w.heap.size, 5, none⟩ = some (.slice none 0 0) := by simp [go_sem]
  have k0_6 : (w.alloc (.cells #[.bool false, .slice none 0 0, .bool false, .slice none 0 0, .bool false, .slice none 0 0, .bool false, .slice none 0 0] 62)).cell? ⟨w.heap.size, 6, none⟩ = some (.bool false) := by simp [go_sem]
  have k0_7 : (w.alloc (.cells #[.bool false, .slice none 0 0, .bool false, .slice none 0 0, .bool false, .slice none 0 0, .bool false, .slice none 0 0] 62)).cell? ⟨w.heap.size, 7, none⟩ = some (.slice none 0 0) := by simp [go_sem]
  have z0 : ∀ o, (w.alloc (.cells #[.bool false, .slice none 0 0, .bool false, .slice none 0 0, .bool false, .slice none 0 0, .bool false, .slice none 0 0] 62)).frozen? ⟨w.heap.size, o, none⟩ = false := fun o => by simp [go_sem]
  have szw0 : w.heap.size + 1 ≤ (w.alloc (.cells #[.bool false, .slice none 0 0, .bool false, .slice none 0 0, .bool false, .slice none 0 0, .bool false, .slice none 0 0] 62)).heap.size := by simp
  have HB := hide hb
  clear hb
  generalize (w.alloc (.cells #[.bool false, .slice none 0 0, .bool false, .slice none 0 0, .bool false, .slice none 0 0, .bool false, .slice none 0 0] 62)) = w0 at *
  have E0 : w0.cell? ⟨b, off, none⟩ = some (.bool x.q.num.g) := ((unhide HB).cell (p := ⟨b, off, none⟩) (unhide HL).lt).trans (unhide H0).1
  have E1 : w0.cell? ⟨b, off + 1, none⟩ = some (.slice x.q.num.a x.q.num.n x.q.num.c) := ((unhide HB).cell (p := ⟨b, off + 1, none⟩) (unhide HL).lt).trans (unhide H0).2.1
  have E2 : w0.cell? ⟨b, off + 2, none⟩ = some (.bool x.q.den.g) := ((unhide HB).cell (p := ⟨b, off + 2, none⟩) (unhide HL).lt).trans (unhide H0).2.2.1
  have E3 : w0.cell? ⟨b, off + 3, none⟩ = some (.slice x.q.den.a x.q.den.n x.q.den.c) := ((unhide HB).cell (p := ⟨b, off + 3, none⟩) (unhide HL).lt).trans (unhide H0).2.2.2
  go_cut [3] (fun p wx => ∃ (G : Nat), p = .pointer (some ⟨G, 0, none⟩) ∧ w0.heap.size ≤ G ∧ Hid (Ls3 w wx G x.q x.q))
  case first =>
    go_region_held3 (fun w' => w'.cell? ⟨b, off, none⟩ = some (.bool x.q.num.g) ∧ w'.cell? ⟨b, off + 1, none⟩ = some (.slice x.q.num.a x.q.num.n x.q.num.c) ∧ w'.cell? ⟨b, off + 2, none⟩ = some (.bool x.q.den.g) ∧ w'.cell? ⟨b, off + 3, none⟩ = some (.slice x.q.den.a x.q.den.n x.q.den.c)) (first | (with_reducible exact ⟨E0, E1, E2, E3⟩) | (with_reducible exact ⟨cd_other (E0), cd_other (E1), cd_other (E2), cd_other (E3)⟩) | (with_reducible exact ⟨ca_other (E0), ca_other (E1), ca_other (E2), ca_other (E3)⟩) | (with_reducible exact ⟨cd_other (ca_other (E0)), cd_other (ca_other (E1)), cd_other (ca_other (E2)), cd_other (ca_other (E3))⟩) | (with_reducible exact ⟨ca_other (cd_other (E0)), ca_other (cd_other (E1)), ca_other (cd_other (E2)), ca_other (cd_other (E3))⟩) | (refine ⟨?_, ?_, ?_, ?_⟩ <;> (simp [go_sem, E0, E1, E2, E3]; done)) | fail) (fail)
    all_goals go_wp2_with fail
    all_goals go_meet
    all_goals have bb : Below w0.heap.size w0 (w0.alloc (.cells #[.bool x.q.num.g, .slice x.q.num.a x.q.num.n x.q.num.c, .bool x.q.den.g, .slice x.q.den.a x.q.den.n x.q.den.c, .bool x.q.num.g, .slice x.q.num.a x.q.num.n x.q.num.c, .bool x.q.den.g, .slice x.q.den.a x.q.den.n x.q.den.c] 62)) := (Below.refl _ _).alloc (Nat.le_refl _) _
    all_goals refine ⟨_, rfl, ?_, hide ⟨?_, ?_, ?_, ?_, ?_, ?_, ?_, ?_, ?_, ?_, ?_, ?_, ?_, ?_, ?_, ?_, ?_, ?_, ?_⟩⟩
    all_goals first | (simp [go_sem]; done) | (intro o; simp [go_sem]; done) | with_reducible exact cell_later bb k0_0 | with_reducible exact cell_later bb k0_1 | with_reducible exact cell_later bb k0_2 | with_reducible exact cell_later bb k0_3 | with_reducible exact cell_later bb k0_4 | with_reducible exact cell_later bb k0_5 | with_reducible exact cell_later bb k0_6 | with_reducible exact cell_later bb k0_7 | with_reducible exact cell_later bb.drew k0_0 | with_reducible exact cell_later bb.drew k0_1 | with_reducible exact cell_later bb.drew k0_2 | with_reducible exact cell_later bb.drew k0_3 | with_reducible exact cell_later bb.drew k0_4 | with_reducible exact cell_later bb.drew k0_5 | with_reducible exact cell_later bb.drew k0_6 | with_reducible exact cell_later bb.drew k0_7 | exact (fun o => frozen_later bb (World.block_lt_of_cell? _ _ k0_0) (z0 o)) | exact (fun o => frozen_later bb.drew (World.block_lt_of_cell? _ _ k0_0) (z0 o)) | exact below_on (unhide HB) bb | exact below_on (unhide HB) bb.drew
  case rest =>
    obtain ⟨G, rfl, gg, L0⟩ := hcut
    have g1 : w.heap.size < G := by omega
    clear E0 E1 E2 E3 k0_0 k0_1 k0_2 k0_3 k0_4 k0_5 k0_6 k0_7 z0 HB
    go_wp2
    go_loopw [15] (fun iv wr => ∃ (i : Nat) (lo hi : RQ), i ≤ n ∧ iv = .int .i64 i ∧ Hid (lo = (l.take i).foldl stLo x) ∧ Hid (hi = (l.take i).foldl stHi x) ∧ Hid (RQ.Is w lo) ∧ Hid (RQ.Is w hi) ∧ Hid (Ls3 w wr G lo.q hi.q)) (fun iv _ => n - (intOf iv).toNat)
    case atStart => exact ⟨0, x, x, Nat.zero_le _, rfl, hide rfl, hide rfl, JX, JX, L0⟩
    case round =>
      obtain ⟨i, lo, hi, hi0, rfl, EL, EH, JL, JH, LL⟩ := hrel
      clear L0
      by_cases hlt : i < n
      · have hlt' : (i : Int) < (n : Int) := by omega
        have e0 := (unhide HL).at_ i (by rw [unhide HN]; exact hlt)
        have j0 := (unhide HL).is i (by rw [unhide HN]; exact hlt)
        obtain ⟨y, hy⟩ : ∃ y, y = l[i]'(by rw [unhide HN]; exact hlt) := ⟨_, rfl⟩
        rw [← hy] at e0 j0
        have EY := hide hy
        have JY := hide j0
        obtain ⟨e00, e01, e02, e03⟩ := e0
        have E0 : wr.cell? ⟨b, off + i * 4, none⟩ = some (.bool y.q.num.g) := ((unhide LL).bel.cell (p := ⟨b, off + i * 4, none⟩) (unhide HL).lt).trans e00
        have E1 : wr.cell? ⟨b, off + i * 4 + 1, none⟩ = some (.slice y.q.num.a y.q.num.n y.q.num.c) := ((unhide LL).bel.cell (p := ⟨b, off + i * 4 + 1, none⟩) (unhide HL).lt).trans e01
        have E2 : wr.cell? ⟨b, off + i * 4 + 2, none⟩ = some (.bool y.q.den.g) := ((unhide LL).bel.cell (p := ⟨b, off + i * 4 + 2, none⟩) (unhide HL).lt).trans e02
        have E3 : wr.cell? ⟨b, off + i * 4 + 3, none⟩ = some (.slice y.q.den.a y.q.den.n y.q.den.c) := ((unhide LL).bel.cell (p := ⟨b, off + i * 4 + 3, none⟩) (unhide HL).lt).trans e03
        clear hy j0 e00 e01 e02 e03
        have LA := hide ((unhide LL).later ((Below.refl _ _).alloc (Nat.le_refl _) (.cells #[.bool y.q.num.g, .slice y.q.num.a y.q.num.n y.q.num.c, .bool y.q.den.g, .slice y.q.den.a y.q.den.n y.q.den.c] 31)))
        have SL : Hid ((l.take (i + 1)).foldl stLo x = stLo lo y ∧ (l.take (i + 1)).foldl stHi x = stHi hi y) := hide (by
          have ht : l.take (i + 1) = l.take i ++ [y] := by rw [unhide EY]; exact (List.take_append_getElem (by rw [unhide HN]; exact hlt)).symm
          rw [ht, List.foldl_append, List.foldl_append, ← unhide EL, ← unhide EH]
          exact ⟨rfl, rfl⟩)
        have g1r : G < wr.heap.size := World.block_lt_of_cell? _ _ (unhide LL).a0
        clear LL EL EH
        by_cases c1 : y.N * lo.D < lo.N * y.D
        · by_cases c2 : hi.N * y.D < y.N * hi.D
          · have t1 : decide (cmpZ (y.N * lo.D) (lo.N * y.D) < 0) = true := cmpZ_lt1 c1
            have t2 : decide (0 < cmpZ (y.N * hi.D) (hi.N * y.D)) = true := cmpZ_gt1 c2
            have NL : Hid (stLo lo y = y ∧ stHi hi y = y) := hide ⟨by unfold stLo; rw [if_pos c1], by unfold stHi; rw [if_pos c2]⟩
            clear c1 c2
            have p0 := (unhide LA).a0
            have p1 := (unhide LA).a1
            have p2 := (unhide LA).a2
            have p3 := (unhide LA).a3
            go_wp2_with fail
            refine (cmpQS y.q lo.q _ _ _ _ _ ((unhide JY).is.later (unhide LA).bel) ((unhide JL).is.later (unhide LA).bel) (unhide JY).kn (unhide JY).kd (unhide JL).kn (unhide JL).kd).mono ?_
            rintro e w1 ⟨rfl, hb⟩
            have q0 : w1.cell? ⟨wr.heap.size, 0, none⟩ = some (.bool y.q.num.g) := cell_later hb (by simp [go_sem])
            have q1 : w1.cell? ⟨wr.heap.size, 1, none⟩ = some (.slice y.q.num.a y.q.num.n y.q.num.c) := cell_later hb (by simp [go_sem])
            have q2 : w1.cell? ⟨wr.heap.size, 2, none⟩ = some (.bool y.q.den.g) := cell_later hb (by simp [go_sem])
            have q3 : w1.cell? ⟨wr.heap.size, 3, none⟩ = some (.slice y.q.den.a y.q.den.n y.q.den.c) := cell_later hb (by simp [go_sem])
            have LB := hide ((unhide LA).later hb)
            clear hb LA E0 E1 E2 E3 p1 p2 p3
            clear p0
            have m0 := (unhide LB).a0
            have m1 := (unhide LB).a1
            have m2 := (unhide LB).a2
            have m3 := (unhide LB).a3
            have mf := (unhide LB).f1
            have LC := hide ((unhide LB).set1 (q := y.q) g1)
            have qq0 : ((((w1.setCell ⟨G, 0, none⟩ (.bool y.q.num.g)).setCell ⟨G, 1, none⟩ (.slice y.q.num.a y.q.num.n y.q.num.c)).setCell ⟨G, 2, none⟩ (.bool y.q.den.g)).setCell ⟨G, 3, none⟩ (.slice y.q.den.a y.q.den.n y.q.den.c)).cell? ⟨wr.heap.size, 0, none⟩ = some (.bool y.q.num.g) := cs_other (cs_other (cs_other (cs_other q0 (by omega)) (by omega)) (by omega)) (by omega)
            have qq1 : ((((w1.setCell ⟨G, 0, none⟩ (.bool y.q.num.g)).setCell ⟨G, 1, none⟩ (.slice y.q.num.a y.q.num.n y.q.num.c)).setCell ⟨G, 2, none⟩ (.bool y.q.den.g)).setCell ⟨G, 3, none⟩ (.slice y.q.den.a y.q.den.n y.q.den.c)).cell? ⟨wr.heap.size, 1, none⟩ = some (.slice y.q.num.a y.q.num.n y.q.num.c) := cs_other (cs_other (cs_other (cs_other q1 (by omega)) (by omega)) (by omega)) (by omega)
            have qq2 : ((((w1.setCell ⟨G, 0, none⟩ (.bool y.q.num.g)).setCell ⟨G, 1, none⟩ (.slice y.q.num.a y.q.num.n y.q.num.c)).setCell ⟨G, 2, none⟩ (.bool y.q.den.g)).setCell ⟨G, 3, none⟩ (.slice y.q.den.a y.q.den.n y.q.den.c)).cell? ⟨wr.heap.size, 2, none⟩ = some (.bool y.q.den.g) := cs_other (cs_other (cs_other (cs_other q2 (by omega)) (by omega)) (by omega)) (by omega)
            have qq3 : ((((w1.setCell ⟨G, 0, none⟩ (.bool y.q.num.g)).setCell ⟨G, 1, none⟩ (.slice y.q.num.a y.q.num.n y.q.num.c)).setCell ⟨G, 2, none⟩ (.bool y.q.den.g)).setCell ⟨G, 3, none⟩ (.slice y.q.den.a y.q.den.n y.q.den.c)).cell? ⟨wr.heap.size, 3, none⟩ = some (.slice y.q.den.a y.q.den.n y.q.den.c) := cs_other (cs_other (cs_other (cs_other q3 (by omega)) (by omega)) (by omega)) (by omega)
            have pp0 := (unhide LC).b0
            have pp1 := (unhide LC).b1
            have pp2 := (unhide LC).b2
            have pp3 := (unhide LC).b3
            go_wp2_with fail
            refine (cmpQS y.q hi.q _ _ _ _ _ ((unhide JY).is.later (unhide LC).bel) ((unhide JH).is.later (unhide LC).bel) (unhide JY).kn (unhide JY).kd (unhide JH).kn (unhide JH).kd).mono ?_
            rintro e w2 ⟨rfl, hb⟩
            have s0 := cell_later hb qq0
            have s1 := cell_later hb qq1
            have s2 := cell_later hb qq2
            have s3 := cell_later hb qq3
            have LD := hide ((unhide LC).later hb)
            clear hb LB pp0 pp1 pp2 pp3 q0 q1 q2 q3 LC qq0 qq1 qq2 qq3 m0 m1 m2 m3 mf
            have m0 := (unhide LD).b0
            have m1 := (unhide LD).b1
            have m2 := (unhide LD).b2
            have m3 := (unhide LD).b3
            have mf := (unhide LD).f1
            have LE := hide ((unhide LD).set2 (q := y.q) g1)
            go_wp2
            go_roundw
            case rel => exact ⟨i + 1, y, y, by omega, by go_num, hide (by rw [(unhide SL).1, (unhide NL).1]), hide (by rw [(unhide SL).2, (unhide NL).2]), JY, JY, LE⟩
            case measure => simp [intOf]; omega
          · have t1 : decide (cmpZ (y.N * lo.D) (lo.N * y.D) < 0) = true := cmpZ_lt1 c1
            have t2 : decide (0 < cmpZ (y.N * hi.D) (hi.N * y.D)) = false := cmpZ_gt0 c2
            have NL : Hid (stLo lo y = y ∧ stHi hi y = hi) := hide ⟨by unfold stLo; rw [if_pos c1], by unfold stHi; rw [if_neg c2]⟩
            clear c1 c2
            have p0 := (unhide LA).a0
            have p1 := (unhide LA).a1
            have p2 := (unhide LA).a2
            have p3 := (unhide LA).a3
            go_wp2_with fail
            refine (cmpQS y.q lo.q _ _ _ _ _ ((unhide JY).is.later (unhide LA).bel) ((unhide JL).is.later (unhide LA).bel) (unhide JY).kn (unhide JY).kd (unhide JL).kn (unhide JL).kd).mono ?_
            rintro e w1 ⟨rfl, hb⟩
            have q0 : w1.cell? ⟨wr.heap.size, 0, none⟩ = some (.bool y.q.num.g) := cell_later hb (by simp [go_sem])
            have q1 : w1.cell? ⟨wr.heap.size, 1, none⟩ = some (.slice y.q.num.a y.q.num.n y.q.num.c) := cell_later hb (by simp [go_sem])
            have q2 : w1.cell? ⟨wr.heap.size, 2, none⟩ = some (.bool y.q.den.g) := cell_later hb (by simp [go_sem])
            have q3 : w1.cell? ⟨wr.heap.size, 3, none⟩ = some (.slice y.q.den.a y.q.den.n y.q.den.c) := cell_later hb (by simp [go_sem])
            have LB := hide ((unhide LA).later hb)
            clear hb LA E0 E1 E2 E3 p1 p2 p3
            clear p0
            have m0 := (unhide LB).a0
            have m1 := (unhide LB).a1
            have m2 := (unhide LB).a2
            have m3 := (unhide LB).a3
            have mf := (unhide LB).f1
            have LC := hide ((unhide LB).set1 (q := y.q) g1)
            have qq0 : ((((w1.setCell ⟨G, 0, none⟩ (.bool y.q.num.g)).setCell ⟨G, 1, none⟩ (.slice y.q.num.a y.q.num.n y.q.num.c)).setCell ⟨G, 2, none⟩ (.bool y.q.den.g)).setCell ⟨G, 3, none⟩ (.slice y.q.den.a y.q.den.n y.q.den.c)).cell? ⟨wr.heap.size, 0, none⟩ = some (.bool y.q.num.g) := cs_other (cs_other (cs_other (cs_other q0 (by omega)) (by omega)) (by omega)) (by omega)
            have qq1 : ((((w1.setCell ⟨G, 0, none⟩ (.bool y.q.num.g)).setCell ⟨G, 1, none⟩ (.slice y.q.num.a y.q.num.n y.q.num.c)).setCell ⟨G, 2, none⟩ (.bool y.q.den.g)).setCell ⟨G, 3, none⟩ (.slice y.q.den.a y.q.den.n y.q.den.c)).cell? ⟨wr.heap.size, 1, none⟩ = some (.slice y.q.num.a y.q.num.n y.q.num.c) := cs_other (cs_other (cs_other (cs_other q1 (by omega)) (by omega)) (by omega)) (by omega)
            have qq2 : ((((w1.setCell ⟨G, 0, none⟩ (.bool y.q.num.g)).setCell ⟨G, 1, none⟩ (.slice y.q.num.a y.q.num.n y.q.num.c)).setCell ⟨G, 2, none⟩ (.bool y.q.den.g)).setCell ⟨G, 3, none⟩ (.slice y.q.den.a y.q.den.n y.q.den.c)).cell? ⟨wr.heap.size, 2, none⟩ = some (.bool y.q.den.g) := cs_other (cs_other (cs_other (cs_other q2 (by omega)) (by omega)) (by omega)) (by omega)
            have qq3 : ((((w1.setCell ⟨G, 0, none⟩ (.bool y.q.num.g)).setCell ⟨G, 1, none⟩ (.slice y.q.num.a y.q.num.n y.q.num.c)).setCell ⟨G, 2, none⟩ (.bool y.q.den.g)).setCell ⟨G, 3, none⟩ (.slice y.q.den.a y.q.den.n y.q.den.c)).cell? ⟨wr.heap.size, 3, none⟩ = some (.slice y.q.den.a y.q.den.n y.q.den.c) := cs_other (cs_other (cs_other (cs_other q3 (by omega)) (by omega)) (by omega)) (by omega)
            have pp0 := (unhide LC).b0
            have pp1 := (unhide LC).b1
            have pp2 := (unhide LC).b2
            have pp3 := (unhide LC).b3
            go_wp2_with fail
            refine (cmpQS y.q hi.q _ _ _ _ _ ((unhide JY).is.later (unhide LC).bel) ((unhide JH).is.later (unhide LC).bel) (unhide JY).kn (unhide JY).kd (unhide JH).kn (unhide JH).kd).mono ?_
            rintro e w2 ⟨rfl, hb⟩
            have s0 := cell_later hb qq0
            have s1 := cell_later hb qq1
            have s2 := cell_later hb qq2
            have s3 := cell_later hb qq3
            have LD := hide ((unhide LC).later hb)
            clear hb LB pp0 pp1 pp2 pp3 q0 q1 q2 q3 LC qq0 qq1 qq2 qq3 m0 m1 m2 m3 mf
            go_wp2
            go_roundw
            case rel => exact ⟨i + 1, y, hi, by omega, by go_num, hide (by rw [(unhide SL).1, (unhide NL).1]), hide (by rw [(unhide SL).2, (unhide NL).2]), JY, JH, LD⟩
            case measure => simp [intOf]; omega
        · by_cases c2 : hi.N * y.D < y.N * hi.D
          · have t1 : decide (cmpZ (y.N * lo.D) (lo.N * y.D) < 0) = false := cmpZ_lt0 c1
            have t2 : decide (0 < cmpZ (y.N * hi.D) (hi.N * y.D)) = true := cmpZ_gt1 c2
            have NL : Hid (stLo lo y = lo ∧ stHi hi y = y) := hide ⟨by unfold stLo; rw [if_neg c1], by unfold stHi; rw [if_pos c2]⟩
            clear c1 c2
            have p0 := (unhide LA).a0
            have p1 := (unhide LA).a1
            have p2 := (unhide LA).a2
            have p3 := (unhide LA).a3
            go_wp2_with fail
            refine (cmpQS y.q lo.q _ _ _ _ _ ((unhide JY).is.later (unhide LA).bel) ((unhide JL).is.later (unhide LA).bel) (unhide JY).kn (unhide JY).kd (unhide JL).kn (unhide JL).kd).mono ?_
            rintro e w1 ⟨rfl, hb⟩
            have q0 : w1.cell? ⟨wr.heap.size, 0, none⟩ = some (.bool y.q.num.g) := cell_later hb (by simp [go_sem])
            have q1 : w1.cell? ⟨wr.heap.size, 1, none⟩ = some (.slice y.q.num.a y.q.num.n y.q.num.c) := cell_later hb (by simp [go_sem])
            have q2 : w1.cell? ⟨wr.heap.size, 2, none⟩ = some (.bool y.q.den.g) := cell_later hb (by simp [go_sem])
            have q3 : w1.cell? ⟨wr.heap.size, 3, none⟩ = some (.slice y.q.den.a y.q.den.n y.q.den.c) := cell_later hb (by simp [go_sem])
            have LB := hide ((unhide LA).later hb)
            clear hb LA E0 E1 E2 E3 p1 p2 p3
            clear p0
            have pp0 := (unhide LB).b0
            have pp1 := (unhide LB).b1
            have pp2 := (unhide LB).b2
            have pp3 := (unhide LB).b3
            go_wp2_with fail
            refine (cmpQS y.q hi.q _ _ _ _ _ ((unhide JY).is.later (unhide LB).bel) ((unhide JH).is.later (unhide LB).bel) (unhide JY).kn (unhide JY).kd (unhide JH).kn (unhide JH).kd).mono ?_
            rintro e w2 ⟨rfl, hb⟩
            have s0 := cell_later hb q0
            have s1 := cell_later hb q1
            have s2 := cell_later hb q2
            have s3 := cell_later hb q3
            have LD := hide ((unhide LB).later hb)
            clear hb LB pp0 pp1 pp2 pp3 q0 q1 q2 q3
            have m0 := (unhide LD).b0
            have m1 := (unhide LD).b1
            have m2 := (unhide LD).b2
            have m3 := (unhide LD).b3
            have mf := (unhide LD).f1
            have LE := hide ((unhide LD).set2 (q := y.q) g1)
            go_wp2
            go_roundw
            case rel => exact ⟨i + 1, lo, y, by omega, by go_num, hide (by rw [(unhide SL).1, (unhide NL).1]), hide (by rw [(unhide SL).2, (unhide NL).2]), JL, JY, LE⟩
            case measure => simp [intOf]; omega
          · have t1 : decide (cmpZ (y.N * lo.D) (lo.N * y.D) < 0) = false := cmpZ_lt0 c1
            have t2 : decide (0 < cmpZ (y.N * hi.D) (hi.N * y.D)) = false := cmpZ_gt0 c2
            have NL : Hid (stLo lo y = lo ∧ stHi hi y = hi) := hide ⟨by unfold stLo; rw [if_neg c1], by unfold stHi; rw [if_neg c2]⟩
            clear c1 c2
            have p0 := (unhide LA).a0
            have p1 := (unhide LA).a1
            have p2 := (unhide LA).a2
            have p3 := (unhide LA).a3
            go_wp2_with fail
            refine (cmpQS y.q lo.q _ _ _ _ _ ((unhide JY).is.later (unhide LA).bel) ((unhide JL).is.later (unhide LA).bel) (unhide JY).kn (unhide JY).kd (unhide JL).kn (unhide JL).kd).mono ?_
            rintro e w1 ⟨rfl, hb⟩
            have q0 : w1.cell? ⟨wr.heap.size, 0, none⟩ = some (.bool y.q.num.g) := cell_later hb (by simp [go_sem])
            have q1 : w1.cell? ⟨wr.heap.size, 1, none⟩ = some (.slice y.q.num.a y.q.num.n y.q.num.c) := cell_later hb (by simp [go_sem])
            have q2 : w1.cell? ⟨wr.heap.size, 2, none⟩ = some (.bool y.q.den.g) := cell_later hb (by simp [go_sem])
            have q3 : w1.cell? ⟨wr.heap.size, 3, none⟩ = some (.slice y.q.den.a y.q.den.n y.q.den.c) := cell_later hb (by simp [go_sem])
            have LB := hide ((unhide LA).later hb)
            clear hb LA E0 E1 E2 E3 p1 p2 p3
            clear p0
            have pp0 := (unhide LB).b0
            have pp1 := (unhide LB).b1
            have pp2 := (unhide LB).b2
            have pp3 := (unhide LB).b3
            go_wp2_with fail
            refine (cmpQS y.q hi.q _ _ _ _ _ ((unhide JY).is.later (unhide LB).bel) ((unhide JH).is.later (unhide LB).bel) (unhide JY).kn (unhide JY).kd (unhide JH).kn (unhide JH).kd).mono ?_
            rintro e w2 ⟨rfl, hb⟩
            have s0 := cell_later hb q0
            have s1 := cell_later hb q1
            have s2 := cell_later hb q2
            have s3 := cell_later hb q3
            have LD := hide ((unhide LB).later hb)
            clear hb LB pp0 pp1 pp2 pp3 q0 q1 q2 q3
            go_wp2
            go_roundw
            case rel => exact ⟨i + 1, lo, hi, by omega, by go_num, hide (by rw [(unhide SL).1, (unhide NL).1]), hide (by rw [(unhide SL).2, (unhide NL).2]), JL, JH, LD⟩
            case measure => simp [intOf]; omega
      · obtain rfl : i = n := by omega
        have E1 : Hid (lo = l.foldl stLo x ∧ hi = l.foldl stHi x) := hide ⟨by rw [unhide EL, ← unhide HN, List.take_length], by rw [unhide EH, ← unhide HN, List.take_length]⟩
        have k1_0 := (unhide LL).a0
        have k1_4 := (unhide LL).b0
        have k1_1 := (unhide LL).a1
        have k1_5 := (unhide LL).b1
        have k1_2 := (unhide LL).a2
        have k1_6 := (unhide LL).b2
        have k1_3 := (unhide LL).a3
        have k1_7 := (unhide LL).b3
        have k0_0 := (unhide LL).r0
        have k0_1 := (unhide LL).r1
        have k0_2 := (unhide LL).r2
        have k0_3 := (unhide LL).r3
        have k0_4 := (unhide LL).r4
        have k0_5 := (unhide LL).r5
        have k0_6 := (unhide LL).r6
        have k0_7 := (unhide LL).r7
        have z0 := (unhide LL).fr
        go_wp2
        refine bodyPost_ret (v := .agg #[.bool lo.q.num.g, .slice lo.q.num.a lo.q.num.n lo.q.num.c, .bool lo.q.den.g, .slice lo.q.den.a lo.q.den.n lo.q.den.c, .bool hi.q.num.g, .slice hi.q.num.a hi.q.num.n hi.q.num.c, .bool hi.q.den.g, .slice hi.q.den.a hi.q.den.n hi.q.den.c]) (by simp [results, Try.results143, go_sem, k0_0, k0_1, k0_2, k0_3, k0_4, k0_5, k0_6, k0_7]) rfl ?_
        have bt := metS_but (w5 := wr) (v := ⟨lo.q, hi.q⟩) (G := w.heap.size)
        have bw := bt.below (unhide LL).bel (Nat.le_refl _) (unhide LL).bel.size
        rw [← (unhide E1).1, ← (unhide E1).2]
        exact ⟨⟨lo.q, hi.q⟩, rfl, bw, (unhide JL).is.later bw, (unhide JH).is.later bw⟩
end Go.Proofs.Ytgekkmibddfakaa
