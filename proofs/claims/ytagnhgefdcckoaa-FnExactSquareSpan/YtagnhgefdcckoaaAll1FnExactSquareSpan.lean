/- The specification's polynomials: noughts cut off, what fits, and DerivePoly. No condition beyond those typed. Written by mkders.py. -/
import Derived.Test.YtagnhgefdcckoaaAll0FnExactSquareSpan
import Derived.Test.YtagnhgefdcckoaaRatF
import Derived.Test.YtagnhgefdcckoaaVarB
import Derived.Test.YtagnhgefdcckoaaSubI
import Derived.Test.YtagnhgefdcckoaaFlatQ
import Derived.Test.YtagnhgefdcckoaaLow
import Derived.Deep.AppendLies
import Derived.Laws.AppendOwnNone
namespace Go.Proofs.Ytagnhgefdcckoaa
open Go.RowKit
set_option linter.unusedVariables false
set_option maxRecDepth 100000
set_option linter.unusedSimpArgs false

set_option maxHeartbeats 4000000 in
theorem wholeI (n : Int) (w : World) (h0 : -9223372036854775808 ≤ n) (h1 : n ≤ 9223372036854775807) : Calls Try.prog 135 #[.int .i64 n] w (OutQ w n 1) := by
  have B0 := hide (show Below w.heap.size w (w.alloc (.cells #[.bool false, .slice none 0 0, .bool false, .slice none 0 0] 50)) from ((Below.refl _ _).alloc (by simp) _))
  go_enter Try.func135, Try.ntmps135
  go_wp2_with fail
  refine (ofI_v n _ h0 h1).mono ?_
  rintro e w1 ⟨x1, l1, rfl, hb, o1, a1, n1⟩
  have s1 : w.heap.size + 1 ≤ w1.heap.size := by have := hb.size; simp at this; omega
  replace o1 := o1.wide (lo' := w.heap.size + 1) (by simp) (Nat.le_refl _)
  have k0_0 : w1.cell? ⟨w.heap.size, 0, none⟩ = some (.bool false) := cell_later hb (by simp [go_sem])
  have k0_1 : w1.cell? ⟨w.heap.size, 1, none⟩ = some (.slice none 0 0) := cell_later hb (by simp [go_sem])
  have k0_2 : w1.cell? ⟨w.heap.size, 2, none⟩ = some (.bool false) := cell_later hb (by simp [go_sem])
  have k0_3 : w1.cell? ⟨w.heap.size, 3, none⟩ = some (.slice none 0 0) := cell_later hb (by simp [go_sem])
  have z0 : ∀ o, w1.frozen? ⟨w.heap.size, o, none⟩ = false := fun o => frozen_later hb (by simp) (by simp [go_sem])
  have P1 := hide (outN_ow o1 a1 n1)
  have HB := hide (below_on (unhide B0) hb)
  clear hb
  clear o1 a1 n1
  go_wp2_with fail
  refine (ofI_v 1 _ (by omega) (by omega)).mono ?_
  rintro e w2 ⟨x2, l2, rfl, hb, o2, a2, n2⟩
  have s2 := hb.size
  replace z0 := fun o => frozen_later hb (World.block_lt_of_cell? _ _ k0_0) (z0 o)
  replace k0_0 := cell_later hb k0_0
  replace k0_1 := cell_later hb k0_1
  replace k0_2 := cell_later hb k0_2
  replace k0_3 := cell_later hb k0_3
  replace P1 := hide ((unhide P1).later hb)
  have P2 := hide (outN_ow o2 a2 n2)
  replace HB := hide (below_on (unhide HB) hb)
  clear hb
  clear o2 a2 n2
  go_wp2
  refine bodyPost_ret (v := .agg #[.bool x1.g, .slice x1.a x1.n x1.c, .bool x2.g, .slice x2.a x2.n x2.c]) (by simp [results, Try.results135, go_sem, k0_0, k0_1, k0_2, k0_3]) rfl ?_
  obtain ⟨zs, us, oo, aa, m1, m2⟩ := (unhide P1).two (unhide P2) s1 s2
  exact outQ_fin (q := ⟨x1, x2⟩) (R := w.heap.size) (Nat.le_refl _) (unhide HB) (metQ_but (w5 := w2) (v := ⟨x1, x2⟩) (G := w.heap.size)) oo aa m1 m2

set_option maxHeartbeats 4000000 in
theorem wholeS (n : Int) (w : World) (h0 : -9223372036854775808 ≤ n) (h1 : n ≤ 9223372036854775807) : Calls Try.prog 84 #[.int .i64 n] w (OutQ w n 1) := by
  have B0 := hide (show Below w.heap.size w (w.alloc (.cells #[.bool false, .slice none 0 0, .bool false, .slice none 0 0] 50)) from ((Below.refl _ _).alloc (by simp) _))
  go_enter Try.func84, Try.ntmps84
  go_wp2_with fail
  refine (ofS_v n _ h0 h1).mono ?_
  rintro e w1 ⟨x1, l1, rfl, hb, o1, a1, n1⟩
  have s1 : w.heap.size + 1 ≤ w1.heap.size := by have := hb.size; simp at this; omega
  replace o1 := o1.wide (lo' := w.heap.size + 1) (by simp) (Nat.le_refl _)
  have k0_0 : w1.cell? ⟨w.heap.size, 0, none⟩ = some (.bool false) := cell_later hb (by simp [go_sem])
  have k0_1 : w1.cell? ⟨w.heap.size, 1, none⟩ = some (.slice none 0 0) := cell_later hb (by simp [go_sem])
  have k0_2 : w1.cell? ⟨w.heap.size, 2, none⟩ = some (.bool false) := cell_later hb (by simp [go_sem])
  have k0_3 : w1.cell? ⟨w.heap.size, 3, none⟩ = some (.slice none 0 0) := cell_later hb (by simp [go_sem])
  have z0 : ∀ o, w1.frozen? ⟨w.heap.size, o, none⟩ = false := fun o => frozen_later hb (by simp) (by simp [go_sem])
  have P1 := hide (outN_ow o1 a1 n1)
  have HB := hide (below_on (unhide B0) hb)
  clear hb
  clear o1 a1 n1
  go_wp2_with fail
  refine (ofS_v 1 _ (by omega) (by omega)).mono ?_
  rintro e w2 ⟨x2, l2, rfl, hb, o2, a2, n2⟩
  have s2 := hb.size
  replace z0 := fun o => frozen_later hb (World.block_lt_of_cell? _ _ k0_0) (z0 o)
  replace k0_0 := cell_later hb k0_0
  replace k0_1 := cell_later hb k0_1
  replace k0_2 := cell_later hb k0_2
  replace k0_3 := cell_later hb k0_3
  replace P1 := hide ((unhide P1).later hb)
  have P2 := hide (outN_ow o2 a2 n2)
  replace HB := hide (below_on (unhide HB) hb)
  clear hb
  clear o2 a2 n2
  go_wp2
  refine bodyPost_ret (v := .agg #[.bool x1.g, .slice x1.a x1.n x1.c, .bool x2.g, .slice x2.a x2.n x2.c]) (by simp [results, Try.results84, go_sem, k0_0, k0_1, k0_2, k0_3]) rfl ?_
  obtain ⟨zs, us, oo, aa, m1, m2⟩ := (unhide P1).two (unhide P2) s1 s2
  exact outQ_fin (q := ⟨x1, x2⟩) (R := w.heap.size) (Nat.le_refl _) (unhide HB) (metQ_but (w5 := w2) (v := ⟨x1, x2⟩) (G := w.heap.size)) oo aa m1 m2

set_option maxHeartbeats 2000000 in
theorem hasN_raw (g1 g2 g3 g4 : Bool) (a1 a2 a3 a4 : Option Addr) (n1 n2 n3 n4 c1 c2 c3 c4 : Nat) (w : World) (hm : n1 ≤ maxLen) :
    Calls Try.prog 133 #[.agg #[.bool g1, .slice a1 n1 c1, .bool g2, .slice a2 n2 c2, .bool g3, .slice a3 n3 c3, .bool g4, .slice a4 n4 c4]] w fun e w' => e = .returned (.bool ((g1 || decide (n1 = 0)) && !g3)) ∧ Below w.heap.size w w' := by
  cases g1
  · have N1 := hide (fun w1 => nought_any false a1 n1 c1 w1 hm)
    clear hm
    cases hz : decide (n1 = 0)
    · rw [hz] at N1
      clear hz
      cases g3
      · have B0 := hide (show Below w.heap.size w (w.alloc (.cells #[.bool false, .slice a1 n1 c1, .bool g2, .slice a2 n2 c2, .bool false, .slice a3 n3 c3, .bool g4, .slice a4 n4 c4] 61)) from ((Below.refl _ _).alloc (by simp) _))
        go_enter Try.func133, Try.ntmps133
        go_wp2_with fail
        refine (unhide N1 _).mono ?_
        rintro e w1 ⟨rfl, hb⟩
        have k0_4 : w1.cell? ⟨w.heap.size, 4, none⟩ = some (.bool false) := cell_later hb (by simp [go_sem])
        have HB := hide (below_on (unhide B0) hb)
        clear hb
        go_wp2
        go_ret
        exact ⟨rfl, unhide HB⟩
      · have B0 := hide (show Below w.heap.size w (w.alloc (.cells #[.bool false, .slice a1 n1 c1, .bool g2, .slice a2 n2 c2, .bool true, .slice a3 n3 c3, .bool g4, .slice a4 n4 c4] 61)) from ((Below.refl _ _).alloc (by simp) _))
        go_enter Try.func133, Try.ntmps133
        go_wp2_with fail
        refine (unhide N1 _).mono ?_
        rintro e w1 ⟨rfl, hb⟩
        have k0_4 : w1.cell? ⟨w.heap.size, 4, none⟩ = some (.bool true) := cell_later hb (by simp [go_sem])
        have HB := hide (below_on (unhide B0) hb)
        clear hb
        go_wp2
        go_ret
        exact ⟨rfl, unhide HB⟩
    · rw [hz] at N1
      clear hz
      cases g3
      · have B0 := hide (show Below w.heap.size w (w.alloc (.cells #[.bool false, .slice a1 n1 c1, .bool g2, .slice a2 n2 c2, .bool false, .slice a3 n3 c3, .bool g4, .slice a4 n4 c4] 61)) from ((Below.refl _ _).alloc (by simp) _))
        go_enter Try.func133, Try.ntmps133
        go_wp2_with fail
        refine (unhide N1 _).mono ?_
        rintro e w1 ⟨rfl, hb⟩
        have k0_4 : w1.cell? ⟨w.heap.size, 4, none⟩ = some (.bool false) := cell_later hb (by simp [go_sem])
        have HB := hide (below_on (unhide B0) hb)
        clear hb
        go_wp2
        go_ret
        exact ⟨rfl, unhide HB⟩
      · have B0 := hide (show Below w.heap.size w (w.alloc (.cells #[.bool false, .slice a1 n1 c1, .bool g2, .slice a2 n2 c2, .bool true, .slice a3 n3 c3, .bool g4, .slice a4 n4 c4] 61)) from ((Below.refl _ _).alloc (by simp) _))
        go_enter Try.func133, Try.ntmps133
        go_wp2_with fail
        refine (unhide N1 _).mono ?_
        rintro e w1 ⟨rfl, hb⟩
        have k0_4 : w1.cell? ⟨w.heap.size, 4, none⟩ = some (.bool true) := cell_later hb (by simp [go_sem])
        have HB := hide (below_on (unhide B0) hb)
        clear hb
        go_wp2
        go_ret
        exact ⟨rfl, unhide HB⟩
  · clear hm
    cases g3
    · have B0 := hide (show Below w.heap.size w (w.alloc (.cells #[.bool true, .slice a1 n1 c1, .bool g2, .slice a2 n2 c2, .bool false, .slice a3 n3 c3, .bool g4, .slice a4 n4 c4] 61)) from ((Below.refl _ _).alloc (by simp) _))
      go_enter Try.func133, Try.ntmps133
      go_wp2
      go_ret
      exact ⟨rfl, unhide B0⟩
    · have B0 := hide (show Below w.heap.size w (w.alloc (.cells #[.bool true, .slice a1 n1 c1, .bool g2, .slice a2 n2 c2, .bool true, .slice a3 n3 c3, .bool g4, .slice a4 n4 c4] 61)) from ((Below.refl _ _).alloc (by simp) _))
      go_enter Try.func133, Try.ntmps133
      go_wp2
      go_ret
      exact ⟨rfl, unhide B0⟩

/-- Whether a span has 0 within, as the program asks. -/
def hN (d : SD) : Bool := (d.lo.num.g || decide (d.lo.num.xs.length = 0)) && !d.hi.num.g
theorem hasN_v (v : SV) (d : SD) (w : World) (h : AllAr w [(v.lo.num, d.lo.num), (v.lo.den, d.lo.den), (v.hi.num, d.hi.num), (v.hi.den, d.hi.den)]) :
    Calls Try.prog 133 #[.agg #[.bool v.lo.num.g, .slice v.lo.num.a v.lo.num.n v.lo.num.c, .bool v.lo.den.g, .slice v.lo.den.a v.lo.den.n v.lo.den.c, .bool v.hi.num.g, .slice v.hi.num.a v.hi.num.n v.hi.num.c, .bool v.hi.den.g, .slice v.hi.den.a v.hi.den.n v.hi.den.c]] w fun e w' => e = .returned (.bool (hN d)) ∧ Below w.heap.size w w' := by
  have e1 := h.head.sg
  have e2 := h.head.ar.len
  have e3 := h.tail.tail.head.sg
  unfold hN
  rw [e2, ← e1, ← e3]
  exact hasN_raw _ _ _ _ _ _ _ _ _ _ _ _ _ _ _ _ w (Nat.le_trans h.head.ar.cap h.head.ar.top)
def zQD : QD := ⟨⟨false, []⟩, ⟨false, [1]⟩⟩
theorem zQD_n : nQ zQD = 0 := by decide
theorem zQD_d : dQ zQD = 1 := by decide
theorem isGood_zero {w : World} {q : QV} (h : IsQ w q 0 1) : IsGood w q zQD := by
  refine ⟨by rw [zQD_n, zQD_d]; exact h, ?_, ?_, by rw [zQD_d]; omega, by rw [zQD_n, zQD_d]; rfl⟩
  · rw [zQD_n]; exact ⟨by decide⟩
  · rw [zQD_d]; exact ⟨by decide⟩
/-- A good number is below 0 where its sign says so, 0 without limbs. -/
theorem goodB_neg {g : Bool} {xs : List Int} (h : goodB g xs = true) : (sv g xs < 0 ↔ g = true) ∧ (sv g xs = 0 ↔ xs.length = 0) := by
  obtain ⟨h1, h2, h3, h4⟩ := good_parts h
  have hv := val_nonneg h1
  have hz := val_zero_iff h1 h2
  have hl : xs = [] ↔ xs.length = 0 := List.length_eq_zero_iff.symm
  unfold sv
  cases g
  · rw [if_neg (by simp)]
    exact ⟨⟨fun e => by omega, fun e => by cases e⟩, hz.trans hl⟩
  · rw [if_pos rfl]
    have h5 : xs ≠ [] := fun e => by cases h4 e
    have h6 : val xs ≠ 0 := fun e => h5 (hz.1 e)
    exact ⟨⟨fun _ => rfl, fun _ => by omega⟩, ⟨fun e => by omega, fun e => absurd (hl.2 e) h5⟩⟩
theorem goodS_nums {d : SD} (hg : gS d = true) : goodB d.lo.num.g d.lo.num.xs = true ∧ goodB d.hi.num.g d.hi.num.xs = true := by
  unfold gS at hg
  simp only [Bool.and_eq_true, decide_eq_true_eq] at hg
  exact ⟨(goodR_parts hg.1.1).1, (goodR_parts hg.1.2).1⟩
theorem hN_iff {d : SD} (hg : gS d = true) : hN d = true ↔ (nQ d.lo ≤ 0 ∧ 0 ≤ nQ d.hi) := by
  obtain ⟨g1, g2⟩ := goodS_nums hg
  have a := goodB_neg g1
  have b := goodB_neg g2
  unfold hN nQ
  generalize sv d.lo.num.g d.lo.num.xs = x at *
  generalize sv d.hi.num.g d.hi.num.xs = y at *
  rw [Bool.and_eq_true, Bool.or_eq_true, decide_eq_true_eq, ← a.1, ← a.2]
  refine and_congr (by omega) ?_
  cases hh : d.hi.num.g
  · refine ⟨fun _ => ?_, fun _ => rfl⟩
    have : ¬ y < 0 := fun e => by have := b.1.1 e; rw [hh] at this; cases this
    omega
  · refine ⟨fun e => (by cases e), fun e => ?_⟩
    have := b.1.2 hh
    omega
theorem inQ_zero {d : SD} (hg : gS d = true) : inQ d zQD = hN d := by
  have h := hN_iff hg
  have e : inQ d zQD = true ↔ (nQ d.lo ≤ 0 ∧ 0 ≤ nQ d.hi) := by
    unfold inQ
    rw [zQD_n, zQD_d, Bool.and_eq_true, decide_eq_true_eq, decide_eq_true_eq, Int.mul_one, Int.mul_one, Int.zero_mul, Int.zero_mul]
  exact Bool.eq_iff_iff.2 (e.trans h.symm)
end Go.Proofs.Ytagnhgefdcckoaa
namespace Go.Proofs.Ytagnhgefdcckoaa
open Go.RowKit
set_option linter.unusedVariables false
set_option maxRecDepth 100000
set_option linter.unusedSimpArgs false

set_option maxHeartbeats 2000000 in
theorem spanFits_v (v : SV) (w : World) (m1 : v.lo.den.n ≤ maxLen) (m2 : v.hi.den.n ≤ maxLen) :
    Calls Try.prog 131 #[.agg #[.bool v.lo.num.g, .slice v.lo.num.a v.lo.num.n v.lo.num.c, .bool v.lo.den.g, .slice v.lo.den.a v.lo.den.n v.lo.den.c, .bool v.hi.num.g, .slice v.hi.num.a v.hi.num.n v.hi.num.c, .bool v.hi.den.g, .slice v.hi.den.a v.hi.den.n v.hi.den.c]] w fun e w' => e = .returned (.bool (decide ((v.lo.den.n ≠ 0 ∧ v.lo.num.n ≤ 40 ∧ v.lo.den.n ≤ 40) ∧ (v.hi.den.n ≠ 0 ∧ v.hi.num.n ≤ 40 ∧ v.hi.den.n ≤ 40)))) ∧ Below w.heap.size w w' := by
  cases c1 : decide (v.lo.den.n ≠ 0 ∧ v.lo.num.n ≤ 40 ∧ v.lo.den.n ≤ 40)
  · have F1 := hide (fun w1 => fitsI v.lo w1 m1)
    have F2 := hide (fun w1 => fitsI v.hi w1 m2)
    rw [c1] at F1
    rw [show decide ((v.lo.den.n ≠ 0 ∧ v.lo.num.n ≤ 40 ∧ v.lo.den.n ≤ 40) ∧ (v.hi.den.n ≠ 0 ∧ v.hi.num.n ≤ 40 ∧ v.hi.den.n ≤ 40)) = false from decide_eq_false (fun h => absurd h.1 (of_decide_eq_false c1))]
    clear c1
    have B0 := hide (show Below w.heap.size w (w.alloc (.cells #[.bool v.lo.num.g, .slice v.lo.num.a v.lo.num.n v.lo.num.c, .bool v.lo.den.g, .slice v.lo.den.a v.lo.den.n v.lo.den.c, .bool v.hi.num.g, .slice v.hi.num.a v.hi.num.n v.hi.num.c, .bool v.hi.den.g, .slice v.hi.den.a v.hi.den.n v.hi.den.c] 61)) from ((Below.refl _ _).alloc (by simp) _))
    go_enter Try.func131, Try.ntmps131
    go_wp2_with fail
    refine (unhide F1 _).mono ?_
    rintro e w1 ⟨rfl, hb⟩
    have HB := hide (below_on (unhide B0) hb)
    clear hb
    go_wp2
    go_ret
    exact ⟨rfl, unhide HB⟩
  cases c2 : decide (v.hi.den.n ≠ 0 ∧ v.hi.num.n ≤ 40 ∧ v.hi.den.n ≤ 40)
  · have F1 := hide (fun w1 => fitsI v.lo w1 m1)
    have F2 := hide (fun w1 => fitsI v.hi w1 m2)
    rw [c1] at F1
    rw [c2] at F2
    rw [show decide ((v.lo.den.n ≠ 0 ∧ v.lo.num.n ≤ 40 ∧ v.lo.den.n ≤ 40) ∧ (v.hi.den.n ≠ 0 ∧ v.hi.num.n ≤ 40 ∧ v.hi.den.n ≤ 40)) = false from decide_eq_false (fun h => absurd h.2 (of_decide_eq_false c2))]
    clear c1 c2
    have B0 := hide (show Below w.heap.size w (w.alloc (.cells #[.bool v.lo.num.g, .slice v.lo.num.a v.lo.num.n v.lo.num.c, .bool v.lo.den.g, .slice v.lo.den.a v.lo.den.n v.lo.den.c, .bool v.hi.num.g, .slice v.hi.num.a v.hi.num.n v.hi.num.c, .bool v.hi.den.g, .slice v.hi.den.a v.hi.den.n v.hi.den.c] 61)) from ((Below.refl _ _).alloc (by simp) _))
    go_enter Try.func131, Try.ntmps131
    go_wp2_with fail
    refine (unhide F1 _).mono ?_
    rintro e w1 ⟨rfl, hb⟩
    have k0_4 : w1.cell? ⟨w.heap.size, 4, none⟩ = some (.bool v.hi.num.g) := cell_later hb (by simp [go_sem])
    have k0_5 : w1.cell? ⟨w.heap.size, 5, none⟩ = some (.slice v.hi.num.a v.hi.num.n v.hi.num.c) := cell_later hb (by simp [go_sem])
    have k0_6 : w1.cell? ⟨w.heap.size, 6, none⟩ = some (.bool v.hi.den.g) := cell_later hb (by simp [go_sem])
    have k0_7 : w1.cell? ⟨w.heap.size, 7, none⟩ = some (.slice v.hi.den.a v.hi.den.n v.hi.den.c) := cell_later hb (by simp [go_sem])
    have HB := hide (below_on (unhide B0) hb)
    clear hb
    go_wp2_with fail
    refine (unhide F2 _).mono ?_
    rintro e w2 ⟨rfl, hb⟩
    clear k0_4 k0_5 k0_6 k0_7
    replace HB := hide (below_on (unhide HB) hb)
    clear hb
    go_wp2
    go_ret
    exact ⟨rfl, unhide HB⟩
  · have F1 := hide (fun w1 => fitsI v.lo w1 m1)
    have F2 := hide (fun w1 => fitsI v.hi w1 m2)
    rw [c1] at F1
    rw [c2] at F2
    rw [show decide ((v.lo.den.n ≠ 0 ∧ v.lo.num.n ≤ 40 ∧ v.lo.den.n ≤ 40) ∧ (v.hi.den.n ≠ 0 ∧ v.hi.num.n ≤ 40 ∧ v.hi.den.n ≤ 40)) = true from decide_eq_true ⟨of_decide_eq_true c1, of_decide_eq_true c2⟩]
    clear c1 c2
    have B0 := hide (show Below w.heap.size w (w.alloc (.cells #[.bool v.lo.num.g, .slice v.lo.num.a v.lo.num.n v.lo.num.c, .bool v.lo.den.g, .slice v.lo.den.a v.lo.den.n v.lo.den.c, .bool v.hi.num.g, .slice v.hi.num.a v.hi.num.n v.hi.num.c, .bool v.hi.den.g, .slice v.hi.den.a v.hi.den.n v.hi.den.c] 61)) from ((Below.refl _ _).alloc (by simp) _))
    go_enter Try.func131, Try.ntmps131
    go_wp2_with fail
    refine (unhide F1 _).mono ?_
    rintro e w1 ⟨rfl, hb⟩
    have k0_4 : w1.cell? ⟨w.heap.size, 4, none⟩ = some (.bool v.hi.num.g) := cell_later hb (by simp [go_sem])
    have k0_5 : w1.cell? ⟨w.heap.size, 5, none⟩ = some (.slice v.hi.num.a v.hi.num.n v.hi.num.c) := cell_later hb (by simp [go_sem])
    have k0_6 : w1.cell? ⟨w.heap.size, 6, none⟩ = some (.bool v.hi.den.g) := cell_later hb (by simp [go_sem])
    have k0_7 : w1.cell? ⟨w.heap.size, 7, none⟩ = some (.slice v.hi.den.a v.hi.den.n v.hi.den.c) := cell_later hb (by simp [go_sem])
    have HB := hide (below_on (unhide B0) hb)
    clear hb
    go_wp2_with fail
    refine (unhide F2 _).mono ?_
    rintro e w2 ⟨rfl, hb⟩
    clear k0_4 k0_5 k0_6 k0_7
    replace HB := hide (below_on (unhide HB) hb)
    clear hb
    go_wp2
    go_ret
    exact ⟨rfl, unhide HB⟩

def RetSin (lo hi : Nat) (w : World) (U : SD → Bool → Prop) (e : Ending) (w' : World) : Prop := ∃ (v : SV) (d : SD) (ok : Bool), e = .returned (.tuple #[.agg #[.bool v.lo.num.g, .slice v.lo.num.a v.lo.num.n v.lo.num.c, .bool v.lo.den.g, .slice v.lo.den.a v.lo.den.n v.lo.den.c, .bool v.hi.num.g, .slice v.hi.num.a v.hi.num.n v.hi.num.c, .bool v.hi.den.g, .slice v.hi.den.a v.hi.den.n v.hi.den.c], .bool ok]) ∧ Below w.heap.size w w' ∧ AllOwn lo hi w' [(v.lo.num, d.lo.num), (v.lo.den, d.lo.den), (v.hi.num, d.hi.num), (v.hi.den, d.hi.den)] ∧ U d ok
set_option maxHeartbeats 2000000 in
theorem whereS_yes (v : SV) (d : SD) (lo hi : Nat) (w : World) (ho : AllOwn lo hi w [(v.lo.num, d.lo.num), (v.lo.den, d.lo.den), (v.hi.num, d.hi.num), (v.hi.den, d.hi.den)]) (hh : hi ≤ w.heap.size) (m1 : v.lo.den.n ≤ maxLen) (m2 : v.hi.den.n ≤ maxLen) (hf : decide ((v.lo.den.n ≠ 0 ∧ v.lo.num.n ≤ 40 ∧ v.lo.den.n ≤ 40) ∧ (v.hi.den.n ≠ 0 ∧ v.hi.num.n ≤ 40 ∧ v.hi.den.n ≤ 40)) = true) :
    Calls Try.prog 130 #[.agg #[.bool v.lo.num.g, .slice v.lo.num.a v.lo.num.n v.lo.num.c, .bool v.lo.den.g, .slice v.lo.den.a v.lo.den.n v.lo.den.c, .bool v.hi.num.g, .slice v.hi.num.a v.hi.num.n v.hi.num.c, .bool v.hi.den.g, .slice v.hi.den.a v.hi.den.n v.hi.den.c], .func (Fn.func 131) #[] #[]] w (RetSin lo hi w (fun d' ok => d' = d ∧ ok = true)) := by
  have HO := hide ho
  clear ho
  have HF := hide (fun w1 => spanFits_v v w1 m1 m2)
  rw [hf] at HF
  clear hf
  have B0 := hide (show Below w.heap.size w ((w.alloc (.cells #[.bool v.lo.num.g, .slice v.lo.num.a v.lo.num.n v.lo.num.c, .bool v.lo.den.g, .slice v.lo.den.a v.lo.den.n v.lo.den.c, .bool v.hi.num.g, .slice v.hi.num.a v.hi.num.n v.hi.num.c, .bool v.hi.den.g, .slice v.hi.den.a v.hi.den.n v.hi.den.c] 61)).alloc (.cells #[.bool false, .slice none 0 0, .bool false, .slice none 0 0, .bool false, .slice none 0 0, .bool false, .slice none 0 0] 61)) from (((Below.refl _ _).alloc (by simp) _).alloc (by simp) _))
  go_enter Try.func130, Try.ntmps130
  go_wp2_with fail
  refine (unhide HF _).mono ?_
  rintro e w1 ⟨rfl, hb⟩
  have s1 : w.heap.size + 1 < w1.heap.size := by have := hb.size; simp at this; omega
  have k0_0 : w1.cell? ⟨w.heap.size, 0, none⟩ = some (.bool v.lo.num.g) := cell_later hb (by simp [go_sem])
  have k0_1 : w1.cell? ⟨w.heap.size, 1, none⟩ = some (.slice v.lo.num.a v.lo.num.n v.lo.num.c) := cell_later hb (by simp [go_sem])
  have k0_2 : w1.cell? ⟨w.heap.size, 2, none⟩ = some (.bool v.lo.den.g) := cell_later hb (by simp [go_sem])
  have k0_3 : w1.cell? ⟨w.heap.size, 3, none⟩ = some (.slice v.lo.den.a v.lo.den.n v.lo.den.c) := cell_later hb (by simp [go_sem])
  have k0_4 : w1.cell? ⟨w.heap.size, 4, none⟩ = some (.bool v.hi.num.g) := cell_later hb (by simp [go_sem])
  have k0_5 : w1.cell? ⟨w.heap.size, 5, none⟩ = some (.slice v.hi.num.a v.hi.num.n v.hi.num.c) := cell_later hb (by simp [go_sem])
  have k0_6 : w1.cell? ⟨w.heap.size, 6, none⟩ = some (.bool v.hi.den.g) := cell_later hb (by simp [go_sem])
  have k0_7 : w1.cell? ⟨w.heap.size, 7, none⟩ = some (.slice v.hi.den.a v.hi.den.n v.hi.den.c) := cell_later hb (by simp [go_sem])
  have k1_0 : w1.cell? ⟨w.heap.size + 1, 0, none⟩ = some (.bool false) := cell_later hb (by simp [go_sem])
  have k1_1 : w1.cell? ⟨w.heap.size + 1, 1, none⟩ = some (.slice none 0 0) := cell_later hb (by simp [go_sem])
  have k1_2 : w1.cell? ⟨w.heap.size + 1, 2, none⟩ = some (.bool false) := cell_later hb (by simp [go_sem])
  have k1_3 : w1.cell? ⟨w.heap.size + 1, 3, none⟩ = some (.slice none 0 0) := cell_later hb (by simp [go_sem])
  have k1_4 : w1.cell? ⟨w.heap.size + 1, 4, none⟩ = some (.bool false) := cell_later hb (by simp [go_sem])
  have k1_5 : w1.cell? ⟨w.heap.size + 1, 5, none⟩ = some (.slice none 0 0) := cell_later hb (by simp [go_sem])
  have k1_6 : w1.cell? ⟨w.heap.size + 1, 6, none⟩ = some (.bool false) := cell_later hb (by simp [go_sem])
  have k1_7 : w1.cell? ⟨w.heap.size + 1, 7, none⟩ = some (.slice none 0 0) := cell_later hb (by simp [go_sem])
  have z1 : ∀ o, w1.frozen? ⟨w.heap.size + 1, o, none⟩ = false := fun o => frozen_later hb (by simp) (by simp [go_sem])
  have HB := hide (below_on (unhide B0) hb)
  clear hb
  go_wp2
  refine bodyPost_ret (v := .tuple #[.agg #[.bool v.lo.num.g, .slice v.lo.num.a v.lo.num.n v.lo.num.c, .bool v.lo.den.g, .slice v.lo.den.a v.lo.den.n v.lo.den.c, .bool v.hi.num.g, .slice v.hi.num.a v.hi.num.n v.hi.num.c, .bool v.hi.den.g, .slice v.hi.den.a v.hi.den.n v.hi.den.c], .bool true]) (by simp [results, Try.results130, go_sem, k1_0, k1_1, k1_2, k1_3, k1_4, k1_5, k1_6, k1_7]) rfl ?_
  have bt := metS_but (w5 := w1) (v := v) (G := w.heap.size + 1)
  exact ⟨v, d, true, rfl, bt.below (unhide HB) (by omega) (unhide HB).size, ((unhide HO).later (unhide HB)).but bt (.inl (by omega)), rfl, rfl⟩

set_option maxHeartbeats 2000000 in
theorem whereS_no (v : SV) (lo hi : Nat) (w : World) (m1 : v.lo.den.n ≤ maxLen) (m2 : v.hi.den.n ≤ maxLen) (hf : decide ((v.lo.den.n ≠ 0 ∧ v.lo.num.n ≤ 40 ∧ v.lo.den.n ≤ 40) ∧ (v.hi.den.n ≠ 0 ∧ v.hi.num.n ≤ 40 ∧ v.hi.den.n ≤ 40)) = false) :
    Calls Try.prog 130 #[.agg #[.bool v.lo.num.g, .slice v.lo.num.a v.lo.num.n v.lo.num.c, .bool v.lo.den.g, .slice v.lo.den.a v.lo.den.n v.lo.den.c, .bool v.hi.num.g, .slice v.hi.num.a v.hi.num.n v.hi.num.c, .bool v.hi.den.g, .slice v.hi.den.a v.hi.den.n v.hi.den.c], .func (Fn.func 131) #[] #[]] w (RetSin lo hi w (fun d' ok => d' = (⟨⟨⟨false, []⟩, ⟨false, []⟩⟩, ⟨⟨false, []⟩, ⟨false, []⟩⟩⟩ : SD) ∧ ok = false)) := by
  have HF := hide (fun w1 => spanFits_v v w1 m1 m2)
  rw [hf] at HF
  clear hf
  have B0 := hide (show Below w.heap.size w ((w.alloc (.cells #[.bool v.lo.num.g, .slice v.lo.num.a v.lo.num.n v.lo.num.c, .bool v.lo.den.g, .slice v.lo.den.a v.lo.den.n v.lo.den.c, .bool v.hi.num.g, .slice v.hi.num.a v.hi.num.n v.hi.num.c, .bool v.hi.den.g, .slice v.hi.den.a v.hi.den.n v.hi.den.c] 61)).alloc (.cells #[.bool false, .slice none 0 0, .bool false, .slice none 0 0, .bool false, .slice none 0 0, .bool false, .slice none 0 0] 61)) from (((Below.refl _ _).alloc (by simp) _).alloc (by simp) _))
  go_enter Try.func130, Try.ntmps130
  go_wp2_with fail
  refine (unhide HF _).mono ?_
  rintro e w1 ⟨rfl, hb⟩
  have s1 : w.heap.size + 1 < w1.heap.size := by have := hb.size; simp at this; omega
  have k1_0 : w1.cell? ⟨w.heap.size + 1, 0, none⟩ = some (.bool false) := cell_later hb (by simp [go_sem])
  have k1_1 : w1.cell? ⟨w.heap.size + 1, 1, none⟩ = some (.slice none 0 0) := cell_later hb (by simp [go_sem])
  have k1_2 : w1.cell? ⟨w.heap.size + 1, 2, none⟩ = some (.bool false) := cell_later hb (by simp [go_sem])
  have k1_3 : w1.cell? ⟨w.heap.size + 1, 3, none⟩ = some (.slice none 0 0) := cell_later hb (by simp [go_sem])
  have k1_4 : w1.cell? ⟨w.heap.size + 1, 4, none⟩ = some (.bool false) := cell_later hb (by simp [go_sem])
  have k1_5 : w1.cell? ⟨w.heap.size + 1, 5, none⟩ = some (.slice none 0 0) := cell_later hb (by simp [go_sem])
  have k1_6 : w1.cell? ⟨w.heap.size + 1, 6, none⟩ = some (.bool false) := cell_later hb (by simp [go_sem])
  have k1_7 : w1.cell? ⟨w.heap.size + 1, 7, none⟩ = some (.slice none 0 0) := cell_later hb (by simp [go_sem])
  have z1 : ∀ o, w1.frozen? ⟨w.heap.size + 1, o, none⟩ = false := fun o => frozen_later hb (by simp) (by simp [go_sem])
  have HB := hide (below_on (unhide B0) hb)
  clear hb
  go_upto_region 3 with fail
  have hb : Below w1.heap.size w1 (w1.alloc (.cells #[.bool false, .slice none 0 0, .bool false, .slice none 0 0, .bool false, .slice none 0 0, .bool false, .slice none 0 0] 61)) := ((Below.refl _ _).alloc (by simp) _)
  have k2_0 : (w1.alloc (.cells #[.bool false, .slice none 0 0, .bool false, .slice none 0 0, .bool false, .slice none 0 0, .bool false, .slice none 0 0] 61)).cell? ⟨w1.heap.size, 0, none⟩ = some (.bool false) := by simp [go_sem]
  have k2_1 : (w1.alloc (.cells #[.bool false, .slice none 0 0, .bool false, .slice none 0 0, .bool false, .slice none 0 0, .bool false, .slice none 0 0] 61)).cell? ⟨w1.heap.size, 1, none⟩ = some (.slice none 0 0) := by simp [go_sem]
  have k2_2 : (w1.alloc (.cells #[.bool false, .slice none 0 0, .bool false, .slice none 0 0, .bool false, .slice none 0 0, .bool false, .slice none 0 0] 61)).cell? ⟨w1.heap.size, 2, none⟩ = some (.bool false) := by simp [go_sem]
  have k2_3 : (w1.alloc (.cells #[.bool false, .slice none 0 0, .bool false, .slice none 0 0, .bool false, .slice none 0 0, .bool false, .slice none 0 0] 61)).cell? ⟨w1.heap.size, 3, none⟩ = some (.slice none 0 0) := by simp [go_sem]
  have k2_4 : (w1.alloc (.cells #[.bool false, .slice none 0 0, .bool false, .slice none 0 0, .bool false, .slice none 0 0, .bool false, .slice none 0 0] 61)).cell? ⟨w1.heap.size, 4, none⟩ = some (.bool false) := by simp [go_sem]
  have k2_5 : (w1.alloc (.cells #[.bool false, .slice none 0 0, .bool false, .slice none 0 0, .bool false, .slice none 0 0, .bool false, .slice none 0 0] 61)).cell? ⟨w1.heap.size, 5, none⟩ = some (.slice none 0 0) := by simp [go_sem]
  have k2_6 : (w1.alloc (.cells #[.bool false, .slice none 0 0, .bool false, .slice none 0 0, .bool false, .slice none 0 0, .bool false, .slice none 0 0] 61)).cell? ⟨w1.heap.size, 6, none⟩ = some (.bool false) := by simp [go_sem]
  have k2_7 : (w1.alloc (.cells #[.bool false, .slice none 0 0, .bool false, .slice none 0 0, .bool false, .slice none 0 0, .bool false, .slice none 0 0] 61)).cell? ⟨w1.heap.size, 7, none⟩ = some (.slice none 0 0) := by simp [go_sem]
  replace k1_0 : (w1.alloc (.cells #[.bool false, .slice none 0 0, .bool false, .slice none 0 0, .bool false, .slice none 0 0, .bool false, .slice none 0 0] 61)).cell? ⟨w.heap.size + 1, 0, none⟩ = some (.bool false) := (ca_other k1_0)
  replace k1_1 : (w1.alloc (.cells #[.bool false, .slice none 0 0, .bool false, .slice none 0 0, .bool false, .slice none 0 0, .bool false, .slice none 0 0] 61)).cell? ⟨w.heap.size + 1, 1, none⟩ = some (.slice none 0 0) := (ca_other k1_1)
  replace k1_2 : (w1.alloc (.cells #[.bool false, .slice none 0 0, .bool false, .slice none 0 0, .bool false, .slice none 0 0, .bool false, .slice none 0 0] 61)).cell? ⟨w.heap.size + 1, 2, none⟩ = some (.bool false) := (ca_other k1_2)
  replace k1_3 : (w1.alloc (.cells #[.bool false, .slice none 0 0, .bool false, .slice none 0 0, .bool false, .slice none 0 0, .bool false, .slice none 0 0] 61)).cell? ⟨w.heap.size + 1, 3, none⟩ = some (.slice none 0 0) := (ca_other k1_3)
  replace k1_4 : (w1.alloc (.cells #[.bool false, .slice none 0 0, .bool false, .slice none 0 0, .bool false, .slice none 0 0, .bool false, .slice none 0 0] 61)).cell? ⟨w.heap.size + 1, 4, none⟩ = some (.bool false) := (ca_other k1_4)
  replace k1_5 : (w1.alloc (.cells #[.bool false, .slice none 0 0, .bool false, .slice none 0 0, .bool false, .slice none 0 0, .bool false, .slice none 0 0] 61)).cell? ⟨w.heap.size + 1, 5, none⟩ = some (.slice none 0 0) := (ca_other k1_5)
  replace k1_6 : (w1.alloc (.cells #[.bool false, .slice none 0 0, .bool false, .slice none 0 0, .bool false, .slice none 0 0, .bool false, .slice none 0 0] 61)).cell? ⟨w.heap.size + 1, 6, none⟩ = some (.bool false) := (ca_other k1_6)
  replace k1_7 : (w1.alloc (.cells #[.bool false, .slice none 0 0, .bool false, .slice none 0 0, .bool false, .slice none 0 0, .bool false, .slice none 0 0] 61)).cell? ⟨w.heap.size + 1, 7, none⟩ = some (.slice none 0 0) := (ca_other k1_7)
  replace z1 : ∀ o, (w1.alloc (.cells #[.bool false, .slice none 0 0, .bool false, .slice none 0 0, .bool false, .slice none 0 0, .bool false, .slice none 0 0] 61)).frozen? ⟨w.heap.size + 1, o, none⟩ = false := fun o => frozen_later hb (by omega) (z1 o)
  replace HB := hide (below_on (unhide HB) hb)
  have szw2 := hb.size
  clear hb
  generalize (w1.alloc (.cells #[.bool false, .slice none 0 0, .bool false, .slice none 0 0, .bool false, .slice none 0 0, .bool false, .slice none 0 0] 61)) = w2 at *
  go_wp2
  refine bodyPost_ret (v := .tuple #[.agg #[.bool false, .slice none 0 0, .bool false, .slice none 0 0, .bool false, .slice none 0 0, .bool false, .slice none 0 0], .bool false]) (by simp [results, Try.results130, go_sem, k1_0, k1_1, k1_2, k1_3, k1_4, k1_5, k1_6, k1_7]) rfl ?_
  have bt := metS_but (w5 := w2) (v := (⟨⟨⟨false, none, 0, 0⟩, ⟨false, none, 0, 0⟩⟩, ⟨⟨false, none, 0, 0⟩, ⟨false, none, 0, 0⟩⟩⟩ : SV)) (G := w.heap.size + 1)
  exact ⟨(⟨⟨⟨false, none, 0, 0⟩, ⟨false, none, 0, 0⟩⟩, ⟨⟨false, none, 0, 0⟩, ⟨false, none, 0, 0⟩⟩⟩ : SV), (⟨⟨⟨false, []⟩, ⟨false, []⟩⟩, ⟨⟨false, []⟩, ⟨false, []⟩⟩⟩ : SD), false, rfl, bt.below (unhide HB) (by omega) (unhide HB).size, zeroS _ _ _, rfl, rfl⟩

theorem whereS (v : SV) (N D N' D' : Int) (xs us ys vs : List Int) (lo hi : Nat) (w : World) (ho : AllOwn lo hi w [(v.lo.num, ⟨decide (N < 0), xs⟩), (v.lo.den, ⟨decide (D < 0), us⟩), (v.hi.num, ⟨decide (N' < 0), ys⟩), (v.hi.den, ⟨decide (D' < 0), vs⟩)]) (hh : hi ≤ w.heap.size) (m1 : v.lo.den.n ≤ maxLen) (m2 : v.hi.den.n ≤ maxLen) (n1 : Nm xs N.natAbs) (n2 : Nm us D.natAbs) (n3 : Nm ys N'.natAbs) (n4 : Nm vs D'.natAbs) (hD : D ≠ 0) (hD' : D' ≠ 0) :
    Calls Try.prog 130 #[.agg #[.bool v.lo.num.g, .slice v.lo.num.a v.lo.num.n v.lo.num.c, .bool v.lo.den.g, .slice v.lo.den.a v.lo.den.n v.lo.den.c, .bool v.hi.num.g, .slice v.hi.num.a v.hi.num.n v.hi.num.c, .bool v.hi.den.g, .slice v.hi.den.a v.hi.den.n v.hi.den.c], .func (Fn.func 131) #[] #[]] w (RetSin lo hi w (AnsS true N D N' D')) := by
  have e1 : xs.length = v.lo.num.n := (ho.own (v.lo.num, ⟨decide (N < 0), xs⟩) (by simp)).len
  have e2 : us.length = v.lo.den.n := (ho.own (v.lo.den, ⟨decide (D < 0), us⟩) (by simp)).len
  have e3 : ys.length = v.hi.num.n := (ho.own (v.hi.num, ⟨decide (N' < 0), ys⟩) (by simp)).len
  have e4 : vs.length = v.hi.den.n := (ho.own (v.hi.den, ⟨decide (D' < 0), vs⟩) (by simp)).len
  have z1 : v.lo.den.n ≠ 0 := fun e => by have := n2.nil_iff.1 (List.length_eq_zero_iff.1 (e2.trans e)); omega
  have z2 : v.hi.den.n ≠ 0 := fun e => by have := n4.nil_iff.1 (List.length_eq_zero_iff.1 (e4.trans e)); omega
  by_cases hf : (v.lo.num.n ≤ 40 ∧ v.lo.den.n ≤ 40) ∧ (v.hi.num.n ≤ 40 ∧ v.hi.den.n ≤ 40)
  · refine (whereS_yes v ⟨⟨⟨decide (N < 0), xs⟩, ⟨decide (D < 0), us⟩⟩, ⟨⟨decide (N' < 0), ys⟩, ⟨decide (D' < 0), vs⟩⟩⟩ lo hi w ho hh m1 m2 (decide_eq_true ⟨⟨z1, hf.1⟩, ⟨z2, hf.2⟩⟩)).mono ?_
    rintro e w' ⟨u, d, ok, rfl, hb, hv, rfl, rfl⟩
    exact ⟨u, _, _, rfl, hb, hv, .inl ⟨rfl, xs, us, ys, vs, n1, n2, n3, n4, .inl ⟨by omega, by omega, rfl, rfl⟩⟩⟩
  · refine (whereS_no v lo hi w m1 m2 (decide_eq_false (fun h => hf ⟨h.1.2, h.2.2⟩))).mono ?_
    rintro e w' ⟨u, d, ok, rfl, hb, hv, rfl, rfl⟩
    exact ⟨u, _, _, rfl, hb, hv, .inl ⟨rfl, xs, us, ys, vs, n1, n2, n3, n4, .inr ⟨by rw [e1, e2, e3, e4]; exact hf, rfl, rfl⟩⟩⟩

end Go.Proofs.Ytagnhgefdcckoaa
namespace Go.Proofs.Ytagnhgefdcckoaa
open Go.RowKit
set_option linter.unusedVariables false
set_option maxRecDepth 100000
set_option linter.unusedSimpArgs false

/-- The box of the span so far. -/
structure Ls3 (w wr : World) (G : Nat) (q1 q2 : QV) : Prop where
  a0 : wr.cell? ⟨G, 0, none⟩ = some (.bool q1.num.g)
  a1 : wr.cell? ⟨G, 1, none⟩ = some (.slice q1.num.a q1.num.n q1.num.c)
  a2 : wr.cell? ⟨G, 2, none⟩ = some (.bool q1.den.g)
  a3 : wr.cell? ⟨G, 3, none⟩ = some (.slice q1.den.a q1.den.n q1.den.c)
  b0 : wr.cell? ⟨G, 4, none⟩ = some (.bool q2.num.g)
  b1 : wr.cell? ⟨G, 5, none⟩ = some (.slice q2.num.a q2.num.n q2.num.c)
  b2 : wr.cell? ⟨G, 6, none⟩ = some (.bool q2.den.g)
  b3 : wr.cell? ⟨G, 7, none⟩ = some (.slice q2.den.a q2.den.n q2.den.c)
  f1 : ∀ o, wr.frozen? ⟨G, o, none⟩ = false
  r0 : wr.cell? ⟨w.heap.size, 0, none⟩ = some (.bool false)
  r1 : wr.cell? ⟨w.heap.size, 1, none⟩ = some (.slice none 0 0)
  r2 : wr.cell? ⟨w.heap.size, 2, none⟩ = some (.bool false)
  r3 : wr.cell? ⟨w.heap.size, 3, none⟩ = some (.slice none 0 0)
  r4 : wr.cell? ⟨w.heap.size, 4, none⟩ = some (.bool false)
  r5 : wr.cell? ⟨w.heap.size, 5, none⟩ = some (.slice none 0 0)
  r6 : wr.cell? ⟨w.heap.size, 6, none⟩ = some (.bool false)
  r7 : wr.cell? ⟨w.heap.size, 7, none⟩ = some (.slice none 0 0)
  fr : ∀ o, wr.frozen? ⟨w.heap.size, o, none⟩ = false
  bel : Below w.heap.size w wr
theorem Ls3.later {w wr wy : World} {G : Nat} {q1 q2 : QV} (h : Ls3 w wr G q1 q2) (hb : Below wr.heap.size wr wy) : Ls3 w wy G q1 q2 :=
  ⟨cell_later hb h.a0, cell_later hb h.a1, cell_later hb h.a2, cell_later hb h.a3, cell_later hb h.b0, cell_later hb h.b1, cell_later hb h.b2, cell_later hb h.b3, fun o => frozen_later hb (World.block_lt_of_cell? _ _ h.a0) (h.f1 o), cell_later hb h.r0, cell_later hb h.r1, cell_later hb h.r2, cell_later hb h.r3, cell_later hb h.r4, cell_later hb h.r5, cell_later hb h.r6, cell_later hb h.r7, fun o => frozen_later hb (World.block_lt_of_cell? _ _ h.r0) (h.fr o), below_on h.bel hb⟩
theorem Ls3.set1 {w wr : World} {G : Nat} {q1 q2 q : QV} (h : Ls3 w wr G q1 q2) (g1 : w.heap.size < G) : Ls3 w ((((wr.setCell ⟨G, 0, none⟩ (.bool q.num.g)).setCell ⟨G, 1, none⟩ (.slice q.num.a q.num.n q.num.c)).setCell ⟨G, 2, none⟩ (.bool q.den.g)).setCell ⟨G, 3, none⟩ (.slice q.den.a q.den.n q.den.c)) G q q2 :=
  ⟨by simp [go_sem, h.a0, h.a1, h.a2, h.a3, h.b0, h.b1, h.b2, h.b3], by simp [go_sem, h.a0, h.a1, h.a2, h.a3, h.b0, h.b1, h.b2, h.b3], by simp [go_sem, h.a0, h.a1, h.a2, h.a3, h.b0, h.b1, h.b2, h.b3], by simp [go_sem, h.a0, h.a1, h.a2, h.a3, h.b0, h.b1, h.b2, h.b3], by simp [go_sem, h.a0, h.a1, h.a2, h.a3, h.b0, h.b1, h.b2, h.b3], by simp [go_sem, h.a0, h.a1, h.a2, h.a3, h.b0, h.b1, h.b2, h.b3], by simp [go_sem, h.a0, h.a1, h.a2, h.a3, h.b0, h.b1, h.b2, h.b3], by simp [go_sem, h.a0, h.a1, h.a2, h.a3, h.b0, h.b1, h.b2, h.b3], fun o => by simp [go_sem, h.f1 o], cs_other (cs_other (cs_other (cs_other h.r0 (by omega)) (by omega)) (by omega)) (by omega), cs_other (cs_other (cs_other (cs_other h.r1 (by omega)) (by omega)) (by omega)) (by omega), cs_other (cs_other (cs_other (cs_other h.r2 (by omega)) (by omega)) (by omega)) (by omega), cs_other (cs_other (cs_other (cs_other h.r3 (by omega)) (by omega)) (by omega)) (by omega), cs_other (cs_other (cs_other (cs_other h.r4 (by omega)) (by omega)) (by omega)) (by omega), cs_other (cs_other (cs_other (cs_other h.r5 (by omega)) (by omega)) (by omega)) (by omega), cs_other (cs_other (cs_other (cs_other h.r6 (by omega)) (by omega)) (by omega)) (by omega), cs_other (cs_other (cs_other (cs_other h.r7 (by omega)) (by omega)) (by omega)) (by omega), fun o => by simp [go_sem, h.fr o], ((((h.bel.setCell (by show w.heap.size ≤ G; omega) _).setCell (by show w.heap.size ≤ G; omega) _).setCell (by show w.heap.size ≤ G; omega) _).setCell (by show w.heap.size ≤ G; omega) _)⟩
theorem Ls3.set2 {w wr : World} {G : Nat} {q1 q2 q : QV} (h : Ls3 w wr G q1 q2) (g1 : w.heap.size < G) : Ls3 w ((((wr.setCell ⟨G, 4, none⟩ (.bool q.num.g)).setCell ⟨G, 5, none⟩ (.slice q.num.a q.num.n q.num.c)).setCell ⟨G, 6, none⟩ (.bool q.den.g)).setCell ⟨G, 7, none⟩ (.slice q.den.a q.den.n q.den.c)) G q1 q :=
  ⟨by simp [go_sem, h.a0, h.a1, h.a2, h.a3, h.b0, h.b1, h.b2, h.b3], by simp [go_sem, h.a0, h.a1, h.a2, h.a3, h.b0, h.b1, h.b2, h.b3], by simp [go_sem, h.a0, h.a1, h.a2, h.a3, h.b0, h.b1, h.b2, h.b3], by simp [go_sem, h.a0, h.a1, h.a2, h.a3, h.b0, h.b1, h.b2, h.b3], by simp [go_sem, h.a0, h.a1, h.a2, h.a3, h.b0, h.b1, h.b2, h.b3], by simp [go_sem, h.a0, h.a1, h.a2, h.a3, h.b0, h.b1, h.b2, h.b3], by simp [go_sem, h.a0, h.a1, h.a2, h.a3, h.b0, h.b1, h.b2, h.b3], by simp [go_sem, h.a0, h.a1, h.a2, h.a3, h.b0, h.b1, h.b2, h.b3], fun o => by simp [go_sem, h.f1 o], cs_other (cs_other (cs_other (cs_other h.r0 (by omega)) (by omega)) (by omega)) (by omega), cs_other (cs_other (cs_other (cs_other h.r1 (by omega)) (by omega)) (by omega)) (by omega), cs_other (cs_other (cs_other (cs_other h.r2 (by omega)) (by omega)) (by omega)) (by omega), cs_other (cs_other (cs_other (cs_other h.r3 (by omega)) (by omega)) (by omega)) (by omega), cs_other (cs_other (cs_other (cs_other h.r4 (by omega)) (by omega)) (by omega)) (by omega), cs_other (cs_other (cs_other (cs_other h.r5 (by omega)) (by omega)) (by omega)) (by omega), cs_other (cs_other (cs_other (cs_other h.r6 (by omega)) (by omega)) (by omega)) (by omega), cs_other (cs_other (cs_other (cs_other h.r7 (by omega)) (by omega)) (by omega)) (by omega), fun o => by simp [go_sem, h.fr o], ((((h.bel.setCell (by show w.heap.size ≤ G; omega) _).setCell (by show w.heap.size ≤ G; omega) _).setCell (by show w.heap.size ≤ G; omega) _).setCell (by show w.heap.size ≤ G; omega) _)⟩

/-- A call answers what reads as a span. -/
def OutSv (w : World) (N D N' D' : Int) (e : Ending) (w' : World) : Prop := ∃ v : SV, e = .returned (.agg #[.bool v.lo.num.g, .slice v.lo.num.a v.lo.num.n v.lo.num.c, .bool v.lo.den.g, .slice v.lo.den.a v.lo.den.n v.lo.den.c, .bool v.hi.num.g, .slice v.hi.num.a v.hi.num.n v.hi.num.c, .bool v.hi.den.g, .slice v.hi.den.a v.hi.den.n v.hi.den.c]) ∧ Below w.heap.size w w' ∧ IsQ w' v.lo N D ∧ IsQ w' v.hi N' D'
set_option maxHeartbeats 8000000 in
theorem l3Of_v (x : RQ) (b off n c : Nat) (l : List RQ) (w : World) (jx : RQ.Is w x) (hl : Rats w b off l) (hn : l.length = n) (h1 : n ≤ 1000) (hp : 1 ≤ n) (h0 : w.cell? ⟨b, off, none⟩ = some (.bool x.q.num.g) ∧ w.cell? ⟨b, off + 1, none⟩ = some (.slice x.q.num.a x.q.num.n x.q.num.c) ∧ w.cell? ⟨b, off + 2, none⟩ = some (.bool x.q.den.g) ∧ w.cell? ⟨b, off + 3, none⟩ = some (.slice x.q.den.a x.q.den.n x.q.den.c)) :
    Calls Try.prog 93 #[.slice (some ⟨b, off, none⟩) n c] w (OutSv w (l.foldl stLo x).N (l.foldl stLo x).D (l.foldl stHi x).N (l.foldl stHi x).D) := by
  have HL := hide hl
  have HN := hide hn
  have H0 := hide h0
  have JX := hide jx
  clear hl hn h0 jx
  have p0 : 0 < n := by omega
  go_enter Try.func93, Try.ntmps93
  go_upto_region 1 with fail
  have hb : Below w.heap.size w (w.alloc (.cells #[.bool false, .slice none 0 0, .bool false, .slice none 0 0, .bool false, .slice none 0 0, .bool false, .slice none 0 0] 61)) := ((Below.refl _ _).alloc (by simp) _)
  have k0_0 : (w.alloc (.cells #[.bool false, .slice none 0 0, .bool false, .slice none 0 0, .bool false, .slice none 0 0, .bool false, .slice none 0 0] 61)).cell? ⟨w.heap.size, 0, none⟩ = some (.bool false) := by simp [go_sem]
  have k0_1 : (w.alloc (.cells #[.bool false, .slice none 0 0, .bool false, .slice none 0 0, .bool false, .slice none 0 0, .bool false, .slice none 0 0] 61)).cell? ⟨w.heap.size, 1, none⟩ = some (.slice none 0 0) := by simp [go_sem]
  have k0_2 : (w.alloc (.cells #[.bool false, .slice none 0 0, .bool false, .slice none 0 0, .bool false, .slice none 0 0, .bool false, .slice none 0 0] 61)).cell? ⟨w.heap.size, 2, none⟩ = some (.bool false) := by simp [go_sem]
  have k0_3 : (w.alloc (.cells #[.bool false, .slice none 0 0, .bool false, .slice none 0 0, .bool false, .slice none 0 0, .bool false, .slice none 0 0] 61)).cell? ⟨w.heap.size, 3, none⟩ = some (.slice none 0 0) := by simp [go_sem]
  have k0_4 : (w.alloc (.cells #[.bool false, .slice none 0 0, .bool false, .slice none 0 0, .bool false, .slice none 0 0, .bool false, .slice none 0 0] 61)).cell? ⟨w.heap.size, 4, none⟩ = some (.bool false) := by simp [go_sem]
  have k0_5 : (w.alloc (.cells #[.bool false, .slice none 0 0, .bool false, .slice none 0 0, .bool false, .slice none 0 0, .bool false, .slice none 0 0] 61)).cell? ⟨w.heap.size, 5, none⟩ = some (.slice none 0 0) := by simp [go_sem]
  have k0_6 : (w.alloc (.cells #[.bool false, .slice none 0 0, .bool false, .slice none 0 0, .bool false, .slice none 0 0, .bool false, .slice none 0 0] 61)).cell? ⟨w.heap.size, 6, none⟩ = some (.bool false) := by simp [go_sem]
  have k0_7 : (w.alloc (.cells #[.bool false, .slice none 0 0, .bool false, .slice none 0 0, .bool false, .slice none 0 0, .bool false, .slice none 0 0] 61)).cell? ⟨w.heap.size, 7, none⟩ = some (.slice none 0 0) := by simp [go_sem]
  have z0 : ∀ o, (w.alloc (.cells #[.bool false, .slice none 0 0, .bool false, .slice none 0 0, .bool false, .slice none 0 0, .bool false, .slice none 0 0] 61)).frozen? ⟨w.heap.size, o, none⟩ = false := fun o => by simp [go_sem]
  have szw0 : w.heap.size + 1 ≤ (w.alloc (.cells #[.bool false, .slice none 0 0, .bool false, .slice none 0 0, .bool false, .slice none 0 0, .bool false, .slice none 0 0] 61)).heap.size := by simp
  have HB := hide hb
  clear hb
  generalize (w.alloc (.cells #[.bool false, .slice none 0 0, .bool false, .slice none 0 0, .bool false, .slice none 0 0, .bool false, .slice none 0 0] 61)) = w0 at *
  have E0 : w0.cell? ⟨b, off, none⟩ = some (.bool x.q.num.g) := ((unhide HB).cell (p := ⟨b, off, none⟩) (unhide HL).lt).trans (unhide H0).1
  have E1 : w0.cell? ⟨b, off + 1, none⟩ = some (.slice x.q.num.a x.q.num.n x.q.num.c) := ((unhide HB).cell (p := ⟨b, off + 1, none⟩) (unhide HL).lt).trans (unhide H0).2.1
  have E2 : w0.cell? ⟨b, off + 2, none⟩ = some (.bool x.q.den.g) := ((unhide HB).cell (p := ⟨b, off + 2, none⟩) (unhide HL).lt).trans (unhide H0).2.2.1
  have E3 : w0.cell? ⟨b, off + 3, none⟩ = some (.slice x.q.den.a x.q.den.n x.q.den.c) := ((unhide HB).cell (p := ⟨b, off + 3, none⟩) (unhide HL).lt).trans (unhide H0).2.2.2
  go_cut [3] (fun p wx => ∃ (G : Nat), p = .pointer (some ⟨G, 0, none⟩) ∧ w0.heap.size ≤ G ∧ Hid (Ls3 w wx G x.q x.q))
  case first =>
    go_region_held3 (fun w' => w'.cell? ⟨b, off, none⟩ = some (.bool x.q.num.g) ∧ w'.cell? ⟨b, off + 1, none⟩ = some (.slice x.q.num.a x.q.num.n x.q.num.c) ∧ w'.cell? ⟨b, off + 2, none⟩ = some (.bool x.q.den.g) ∧ w'.cell? ⟨b, off + 3, none⟩ = some (.slice x.q.den.a x.q.den.n x.q.den.c)) (first | (with_reducible exact ⟨E0, E1, E2, E3⟩) | (with_reducible exact ⟨cd_other (E0), cd_other (E1), cd_other (E2), cd_other (E3)⟩) | (with_reducible exact ⟨ca_other (E0), ca_other (E1), ca_other (E2), ca_other (E3)⟩) | (with_reducible exact ⟨cd_other (ca_other (E0)), cd_other (ca_other (E1)), cd_other (ca_other (E2)), cd_other (ca_other (E3))⟩) | (with_reducible exact ⟨ca_other (cd_other (E0)), ca_other (cd_other (E1)), ca_other (cd_other (E2)), ca_other (cd_other (E3))⟩) | (refine ⟨?_, ?_, ?_, ?_⟩ <;> (simp [go_sem, E0, E1, E2, E3]; done)) | fail) (fail)
    all_goals go_wp2_with fail
    all_goals go_meet
    all_goals have bb : Below w0.heap.size w0 (w0.alloc (.cells #[.bool x.q.num.g, .slice x.q.num.a x.q.num.n x.q.num.c, .bool x.q.den.g, .slice x.q.den.a x.q.den.n x.q.den.c, .bool x.q.num.g, .slice x.q.num.a x.q.num.n x.q.num.c, .bool x.q.den.g, .slice x.q.den.a x.q.den.n x.q.den.c] 61)) := (Below.refl _ _).alloc (Nat.le_refl _) _
    all_goals refine ⟨_, rfl, ?_, hide ⟨?_, ?_, ?_, ?_, ?_, ?_, ?_, ?_, ?_, ?_, ?_, ?_, ?_, ?_, ?_, ?_, ?_, ?_, ?_⟩⟩
    all_goals first | (simp [go_sem]; done) | (intro o; simp [go_sem]; done) | with_reducible exact cell_later bb k0_0 | with_reducible exact cell_later bb k0_1 | with_reducible exact cell_later bb k0_2 | with_reducible exact cell_later bb k0_3 | with_reducible exact cell_later bb k0_4 | with_reducible exact cell_later bb k0_5 | with_reducible exact cell_later bb k0_6 | with_reducible exact cell_later bb k0_7 | with_reducible exact cell_later bb.drew k0_0 | with_reducible exact cell_later bb.drew k0_1 | with_reducible exact cell_later bb.drew k0_2 | with_reducible exact cell_later bb.drew k0_3 | with_reducible exact cell_later bb.drew k0_4 | with_reducible exact cell_later bb.drew k0_5 | with_reducible exact cell_later bb.drew k0_6 | with_reducible exact cell_later bb.drew k0_7 | exact (fun o => frozen_later bb (World.block_lt_of_cell? _ _ k0_0) (z0 o)) | exact (fun o => frozen_later bb.drew (World.block_lt_of_cell? _ _ k0_0) (z0 o)) | exact below_on (unhide HB) bb | exact below_on (unhide HB) bb.drew
  case rest =>
    obtain ⟨G, rfl, gg, L0⟩ := hcut
    have g1 : w.heap.size < G := by omega
    clear E0 E1 E2 E3 k0_0 k0_1 k0_2 k0_3 k0_4 k0_5 k0_6 k0_7 z0 HB
    go_wp2
    go_loopw [15] (fun iv wr => ∃ (i : Nat) (lo hi : RQ), i ≤ n ∧ iv = .int .i64 i ∧ Hid (lo = (l.take i).foldl stLo x) ∧ Hid (hi = (l.take i).foldl stHi x) ∧ Hid (RQ.Is w lo) ∧ Hid (RQ.Is w hi) ∧ Hid (Ls3 w wr G lo.q hi.q)) (fun iv _ => n - (intOf iv).toNat)
    case atStart => exact ⟨0, x, x, Nat.zero_le _, rfl, hide rfl, hide rfl, JX, JX, L0⟩
    case round =>
      obtain ⟨i, lo, hi, hi0, rfl, EL, EH, JL, JH, LL⟩ := hrel
      clear L0
      by_cases hlt : i < n
      · have hlt' : (i : Int) < (n : Int) := by omega
        have e0 := (unhide HL).at_ i (by rw [unhide HN]; exact hlt)
        have j0 := (unhide HL).is i (by rw [unhide HN]; exact hlt)
        obtain ⟨y, hy⟩ : ∃ y, y = l[i]'(by rw [unhide HN]; exact hlt) := ⟨_, rfl⟩
        rw [← hy] at e0 j0
        have EY := hide hy
        have JY := hide j0
        obtain ⟨e00, e01, e02, e03⟩ := e0
        have E0 : wr.cell? ⟨b, off + i * 4, none⟩ = some (.bool y.q.num.g) := ((unhide LL).bel.cell (p := ⟨b, off + i * 4, none⟩) (unhide HL).lt).trans e00
        have E1 : wr.cell? ⟨b, off + i * 4 + 1, none⟩ = some (.slice y.q.num.a y.q.num.n y.q.num.c) := ((unhide LL).bel.cell (p := ⟨b, off + i * 4 + 1, none⟩) (unhide HL).lt).trans e01
        have E2 : wr.cell? ⟨b, off + i * 4 + 2, none⟩ = some (.bool y.q.den.g) := ((unhide LL).bel.cell (p := ⟨b, off + i * 4 + 2, none⟩) (unhide HL).lt).trans e02
        have E3 : wr.cell? ⟨b, off + i * 4 + 3, none⟩ = some (.slice y.q.den.a y.q.den.n y.q.den.c) := ((unhide LL).bel.cell (p := ⟨b, off + i * 4 + 3, none⟩) (unhide HL).lt).trans e03
        clear hy j0 e00 e01 e02 e03
        have LA := hide ((unhide LL).later ((Below.refl _ _).alloc (Nat.le_refl _) (.cells #[.bool y.q.num.g, .slice y.q.num.a y.q.num.n y.q.num.c, .bool y.q.den.g, .slice y.q.den.a y.q.den.n y.q.den.c] 50)))
        have SL : Hid ((l.take (i + 1)).foldl stLo x = stLo lo y ∧ (l.take (i + 1)).foldl stHi x = stHi hi y) := hide (by
          have ht : l.take (i + 1) = l.take i ++ [y] := by rw [unhide EY]; exact (List.take_append_getElem (by rw [unhide HN]; exact hlt)).symm
          rw [ht, List.foldl_append, List.foldl_append, ← unhide EL, ← unhide EH]
          exact ⟨rfl, rfl⟩)
        have g1r : G < wr.heap.size := World.block_lt_of_cell? _ _ (unhide LL).a0
        clear LL EL EH
        by_cases c1 : y.N * lo.D < lo.N * y.D
        · by_cases c2 : hi.N * y.D < y.N * hi.D
          · have t1 : decide (cmpZ (y.N * lo.D) (lo.N * y.D) < 0) = true := cmpZ_lt1 c1
            have t2 : decide (0 < cmpZ (y.N * hi.D) (hi.N * y.D)) = true := cmpZ_gt1 c2
            have NL : Hid (stLo lo y = y ∧ stHi hi y = y) := hide ⟨by unfold stLo; rw [if_pos c1], by unfold stHi; rw [if_pos c2]⟩
            clear c1 c2
            have p0 := (unhide LA).a0
            have p1 := (unhide LA).a1
            have p2 := (unhide LA).a2
            have p3 := (unhide LA).a3
            go_wp2_with fail
            refine (cmpQS y.q lo.q _ _ _ _ _ ((unhide JY).is.later (unhide LA).bel) ((unhide JL).is.later (unhide LA).bel) (unhide JY).kn (unhide JY).kd (unhide JL).kn (unhide JL).kd).mono ?_
            rintro e w1 ⟨rfl, hb⟩
            have q0 : w1.cell? ⟨wr.heap.size, 0, none⟩ = some (.bool y.q.num.g) := cell_later hb (by simp [go_sem])
            have q1 : w1.cell? ⟨wr.heap.size, 1, none⟩ = some (.slice y.q.num.a y.q.num.n y.q.num.c) := cell_later hb (by simp [go_sem])
            have q2 : w1.cell? ⟨wr.heap.size, 2, none⟩ = some (.bool y.q.den.g) := cell_later hb (by simp [go_sem])
            have q3 : w1.cell? ⟨wr.heap.size, 3, none⟩ = some (.slice y.q.den.a y.q.den.n y.q.den.c) := cell_later hb (by simp [go_sem])
            have LB := hide ((unhide LA).later hb)
            clear hb LA E0 E1 E2 E3 p1 p2 p3
            clear p0
            have m0 := (unhide LB).a0
            have m1 := (unhide LB).a1
            have m2 := (unhide LB).a2
            have m3 := (unhide LB).a3
            have mf := (unhide LB).f1
            have LC := hide ((unhide LB).set1 (q := y.q) g1)
            have qq0 : ((((w1.setCell ⟨G, 0, none⟩ (.bool y.q.num.g)).setCell ⟨G, 1, none⟩ (.slice y.q.num.a y.q.num.n y.q.num.c)).setCell ⟨G, 2, none⟩ (.bool y.q.den.g)).setCell ⟨G, 3, none⟩ (.slice y.q.den.a y.q.den.n y.q.den.c)).cell? ⟨wr.heap.size, 0, none⟩ = some (.bool y.q.num.g) := cs_other (cs_other (cs_other (cs_other q0 (by omega)) (by omega)) (by omega)) (by omega)
            have qq1 : ((((w1.setCell ⟨G, 0, none⟩ (.bool y.q.num.g)).setCell ⟨G, 1, none⟩ (.slice y.q.num.a y.q.num.n y.q.num.c)).setCell ⟨G, 2, none⟩ (.bool y.q.den.g)).setCell ⟨G, 3, none⟩ (.slice y.q.den.a y.q.den.n y.q.den.c)).cell? ⟨wr.heap.size, 1, none⟩ = some (.slice y.q.num.a y.q.num.n y.q.num.c) := cs_other (cs_other (cs_other (cs_other q1 (by omega)) (by omega)) (by omega)) (by omega)
            have qq2 : ((((w1.setCell ⟨G, 0, none⟩ (.bool y.q.num.g)).setCell ⟨G, 1, none⟩ (.slice y.q.num.a y.q.num.n y.q.num.c)).setCell ⟨G, 2, none⟩ (.bool y.q.den.g)).setCell ⟨G, 3, none⟩ (.slice y.q.den.a y.q.den.n y.q.den.c)).cell? ⟨wr.heap.size, 2, none⟩ = some (.bool y.q.den.g) := cs_other (cs_other (cs_other (cs_other q2 (by omega)) (by omega)) (by omega)) (by omega)
            have qq3 : ((((w1.setCell ⟨G, 0, none⟩ (.bool y.q.num.g)).setCell ⟨G, 1, none⟩ (.slice y.q.num.a y.q.num.n y.q.num.c)).setCell ⟨G, 2, none⟩ (.bool y.q.den.g)).setCell ⟨G, 3, none⟩ (.slice y.q.den.a y.q.den.n y.q.den.c)).cell? ⟨wr.heap.size, 3, none⟩ = some (.slice y.q.den.a y.q.den.n y.q.den.c) := cs_other (cs_other (cs_other (cs_other q3 (by omega)) (by omega)) (by omega)) (by omega)
            have pp0 := (unhide LC).b0
            have pp1 := (unhide LC).b1
            have pp2 := (unhide LC).b2
            have pp3 := (unhide LC).b3
            go_wp2_with fail
            refine (cmpQS y.q hi.q _ _ _ _ _ ((unhide JY).is.later (unhide LC).bel) ((unhide JH).is.later (unhide LC).bel) (unhide JY).kn (unhide JY).kd (unhide JH).kn (unhide JH).kd).mono ?_
            rintro e w2 ⟨rfl, hb⟩
            have s0 := cell_later hb qq0
            have s1 := cell_later hb qq1
            have s2 := cell_later hb qq2
            have s3 := cell_later hb qq3
            have LD := hide ((unhide LC).later hb)
            clear hb LB pp0 pp1 pp2 pp3 q0 q1 q2 q3 LC qq0 qq1 qq2 qq3 m0 m1 m2 m3 mf
            have m0 := (unhide LD).b0
            have m1 := (unhide LD).b1
            have m2 := (unhide LD).b2
            have m3 := (unhide LD).b3
            have mf := (unhide LD).f1
            have LE := hide ((unhide LD).set2 (q := y.q) g1)
            go_wp2
            go_roundw
            case rel => exact ⟨i + 1, y, y, by omega, by go_num, hide (by rw [(unhide SL).1, (unhide NL).1]), hide (by rw [(unhide SL).2, (unhide NL).2]), JY, JY, LE⟩
            case measure => simp [intOf]; omega
          · have t1 : decide (cmpZ (y.N * lo.D) (lo.N * y.D) < 0) = true := cmpZ_lt1 c1
            have t2 : decide (0 < cmpZ (y.N * hi.D) (hi.N * y.D)) = false := cmpZ_gt0 c2
            have NL : Hid (stLo lo y = y ∧ stHi hi y = hi) := hide ⟨by unfold stLo; rw [if_pos c1], by unfold stHi; rw [if_neg c2]⟩
            clear c1 c2
            have p0 := (unhide LA).a0
            have p1 := (unhide LA).a1
            have p2 := (unhide LA).a2
            have p3 := (unhide LA).a3
            go_wp2_with fail
            refine (cmpQS y.q lo.q _ _ _ _ _ ((unhide JY).is.later (unhide LA).bel) ((unhide JL).is.later (unhide LA).bel) (unhide JY).kn (unhide JY).kd (unhide JL).kn (unhide JL).kd).mono ?_
            rintro e w1 ⟨rfl, hb⟩
            have q0 : w1.cell? ⟨wr.heap.size, 0, none⟩ = some (.bool y.q.num.g) := cell_later hb (by simp [go_sem])
            have q1 : w1.cell? ⟨wr.heap.size, 1, none⟩ = some (.slice y.q.num.a y.q.num.n y.q.num.c) := cell_later hb (by simp [go_sem])
            have q2 : w1.cell? ⟨wr.heap.size, 2, none⟩ = some (.bool y.q.den.g) := cell_later hb (by simp [go_sem])
            have q3 : w1.cell? ⟨wr.heap.size, 3, none⟩ = some (.slice y.q.den.a y.q.den.n y.q.den.c) := cell_later hb (by simp [go_sem])
            have LB := hide ((unhide LA).later hb)
            clear hb LA E0 E1 E2 E3 p1 p2 p3
            clear p0
            have m0 := (unhide LB).a0
            have m1 := (unhide LB).a1
            have m2 := (unhide LB).a2
            have m3 := (unhide LB).a3
            have mf := (unhide LB).f1
            have LC := hide ((unhide LB).set1 (q := y.q) g1)
            have qq0 : ((((w1.setCell ⟨G, 0, none⟩ (.bool y.q.num.g)).setCell ⟨G, 1, none⟩ (.slice y.q.num.a y.q.num.n y.q.num.c)).setCell ⟨G, 2, none⟩ (.bool y.q.den.g)).setCell ⟨G, 3, none⟩ (.slice y.q.den.a y.q.den.n y.q.den.c)).cell? ⟨wr.heap.size, 0, none⟩ = some (.bool y.q.num.g) := cs_other (cs_other (cs_other (cs_other q0 (by omega)) (by omega)) (by omega)) (by omega)
            have qq1 : ((((w1.setCell ⟨G, 0, none⟩ (.bool y.q.num.g)).setCell ⟨G, 1, none⟩ (.slice y.q.num.a y.q.num.n y.q.num.c)).setCell ⟨G, 2, none⟩ (.bool y.q.den.g)).setCell ⟨G, 3, none⟩ (.slice y.q.den.a y.q.den.n y.q.den.c)).cell? ⟨wr.heap.size, 1, none⟩ = some (.slice y.q.num.a y.q.num.n y.q.num.c) := cs_other (cs_other (cs_other (cs_other q1 (by omega)) (by omega)) (by omega)) (by omega)
            have qq2 : ((((w1.setCell ⟨G, 0, none⟩ (.bool y.q.num.g)).setCell ⟨G, 1, none⟩ (.slice y.q.num.a y.q.num.n y.q.num.c)).setCell ⟨G, 2, none⟩ (.bool y.q.den.g)).setCell ⟨G, 3, none⟩ (.slice y.q.den.a y.q.den.n y.q.den.c)).cell? ⟨wr.heap.size, 2, none⟩ = some (.bool y.q.den.g) := cs_other (cs_other (cs_other (cs_other q2 (by omega)) (by omega)) (by omega)) (by omega)
            have qq3 : ((((w1.setCell ⟨G, 0, none⟩ (.bool y.q.num.g)).setCell ⟨G, 1, none⟩ (.slice y.q.num.a y.q.num.n y.q.num.c)).setCell ⟨G, 2, none⟩ (.bool y.q.den.g)).setCell ⟨G, 3, none⟩ (.slice y.q.den.a y.q.den.n y.q.den.c)).cell? ⟨wr.heap.size, 3, none⟩ = some (.slice y.q.den.a y.q.den.n y.q.den.c) := cs_other (cs_other (cs_other (cs_other q3 (by omega)) (by omega)) (by omega)) (by omega)
            have pp0 := (unhide LC).b0
            have pp1 := (unhide LC).b1
            have pp2 := (unhide LC).b2
            have pp3 := (unhide LC).b3
            go_wp2_with fail
            refine (cmpQS y.q hi.q _ _ _ _ _ ((unhide JY).is.later (unhide LC).bel) ((unhide JH).is.later (unhide LC).bel) (unhide JY).kn (unhide JY).kd (unhide JH).kn (unhide JH).kd).mono ?_
            rintro e w2 ⟨rfl, hb⟩
            have s0 := cell_later hb qq0
            have s1 := cell_later hb qq1
            have s2 := cell_later hb qq2
            have s3 := cell_later hb qq3
            have LD := hide ((unhide LC).later hb)
            clear hb LB pp0 pp1 pp2 pp3 q0 q1 q2 q3 LC qq0 qq1 qq2 qq3 m0 m1 m2 m3 mf
            go_wp2
            go_roundw
            case rel => exact ⟨i + 1, y, hi, by omega, by go_num, hide (by rw [(unhide SL).1, (unhide NL).1]), hide (by rw [(unhide SL).2, (unhide NL).2]), JY, JH, LD⟩
            case measure => simp [intOf]; omega
        · by_cases c2 : hi.N * y.D < y.N * hi.D
          · have t1 : decide (cmpZ (y.N * lo.D) (lo.N * y.D) < 0) = false := cmpZ_lt0 c1
            have t2 : decide (0 < cmpZ (y.N * hi.D) (hi.N * y.D)) = true := cmpZ_gt1 c2
            have NL : Hid (stLo lo y = lo ∧ stHi hi y = y) := hide ⟨by unfold stLo; rw [if_neg c1], by unfold stHi; rw [if_pos c2]⟩
            clear c1 c2
            have p0 := (unhide LA).a0
            have p1 := (unhide LA).a1
            have p2 := (unhide LA).a2
            have p3 := (unhide LA).a3
            go_wp2_with fail
            refine (cmpQS y.q lo.q _ _ _ _ _ ((unhide JY).is.later (unhide LA).bel) ((unhide JL).is.later (unhide LA).bel) (unhide JY).kn (unhide JY).kd (unhide JL).kn (unhide JL).kd).mono ?_
            rintro e w1 ⟨rfl, hb⟩
            have q0 : w1.cell? ⟨wr.heap.size, 0, none⟩ = some (.bool y.q.num.g) := cell_later hb (by simp [go_sem])
            have q1 : w1.cell? ⟨wr.heap.size, 1, none⟩ = some (.slice y.q.num.a y.q.num.n y.q.num.c) := cell_later hb (by simp [go_sem])
            have q2 : w1.cell? ⟨wr.heap.size, 2, none⟩ = some (.bool y.q.den.g) := cell_later hb (by simp [go_sem])
            have q3 : w1.cell? ⟨wr.heap.size, 3, none⟩ = some (.slice y.q.den.a y.q.den.n y.q.den.c) := cell_later hb (by simp [go_sem])
            have LB := hide ((unhide LA).later hb)
            clear hb LA E0 E1 E2 E3 p1 p2 p3
            clear p0
            have pp0 := (unhide LB).b0
            have pp1 := (unhide LB).b1
            have pp2 := (unhide LB).b2
            have pp3 := (unhide LB).b3
            go_wp2_with fail
            refine (cmpQS y.q hi.q _ _ _ _ _ ((unhide JY).is.later (unhide LB).bel) ((unhide JH).is.later (unhide LB).bel) (unhide JY).kn (unhide JY).kd (unhide JH).kn (unhide JH).kd).mono ?_
            rintro e w2 ⟨rfl, hb⟩
            have s0 := cell_later hb q0
            have s1 := cell_later hb q1
            have s2 := cell_later hb q2
            have s3 := cell_later hb q3
            have LD := hide ((unhide LB).later hb)
            clear hb LB pp0 pp1 pp2 pp3 q0 q1 q2 q3
            have m0 := (unhide LD).b0
            have m1 := (unhide LD).b1
            have m2 := (unhide LD).b2
            have m3 := (unhide LD).b3
            have mf := (unhide LD).f1
            have LE := hide ((unhide LD).set2 (q := y.q) g1)
            go_wp2
            go_roundw
            case rel => exact ⟨i + 1, lo, y, by omega, by go_num, hide (by rw [(unhide SL).1, (unhide NL).1]), hide (by rw [(unhide SL).2, (unhide NL).2]), JL, JY, LE⟩
            case measure => simp [intOf]; omega
          · have t1 : decide (cmpZ (y.N * lo.D) (lo.N * y.D) < 0) = false := cmpZ_lt0 c1
            have t2 : decide (0 < cmpZ (y.N * hi.D) (hi.N * y.D)) = false := cmpZ_gt0 c2
            have NL : Hid (stLo lo y = lo ∧ stHi hi y = hi) := hide ⟨by unfold stLo; rw [if_neg c1], by unfold stHi; rw [if_neg c2]⟩
            clear c1 c2
            have p0 := (unhide LA).a0
            have p1 := (unhide LA).a1
            have p2 := (unhide LA).a2
            have p3 := (unhide LA).a3
            go_wp2_with fail
            refine (cmpQS y.q lo.q _ _ _ _ _ ((unhide JY).is.later (unhide LA).bel) ((unhide JL).is.later (unhide LA).bel) (unhide JY).kn (unhide JY).kd (unhide JL).kn (unhide JL).kd).mono ?_
            rintro e w1 ⟨rfl, hb⟩
            have q0 : w1.cell? ⟨wr.heap.size, 0, none⟩ = some (.bool y.q.num.g) := cell_later hb (by simp [go_sem])
            have q1 : w1.cell? ⟨wr.heap.size, 1, none⟩ = some (.slice y.q.num.a y.q.num.n y.q.num.c) := cell_later hb (by simp [go_sem])
            have q2 : w1.cell? ⟨wr.heap.size, 2, none⟩ = some (.bool y.q.den.g) := cell_later hb (by simp [go_sem])
            have q3 : w1.cell? ⟨wr.heap.size, 3, none⟩ = some (.slice y.q.den.a y.q.den.n y.q.den.c) := cell_later hb (by simp [go_sem])
            have LB := hide ((unhide LA).later hb)
            clear hb LA E0 E1 E2 E3 p1 p2 p3
            clear p0
            have pp0 := (unhide LB).b0
            have pp1 := (unhide LB).b1
            have pp2 := (unhide LB).b2
            have pp3 := (unhide LB).b3
            go_wp2_with fail
            refine (cmpQS y.q hi.q _ _ _ _ _ ((unhide JY).is.later (unhide LB).bel) ((unhide JH).is.later (unhide LB).bel) (unhide JY).kn (unhide JY).kd (unhide JH).kn (unhide JH).kd).mono ?_
            rintro e w2 ⟨rfl, hb⟩
            have s0 := cell_later hb q0
            have s1 := cell_later hb q1
            have s2 := cell_later hb q2
            have s3 := cell_later hb q3
            have LD := hide ((unhide LB).later hb)
            clear hb LB pp0 pp1 pp2 pp3 q0 q1 q2 q3
            go_wp2
            go_roundw
            case rel => exact ⟨i + 1, lo, hi, by omega, by go_num, hide (by rw [(unhide SL).1, (unhide NL).1]), hide (by rw [(unhide SL).2, (unhide NL).2]), JL, JH, LD⟩
            case measure => simp [intOf]; omega
      · obtain rfl : i = n := by omega
        have E1 : Hid (lo = l.foldl stLo x ∧ hi = l.foldl stHi x) := hide ⟨by rw [unhide EL, ← unhide HN, List.take_length], by rw [unhide EH, ← unhide HN, List.take_length]⟩
        have k1_0 := (unhide LL).a0
        have k1_4 := (unhide LL).b0
        have k1_1 := (unhide LL).a1
        have k1_5 := (unhide LL).b1
        have k1_2 := (unhide LL).a2
        have k1_6 := (unhide LL).b2
        have k1_3 := (unhide LL).a3
        have k1_7 := (unhide LL).b3
        have k0_0 := (unhide LL).r0
        have k0_1 := (unhide LL).r1
        have k0_2 := (unhide LL).r2
        have k0_3 := (unhide LL).r3
        have k0_4 := (unhide LL).r4
        have k0_5 := (unhide LL).r5
        have k0_6 := (unhide LL).r6
        have k0_7 := (unhide LL).r7
        have z0 := (unhide LL).fr
        go_wp2
        refine bodyPost_ret (v := .agg #[.bool lo.q.num.g, .slice lo.q.num.a lo.q.num.n lo.q.num.c, .bool lo.q.den.g, .slice lo.q.den.a lo.q.den.n lo.q.den.c, .bool hi.q.num.g, .slice hi.q.num.a hi.q.num.n hi.q.num.c, .bool hi.q.den.g, .slice hi.q.den.a hi.q.den.n hi.q.den.c]) (by simp [results, Try.results93, go_sem, k0_0, k0_1, k0_2, k0_3, k0_4, k0_5, k0_6, k0_7]) rfl ?_
        have bt := metS_but (w5 := wr) (v := ⟨lo.q, hi.q⟩) (G := w.heap.size)
        have bw := bt.below (unhide LL).bel (Nat.le_refl _) (unhide LL).bel.size
        rw [← (unhide E1).1, ← (unhide E1).2]
        exact ⟨⟨lo.q, hi.q⟩, rfl, bw, (unhide JL).is.later bw, (unhide JH).is.later bw⟩
end Go.Proofs.Ytagnhgefdcckoaa
namespace Go.Proofs.Ytagnhgefdcckoaa
open Go.RowKit
set_option linter.unusedVariables false
set_option maxRecDepth 100000
set_option linter.unusedSimpArgs false

/-- The fold, without the values. -/
def pLo (s a : Int × Int) : Int × Int := if a.1 * s.2 < s.1 * a.2 then a else s
def pHi (s a : Int × Int) : Int × Int := if s.1 * a.2 < a.1 * s.2 then a else s
def RQ.p (x : RQ) : Int × Int := (x.N, x.D)
theorem fold_lo (l : List RQ) : ∀ x : RQ, (l.foldl stLo x).p = (l.map RQ.p).foldl pLo x.p := by
  induction l with
  | nil => intro x; rfl
  | cons a l ih =>
    intro x
    rw [List.foldl_cons, List.map_cons, List.foldl_cons, ih]
    congr 1
    unfold stLo pLo RQ.p
    simp only
    split <;> rfl
theorem fold_hi (l : List RQ) : ∀ x : RQ, (l.foldl stHi x).p = (l.map RQ.p).foldl pHi x.p := by
  induction l with
  | nil => intro x; rfl
  | cons a l ih =>
    intro x
    rw [List.foldl_cons, List.map_cons, List.foldl_cons, ih]
    congr 1
    unfold stHi pHi RQ.p
    simp only
    split <;> rfl
theorem pLo_self (x : Int × Int) : pLo x x = x := by unfold pLo; split <;> rfl
theorem pHi_self (x : Int × Int) : pHi x x = x := by unfold pHi; split <;> rfl
theorem RQ.Is.later {w w' : World} {x : RQ} (h : RQ.Is w x) (hb : Below w.heap.size w w') : RQ.Is w' x := ⟨h.is.later hb, h.kn, h.kd⟩
end Go.Proofs.Ytagnhgefdcckoaa
namespace Go.Proofs.Ytagnhgefdcckoaa
open Go.RowKit
set_option linter.unusedVariables false
set_option maxRecDepth 100000
set_option linter.unusedSimpArgs false

def AnsB (P : Bool) (V : Int) (d : BD) (ok : Bool) : Prop := (P = true ∧ ok = true ∧ d.g = decide (V < 0) ∧ Nm d.xs V.natAbs ∧ d.xs.length ≤ 40) ∨ (P = false ∧ ok = false ∧ d = ⟨false, []⟩)
theorem AnsB.same {P : Bool} {V : Int} {d d' : BD} {ok ok' : Bool} (h : AnsB P V d ok) (k : AnsB P V d' ok') : d = d' ∧ ok = ok' := by
  obtain ⟨g, xs⟩ := d
  obtain ⟨g', xs'⟩ := d'
  rcases h with ⟨p, o, a, b, _⟩ | ⟨p, o, e⟩ <;> rcases k with ⟨p', o', a', b', _⟩ | ⟨p', o', e'⟩
  · simp only at a b a' b'
    rw [a, a', b.same b']
    exact ⟨rfl, o.trans o'.symm⟩
  · rw [p] at p'; cases p'
  · rw [p] at p'; cases p'
  · exact ⟨e.trans e'.symm, o.trans o'.symm⟩
theorem AnsB.lens {P : Bool} {V : Int} {d : BD} {ok : Bool} (h : AnsB P V d ok) : d.xs.length ≤ 40 := by
  rcases h with ⟨_, _, _, _, h⟩ | ⟨_, _, rfl⟩
  · exact h
  · simp
end Go.Proofs.Ytagnhgefdcckoaa
namespace Go.Proofs.Ytagnhgefdcckoaa
open Go.RowKit
set_option linter.unusedVariables false
set_option maxRecDepth 100000
set_option linter.unusedSimpArgs false

end Go.Proofs.Ytagnhgefdcckoaa
namespace Go.Proofs.Ytagnhgefdcckoaa
open Go.RowKit
set_option linter.unusedVariables false
set_option maxRecDepth 100000
set_option linter.unusedSimpArgs false

end Go.Proofs.Ytagnhgefdcckoaa
namespace Go.Proofs.Ytagnhgefdcckoaa
open Go.RowKit
set_option linter.unusedVariables false
set_option maxRecDepth 100000
set_option linter.unusedSimpArgs false

/-- The whole root. -/
structure Rt (n r : Int) : Prop where
  nn : 0 ≤ r
  lo : r * r ≤ n
  hi : n < (r + 1) * (r + 1)
theorem sq_lt {a b : Int} (ha : 0 ≤ a) (h : a * a < b * b) (hb : 0 ≤ b) : a < b := by
  refine Int.not_le.1 fun hc => ?_
  have := Int.mul_le_mul hc hc hb ha
  omega
theorem Rt.same {n r s : Int} (h : Rt n r) (k : Rt n s) : r = s := by
  have h1 := sq_lt h.nn (show r * r < (s + 1) * (s + 1) by have := h.lo; have := k.hi; omega) (by have := k.nn; omega)
  have h2 := sq_lt k.nn (show s * s < (r + 1) * (r + 1) by have := k.lo; have := h.hi; omega) (by have := h.nn; omega)
  omega
/-- The box of the power so far. -/
structure Pw (w wr : World) (G : Nat) (x : BV) (V : Int) : Prop where
  c0 : wr.cell? ⟨G, 0, none⟩ = some (.bool x.g)
  c1 : wr.cell? ⟨G, 1, none⟩ = some (.slice x.a x.n x.c)
  f1 : ∀ o, wr.frozen? ⟨G, o, none⟩ = false
  r0 : wr.cell? ⟨w.heap.size, 0, none⟩ = some (.bool false)
  r1 : wr.cell? ⟨w.heap.size, 1, none⟩ = some (.slice none 0 0)
  fr : ∀ o, wr.frozen? ⟨w.heap.size, o, none⟩ = false
  ow : Ow (w.heap.size + 1) wr.heap.size wr x V
  bel : Below w.heap.size w wr
  gt : w.heap.size < G
theorem Pw.later {w wr wy : World} {G : Nat} {x : BV} {V : Int} (h : Pw w wr G x V) (hb : Below wr.heap.size wr wy) : Pw w wy G x V :=
  ⟨cell_later hb h.c0, cell_later hb h.c1, fun o => frozen_later hb (World.block_lt_of_cell? _ _ h.c0) (h.f1 o), cell_later hb h.r0, cell_later hb h.r1, fun o => frozen_later hb (World.block_lt_of_cell? _ _ h.r0) (h.fr o), (h.ow.later hb).wide (Nat.le_refl _) hb.size, below_on h.bel hb, h.gt⟩
/-- Limbs lie in no box whose first cell is a bool. -/
theorem Ow.bx {lo hi F : Nat} {w w' : World} {b : BV} {V : Int} {g : Bool} (h : Ow lo hi w b V) (hb : But F (F + 1) w w') (hc : w.cell? ⟨F, 0, none⟩ = some (.bool g)) : Ow lo hi w' b V := by
  obtain ⟨xs, k1, k2, k3⟩ := h
  have o : AllOwn lo hi w' [(b, ⟨decide (V < 0), xs⟩)] := ⟨fun p hp => by
    have hp := List.mem_singleton.1 hp
    subst hp
    have q := k1.own _ (List.mem_singleton.2 rfl)
    refine ⟨q.sg, ?_, q.len⟩
    rcases q.own with e | ⟨bb, cur, ea, h1, h2, hg, hx⟩
    · exact .inl e
    · by_cases hx0 : xs = []
      · exact .inl hx0
      refine .inr ⟨bb, cur, ea, h1, h2, (hb.block bb (Array.getElem?_eq_some_iff.1 hg).1 ?_).trans hg, hx⟩
      have hne : bb ≠ F := fun e => by
        subst e
        have h0 := hx 0 (by have := List.length_pos_iff.2 hx0; exact this)
        have h3 : w.cell? ⟨bb, 0, none⟩ = some (.int .i64 (xs.getD 0 0)) := by
          simp only [World.cell?, hg]
          simpa using h0
        rw [h3] at hc
        cases hc
      omega, List.pairwise_singleton _ _⟩
  exact ⟨xs, o, fun p hp => ⟨(k2 p hp).sg, ⟨(o.sl p hp).sl, (k2 p hp).ar.len, (k2 p hp).ar.cap, (k2 p hp).ar.top, (k2 p hp).ar.addr⟩⟩, k3⟩
theorem Pw.set {w wr : World} {G : Nat} {x y : BV} {V V' : Int} (h : Pw w wr G x V) (k : Ow (w.heap.size + 1) wr.heap.size wr y V') : Pw w ((wr.setCell ⟨G, 0, none⟩ (.bool y.g)).setCell ⟨G, 1, none⟩ (.slice y.a y.n y.c)) G y V' := by
  have hb := metB_but (w5 := wr) (v := y) (G := G)
  have hg := h.gt
  refine ⟨by simp [go_sem, h.c0, h.c1], by simp [go_sem, h.c0, h.c1], fun o => by simp [go_sem, h.f1 o], cs_other (cs_other h.r0 (by omega)) (by omega), cs_other (cs_other h.r1 (by omega)) (by omega), fun o => by simp [go_sem, h.fr o], (k.bx hb h.c0).wide (Nat.le_refl _) hb.size, hb.below h.bel (by omega) h.bel.size, h.gt⟩

end Go.Proofs.Ytagnhgefdcckoaa
namespace Go.Proofs.Ytagnhgefdcckoaa
open Go.RowKit
set_option linter.unusedVariables false
set_option maxRecDepth 100000
set_option linter.unusedSimpArgs false

/-- The cells of some values in a row. -/
def PAtQ (w : World) (a : Option Addr) (l : List (QV × QD)) : Prop := l = [] ∨ ∃ b off, a = some ⟨b, off, none⟩ ∧ b < w.heap.size ∧ ∀ i (h : i < l.length), w.cell? ⟨b, off + i * 4, none⟩ = some (.bool l[i].1.num.g) ∧ w.cell? ⟨b, off + i * 4 + 1, none⟩ = some (.slice l[i].1.num.a l[i].1.num.n l[i].1.num.c) ∧ w.cell? ⟨b, off + i * 4 + 2, none⟩ = some (.bool l[i].1.den.g) ∧ w.cell? ⟨b, off + i * 4 + 3, none⟩ = some (.slice l[i].1.den.a l[i].1.den.n l[i].1.den.c)
theorem PAtQ.later {w w' : World} {a : Option Addr} {l : List (QV × QD)} (h : PAtQ w a l) (hb : Below w.heap.size w w') : PAtQ w' a l := by
  rcases h with h | ⟨b, off, rfl, h1, h2⟩
  · exact .inl h
  · exact .inr ⟨b, off, rfl, Nat.lt_of_lt_of_le h1 hb.size, fun i hi => ⟨cell_later hb ((h2 i hi).1), cell_later hb ((h2 i hi).2.1), cell_later hb ((h2 i hi).2.2.1), cell_later hb ((h2 i hi).2.2.2)⟩⟩
structure PSlQ (w : World) (a : Option Addr) (l : List (QV × QD)) : Prop where
  at_ : PAtQ w a l
  rd : ∀ p ∈ l, AllSl w [(p.1.num, p.2.num), (p.1.den, p.2.den)]
theorem PSlQ.later {w w' : World} {a : Option Addr} {l : List (QV × QD)} (h : PSlQ w a l) (hb : Below w.heap.size w w') : PSlQ w' a l := ⟨h.at_.later hb, fun p hp => (h.rd p hp).later hb⟩
/-- .. as an argument. -/
structure PArQ (w : World) (a : Option Addr) (n c : Nat) (l : List (QV × QD)) : Prop where
  at_ : PAtQ w a l
  rd : ∀ p ∈ l, AllAr w [(p.1.num, p.2.num), (p.1.den, p.2.den)]
  len : l.length = n
  cap : n ≤ c
  top : c ≤ maxLen
theorem PArQ.later {w w' : World} {a : Option Addr} {n c : Nat} {l : List (QV × QD)} (h : PArQ w a n c l) (hb : Below w.heap.size w w') : PArQ w' a n c l := ⟨h.at_.later hb, fun p hp => (h.rd p hp).later hb, h.len, h.cap, h.top⟩
theorem PArQ.sl {w : World} {a : Option Addr} {n c : Nat} {l : List (QV × QD)} (h : PArQ w a n c l) : PSlQ w a l := ⟨h.at_, fun p hp => (h.rd p hp).sl⟩
def lenQ (p : QV × QD) : Nat := p.1.num.n + p.1.den.n
def lenPQ : List (QV × QD) → Nat
  | [] => 0
  | p :: l => lenQ p + lenPQ l
/-- The numbers in some values. -/
def zipPQ (l : List (QV × QD)) : List (BV × BD) := l.flatMap (fun p => [(p.1.num, p.2.num), (p.1.den, p.2.den)])
theorem zipPQ_mem {l : List (QV × QD)} {p : QV × QD} (h : p ∈ l) {x : BV × BD} (hx : x ∈ [(p.1.num, p.2.num), (p.1.den, p.2.den)]) : x ∈ zipPQ l := List.mem_flatMap.2 ⟨p, h, hx⟩
/-- Some values in a row that is the law's own, at block G; their numbers in blocks from lo to below hi. -/
structure POwQ (lo hi : Nat) (w : World) (G n c : Nat) (l : List (QV × QD)) : Prop where
  row : ∃ M, w.ownsRow G 50 4 (.slice (some ⟨G, 0, none⟩) n c) n M ∧ ∀ i (h : i < l.length), M[i * 4]? = some (.bool l[i].1.num.g) ∧ M[i * 4 + 1]? = some (.slice l[i].1.num.a l[i].1.num.n l[i].1.num.c) ∧ M[i * 4 + 2]? = some (.bool l[i].1.den.g) ∧ M[i * 4 + 3]? = some (.slice l[i].1.den.a l[i].1.den.n l[i].1.den.c)
  own : AllOwn lo hi w (zipPQ l)
  ar : ∀ p ∈ l, AllAr w [(p.1.num, p.2.num), (p.1.den, p.2.den)]
  len : l.length = n
theorem ownsRow_later {w w' : World} {G g n c size : Nat} {e : TypeId} {M : List Value} (h : w.ownsRow G e size (.slice (some ⟨g, 0, none⟩) n c) n M) (hb : Below w.heap.size w w') : w'.ownsRow G e size (.slice (some ⟨g, 0, none⟩) n c) n M := by
  refine ⟨h.1, ?_⟩
  rcases h.2 with ⟨h', _⟩ | ⟨g', cap, cur, hv, h1, hg, r⟩
  · simp at h'
  · refine .inr ⟨g', cap, cur, hv, h1, ?_, r⟩
    rw [hb.block g' (Array.getElem?_eq_some_iff.1 hg).1]
    exact hg
theorem POwQ.later {lo hi : Nat} {w w' : World} {G n c : Nat} {l : List (QV × QD)} (h : POwQ lo hi w G n c l) (hb : Below w.heap.size w w') : POwQ lo hi w' G n c l := by
  obtain ⟨M, hr, hM⟩ := h.row
  exact ⟨⟨M, ownsRow_later hr hb, hM⟩, h.own.later hb, fun p hp => (h.ar p hp).later hb, h.len⟩
theorem POwQ.arg {lo hi : Nat} {w : World} {G n c : Nat} {l : List (QV × QD)} (h : POwQ lo hi w G n c l) : PArQ w (some ⟨G, 0, none⟩) n c l := by
  obtain ⟨M, hr, hM⟩ := h.row
  have hl := h.len
  have h2 := hr.2
  rcases h2 with ⟨h', _⟩ | ⟨g', cap, cur, hv, h1, hg, r1, r2, r3⟩
  · simp at h'
  simp only [Value.slice.injEq, Option.some.injEq, Addr.mk.injEq, and_true, true_and] at hv
  obtain ⟨rfl, rfl⟩ := hv
  refine ⟨.inr ⟨G, 0, rfl, (Array.getElem?_eq_some_iff.1 hg).1, fun i hi => ?_⟩, h.ar, hl, r1, r2⟩
  have hc := hM i hi
  refine ⟨?_, ?_, ?_, ?_⟩ <;> rw [Nat.zero_add, hr.cellAt _ (by omega)]
  · exact hc.1
  · exact hc.2.1
  · exact hc.2.2.1
  · exact hc.2.2.2
theorem Try.info50 : (Try.prog.info? 50).map (fun i => (i.zero, i.size, i.bytes)) = some (some (.agg #[.bool false, .slice none 0 0, .bool false, .slice none 0 0]), 4, 64) := by kernel_rfl
end Go.Proofs.Ytagnhgefdcckoaa
namespace Go.Proofs.Ytagnhgefdcckoaa
open Go.RowKit
set_option linter.unusedVariables false
set_option maxRecDepth 100000
set_option linter.unusedSimpArgs false

/-- At most 6 limbs each. -/
def sm (d : QD) : Bool := decide (d.num.xs.length ≤ 6) && decide (d.den.xs.length ≤ 6)
def nz (d : QD) : Bool := decide (d.num.xs.length = 0)
def gC (d : QD) : Bool := sm d && gQ d
def lastOk (l : List QD) : Bool := match l.getLast? with | none => true | some d => !nz d
def gP (l : List QD) : Bool := (decide (l.length ≤ 7) && l.all gC) && lastOk l
end Go.Proofs.Ytagnhgefdcckoaa
namespace Go.Proofs.Ytagnhgefdcckoaa
open Go.RowKit
set_option linter.unusedVariables false
set_option maxRecDepth 100000
set_option linter.unusedSimpArgs false

/-- The mark that stands for a sign. -/
def sg (k : Int) : Bool := (k % 3 == 0)
/-- The cells of some fractions from block G's start on. -/
def RowQ (w : World) (G : Nat) (l : List (QV × QD)) : Prop := ∃ cur, w.heap[G]? = some (.cells cur 50 (0, 0)) ∧ ∀ j p, l[j]? = some p → cur[j * 4]? = some (.bool p.1.num.g) ∧ cur[j * 4 + 1]? = some (.slice p.1.num.a p.1.num.n p.1.num.c) ∧ cur[j * 4 + 2]? = some (.bool p.1.den.g) ∧ cur[j * 4 + 3]? = some (.slice p.1.den.a p.1.den.n p.1.den.c)
theorem mid_ne {α : Type} {pre post : List α} {y y' : α} {j : Nat} (h : j ≠ pre.length) : (pre ++ y :: post)[j]? = (pre ++ y' :: post)[j]? := by
  by_cases c : j < pre.length
  · rw [List.getElem?_append_left c, List.getElem?_append_left c]
  · rw [List.getElem?_append_right (by omega), List.getElem?_append_right (by omega)]
    obtain ⟨m, hm⟩ : ∃ m, j - pre.length = m + 1 := ⟨j - pre.length - 1, by omega⟩
    rw [hm, List.getElem?_cons_succ, List.getElem?_cons_succ]
theorem mid_eq {α : Type} {pre post : List α} {y : α} : (pre ++ y :: post)[pre.length]? = some y := by
  rw [List.getElem?_append_right (Nat.le_refl _), Nat.sub_self]; rfl
theorem RowQ.lt {w : World} {G : Nat} {l : List (QV × QD)} (h : RowQ w G l) : G < w.heap.size := by
  obtain ⟨cur, hg, _⟩ := h
  exact (Array.getElem?_eq_some_iff.1 hg).1
theorem RowQ.cellsAt {w : World} {G : Nat} {l : List (QV × QD)} (h : RowQ w G l) {i : Nat} {y : QV × QD} (hy : l[i]? = some y) : w.cell? ⟨G, i * 4, none⟩ = some (.bool y.1.num.g) ∧ w.cell? ⟨G, i * 4 + 1, none⟩ = some (.slice y.1.num.a y.1.num.n y.1.num.c) ∧ w.cell? ⟨G, i * 4 + 2, none⟩ = some (.bool y.1.den.g) ∧ w.cell? ⟨G, i * 4 + 3, none⟩ = some (.slice y.1.den.a y.1.den.n y.1.den.c) := by
  obtain ⟨cur, hg, hc⟩ := h
  have h1 := hc i y hy
  refine ⟨?_, ?_, ?_, ?_⟩ <;> rw [cell_of_row w G _ cur 50 (0, 0) hg]
  · exact h1.1
  · exact h1.2.1
  · exact h1.2.2.1
  · exact h1.2.2.2
theorem RowQ.frozen {w : World} {G : Nat} {l : List (QV × QD)} (h : RowQ w G l) (o : Nat) : w.frozen? ⟨G, o, none⟩ = false := by
  obtain ⟨cur, hg, hc⟩ := h
  exact frozen_of_row w G o cur 50 hg
theorem RowQ.but {w w' : World} {G lo hi : Nat} {l : List (QV × QD)} (h : RowQ w G l) (hb : But lo hi w w') (hG : G < lo ∨ hi ≤ G) : RowQ w' G l := by
  obtain ⟨cur, hg, hc⟩ := h
  exact ⟨cur, by rw [hb.block G (Array.getElem?_eq_some_iff.1 hg).1 hG]; exact hg, hc⟩
theorem RowQ.later {w w' : World} {G : Nat} {l : List (QV × QD)} (h : RowQ w G l) (hb : Below w.heap.size w w') : RowQ w' G l := by
  obtain ⟨cur, hg, hc⟩ := h
  exact ⟨cur, by rw [hb.block G (Array.getElem?_eq_some_iff.1 hg).1]; exact hg, hc⟩
theorem RowQ.g0 {w : World} {G i : Nat} {pre post : List (QV × QD)} {y : QV × QD} (g : Bool) (h : RowQ w G (pre ++ y :: post)) (hi : pre.length = i) : RowQ (w.setCell ⟨G, i * 4, none⟩ (.bool g)) G (pre ++ ((⟨⟨g, y.1.num.a, y.1.num.n, y.1.num.c⟩, y.1.den⟩ : QV), (⟨⟨g, y.2.num.xs⟩, y.2.den⟩ : QD)) :: post) := by
  obtain ⟨cur, hg, hc⟩ := h
  subst hi
  refine ⟨cur.setIfInBounds (pre.length * 4) (.bool g), heap_setCell_same w G (pre.length * 4) cur 50 (.bool g) hg, fun j p hp => ?_⟩
  by_cases e : j = pre.length
  · subst e
    rw [mid_eq] at hp
    obtain rfl := Option.some.inj hp
    have h1 := hc pre.length y mid_eq
    have hs : pre.length * 4 < cur.size := (Array.getElem?_eq_some_iff.1 (h1.1)).1
    refine ⟨?_, ?_, ?_, ?_⟩
    · simp [hs]
    · rw [Array.getElem?_setIfInBounds_ne (by omega)]; exact h1.2.1
    · rw [Array.getElem?_setIfInBounds_ne (by omega)]; exact h1.2.2.1
    · rw [Array.getElem?_setIfInBounds_ne (by omega)]; exact h1.2.2.2
  · rw [mid_ne e (y' := y)] at hp
    have h1 := hc j p hp
    refine ⟨?_, ?_, ?_, ?_⟩
    · rw [Array.getElem?_setIfInBounds_ne (by omega)]; exact h1.1
    · rw [Array.getElem?_setIfInBounds_ne (by omega)]; exact h1.2.1
    · rw [Array.getElem?_setIfInBounds_ne (by omega)]; exact h1.2.2.1
    · rw [Array.getElem?_setIfInBounds_ne (by omega)]; exact h1.2.2.2
theorem RowQ.g2 {w : World} {G i : Nat} {pre post : List (QV × QD)} {y : QV × QD} (g : Bool) (h : RowQ w G (pre ++ y :: post)) (hi : pre.length = i) : RowQ (w.setCell ⟨G, i * 4 + 2, none⟩ (.bool g)) G (pre ++ ((⟨y.1.num, ⟨g, y.1.den.a, y.1.den.n, y.1.den.c⟩⟩ : QV), (⟨y.2.num, ⟨g, y.2.den.xs⟩⟩ : QD)) :: post) := by
  obtain ⟨cur, hg, hc⟩ := h
  subst hi
  refine ⟨cur.setIfInBounds (pre.length * 4 + 2) (.bool g), heap_setCell_same w G (pre.length * 4 + 2) cur 50 (.bool g) hg, fun j p hp => ?_⟩
  by_cases e : j = pre.length
  · subst e
    rw [mid_eq] at hp
    obtain rfl := Option.some.inj hp
    have h1 := hc pre.length y mid_eq
    have hs : pre.length * 4 + 2 < cur.size := (Array.getElem?_eq_some_iff.1 (h1.2.2.1)).1
    refine ⟨?_, ?_, ?_, ?_⟩
    · rw [Array.getElem?_setIfInBounds_ne (by omega)]; exact h1.1
    · rw [Array.getElem?_setIfInBounds_ne (by omega)]; exact h1.2.1
    · simp [hs]
    · rw [Array.getElem?_setIfInBounds_ne (by omega)]; exact h1.2.2.2
  · rw [mid_ne e (y' := y)] at hp
    have h1 := hc j p hp
    refine ⟨?_, ?_, ?_, ?_⟩
    · rw [Array.getElem?_setIfInBounds_ne (by omega)]; exact h1.1
    · rw [Array.getElem?_setIfInBounds_ne (by omega)]; exact h1.2.1
    · rw [Array.getElem?_setIfInBounds_ne (by omega)]; exact h1.2.2.1
    · rw [Array.getElem?_setIfInBounds_ne (by omega)]; exact h1.2.2.2
theorem RowQ.data {w : World} {G : Nat} {pre post : List (QV × QD)} {v : QV} {d d' : QD} (h : RowQ w G (pre ++ (v, d) :: post)) : RowQ w G (pre ++ (v, d') :: post) := by
  obtain ⟨cur, hg, hc⟩ := h
  refine ⟨cur, hg, fun j p hp => ?_⟩
  by_cases e : j = pre.length
  · subst e
    rw [mid_eq] at hp
    obtain rfl := Option.some.inj hp
    exact hc pre.length (v, d) mid_eq
  · rw [mid_ne e (y' := (v, d))] at hp
    exact hc j p hp
theorem But.wide {lo hi lo' hi' : Nat} {w w' : World} (h : But lo hi w w') (h1 : lo' ≤ lo) (h2 : hi ≤ hi') : But lo' hi' w w' := ⟨h.os, h.tape, h.output, h.size, fun k hk hd => h.block k hk (by omega)⟩
/-- A slice of fractions that is the call's own: its row and its numbers in blocks from B to below E. -/
structure PRo (B E : Nat) (w : World) (a : Option Addr) (n c : Nat) (l : List (QV × QD)) : Prop where
  len : l.length = n
  sz : 2 * n + lenPQ l ≤ 3200000
  ml : ∀ p ∈ l, p.1.num.n ≤ 1048576 ∧ p.1.den.n ≤ 1048576
  row : n = 0 ∨ ∃ G lo hi, a = some ⟨G, 0, none⟩ ∧ B ≤ G ∧ G < lo ∧ lo ≤ hi ∧ hi ≤ E ∧ RowQ w G l ∧ AllOwn lo hi w (zipPQ l)
theorem PRo.later {B E : Nat} {w w' : World} {a : Option Addr} {n c : Nat} {l : List (QV × QD)} (h : PRo B E w a n c l) (hb : Below w.heap.size w w') : PRo B E w' a n c l := by
  refine ⟨h.len, h.sz, h.ml, ?_⟩
  rcases h.row with e | ⟨G, lo, hi, e, h1, h2, h3, h4, h5, h6⟩
  · exact .inl e
  · exact .inr ⟨G, lo, hi, e, h1, h2, h3, h4, h5.later hb, h6.later hb⟩
theorem PRo.but {B E lo' hi' : Nat} {w w' : World} {a : Option Addr} {n c : Nat} {l : List (QV × QD)} (h : PRo B E w a n c l) (hb : But lo' hi' w w') (hd : E ≤ lo' ∨ hi' ≤ B) : PRo B E w' a n c l := by
  refine ⟨h.len, h.sz, h.ml, ?_⟩
  rcases h.row with e | ⟨G, lo, hi, e, h1, h2, h3, h4, h5, h6⟩
  · exact .inl e
  · exact .inr ⟨G, lo, hi, e, h1, h2, h3, h4, h5.but hb (by omega), h6.but hb (by omega)⟩
theorem PRo.wide {B E B' E' : Nat} {w : World} {a : Option Addr} {n c : Nat} {l : List (QV × QD)} (h : PRo B E w a n c l) (h1 : B' ≤ B) (h2 : E ≤ E') : PRo B' E' w a n c l := by
  refine ⟨h.len, h.sz, h.ml, ?_⟩
  rcases h.row with e | ⟨G, lo, hi, e, k1, k2, k3, k4, k5, k6⟩
  · exact .inl e
  · exact .inr ⟨G, lo, hi, e, by omega, k2, k3, by omega, k5, k6⟩
theorem PRo.sl {B E : Nat} {w : World} {a : Option Addr} {n c : Nat} {l : List (QV × QD)} (h : PRo B E w a n c l) : PSlQ w a l := by
  rcases h.row with e | ⟨G, lo, hi, e, h1, h2, h3, h4, h5, h6⟩
  · have hl : l = [] := List.length_eq_zero_iff.1 (by rw [h.len]; exact e)
    subst hl
    exact ⟨.inl rfl, fun p hp => by cases hp⟩
  · subst e
    refine ⟨.inr ⟨G, 0, rfl, h5.lt, fun i hi => ?_⟩, fun p hp x hx => h6.sl x (zipPQ_mem hp hx)⟩
    have hc := h5.cellsAt (List.getElem?_eq_getElem hi)
    simpa using hc
theorem PRo.lens {B E : Nat} {w : World} {a : Option Addr} {n c : Nat} {l : List (QV × QD)} (h : PRo B E w a n c l) : ∀ p ∈ l, p.1.num.n ≤ maxLen ∧ p.1.den.n ≤ maxLen := fun p hp => by
  have := h.ml p hp
  unfold maxLen
  omega
theorem POwQ.ro {lo hi : Nat} {w : World} {G n c : Nat} {l : List (QV × QD)} (h : POwQ lo hi w G n c l) (hG : G < lo) (hl : lo ≤ hi) (sz : 2 * n + lenPQ l ≤ 3200000) (ml : ∀ p ∈ l, p.1.num.n ≤ 1048576 ∧ p.1.den.n ≤ 1048576) : PRo G hi w (some ⟨G, 0, none⟩) n c l := by
  refine ⟨h.len, sz, ml, .inr ⟨G, lo, hi, rfl, Nat.le_refl _, hG, hl, Nat.le_refl _, ?_, h.own⟩⟩
  obtain ⟨M, hr, hM⟩ := h.row
  rcases hr.2 with ⟨h', _⟩ | ⟨g', cap, cur, hv, _, hg, _, _, _, htake⟩
  · simp at h'
  simp only [Value.slice.injEq, Option.some.injEq, Addr.mk.injEq, and_true, true_and] at hv
  obtain ⟨rfl, rfl⟩ := hv
  refine ⟨cur, hg, fun j p hp => ?_⟩
  have hj : j < l.length := (List.getElem?_eq_some_iff.1 hp).1
  have hc := hM j hj
  have e : l[j] = p := by rw [List.getElem?_eq_getElem hj] at hp; exact Option.some.inj hp
  rw [e] at hc
  have hlen := h.len
  have up : ∀ t v, t < n * 4 → M[t]? = some v → cur[t]? = some v := fun t v ht hv => by
    rw [← htake, List.getElem?_take, if_pos ht] at hv
    simpa using hv
  exact ⟨up _ _ (by omega) hc.1, up _ _ (by omega) hc.2.1, up _ _ (by omega) hc.2.2.1, up _ _ (by omega) hc.2.2.2⟩
theorem PSlQ.data {w : World} {a : Option Addr} {l : List (QV × QD)} (h : PSlQ w a l) : ∀ p ∈ l, p.2.num.xs.length = p.1.num.n ∧ p.2.den.xs.length = p.1.den.n := fun p hp => ⟨(h.rd p hp).head.len, (h.rd p hp).tail.head.len⟩
end Go.Proofs.Ytagnhgefdcckoaa
namespace Go.Proofs.Ytagnhgefdcckoaa
open Go.RowKit
set_option linter.unusedVariables false
set_option maxRecDepth 100000
set_option linter.unusedSimpArgs false

/-- What is read is this fraction. -/
structure IsD (c : Int × Int) (d : QD) : Prop where
  g1 : d.num.g = decide (c.1 < 0)
  n1 : Nm d.num.xs c.1.natAbs
  g2 : d.den.g = decide (c.2 < 0)
  n2 : Nm d.den.xs c.2.natAbs
theorem IsD.same {c : Int × Int} {d d' : QD} (h : IsD c d) (k : IsD c d') : d = d' := by
  obtain ⟨⟨g, xs⟩, ⟨g', us⟩⟩ := d
  obtain ⟨⟨q, ys⟩, ⟨q', vs⟩⟩ := d'
  have e1 : g = q := h.g1.trans k.g1.symm
  have e2 : xs = ys := h.n1.same k.n1
  have e3 : g' = q' := h.g2.trans k.g2.symm
  have e4 : us = vs := h.n2.same k.n2
  rw [e1, e2, e3, e4]
/-- .. these fractions. -/
def IsL : List (Int × Int) → List QD → Prop
  | [], [] => True
  | c :: cs, d :: ds => IsD c d ∧ IsL cs ds
  | _, _ => False
theorem IsL.same : ∀ {cs : List (Int × Int)} {ds es : List QD}, IsL cs ds → IsL cs es → ds = es
  | [], [], [], _, _ => rfl
  | c :: cs, d :: ds, e :: es, h, k => by rw [h.1.same k.1, IsL.same h.2 k.2]
  | [], _ :: _, _, h, _ => h.elim
  | [], [], _ :: _, _, k => k.elim
  | _ :: _, [], _, h, _ => h.elim
  | _ :: _, _ :: _, [], _, k => k.elim
theorem IsL.len : ∀ {cs : List (Int × Int)} {ds : List QD}, IsL cs ds → cs.length = ds.length
  | [], [], _ => rfl
  | _ :: _, _ :: _, h => by simp [IsL.len h.2]
  | [], _ :: _, h => h.elim
  | _ :: _, [], h => h.elim
theorem IsL.append : ∀ {cs cs' : List (Int × Int)} {ds ds' : List QD}, IsL cs ds → IsL cs' ds' → IsL (cs ++ cs') (ds ++ ds')
  | [], _, [], _, _, k => k
  | _ :: _, _, _ :: _, _, h, k => ⟨h.1, IsL.append h.2 k⟩
  | [], _, _ :: _, _, h, _ => h.elim
  | _ :: _, _, [], _, h, _ => h.elim
def AnsP (P : Bool) (cs : List (Int × Int)) (ds : List QD) (ok : Bool) : Prop := (P = true ∧ ∃ es, IsL cs es ∧ ((gP es = true ∧ ok = true ∧ ds = es) ∨ (gP es = false ∧ ok = false ∧ ds = []))) ∨ (P = false ∧ ok = false ∧ ds = [])
theorem AnsP.same {P : Bool} {cs : List (Int × Int)} {d d' : List QD} {ok ok' : Bool} (h : AnsP P cs d ok) (k : AnsP P cs d' ok') : d = d' ∧ ok = ok' := by
  rcases h with ⟨p, es, h1, h2⟩ | ⟨p, h1, h2⟩ <;> rcases k with ⟨p', es', k1, k2⟩ | ⟨p', k1, k2⟩
  · obtain rfl := h1.same k1
    rcases h2 with ⟨a, b, c⟩ | ⟨a, b, c⟩ <;> rcases k2 with ⟨a', b', c'⟩ | ⟨a', b', c'⟩
    · exact ⟨c.trans c'.symm, b.trans b'.symm⟩
    · rw [a] at a'; cases a'
    · rw [a] at a'; cases a'
    · exact ⟨c.trans c'.symm, b.trans b'.symm⟩
  · rw [p] at p'; cases p'
  · rw [p] at p'; cases p'
  · exact ⟨h2.trans k2.symm, h1.trans k1.symm⟩
theorem PRo.none (B E : Nat) (w : World) : PRo B E w none 0 0 [] := ⟨rfl, by simp [lenPQ], fun p hp => (by cases hp), .inl rfl⟩
end Go.Proofs.Ytagnhgefdcckoaa
namespace Go.Proofs.Ytagnhgefdcckoaa
open Go.RowKit
set_option linter.unusedVariables false
set_option maxRecDepth 100000
set_option linter.unusedSimpArgs false

/-- Where noughts at the end are cut off. -/
structure CutAt (ds : List QD) (m : Nat) : Prop where
  le : m ≤ ds.length
  out : ∀ j (h : j < ds.length), m ≤ j → nz ds[j] = true
  top : ∀ h : 0 < m, nz (ds[m - 1]'(by omega)) = false
theorem CutAt.same {ds : List QD} {m m' : Nat} (h : CutAt ds m) (k : CutAt ds m') : m = m' := by
  have h1 := h.le
  have k1 := k.le
  rcases Nat.lt_trichotomy m m' with c | c | c
  · have e1 := k.top (by omega)
    have e2 := h.out (m' - 1) (by omega) (by omega)
    rw [e1] at e2; cases e2
  · exact c
  · have e1 := h.top (by omega)
    have e2 := k.out (m - 1) (by omega) (by omega)
    rw [e1] at e2; cases e2

/-- Numbers whose limbs lie in blocks of integers. -/
def Typ (w : World) (l : List (BV × BD)) : Prop := ∀ p ∈ l, ∃ lo hi, Own2 lo hi w p.1.a p.2.xs
theorem Typ.later {w w' : World} {l : List (BV × BD)} (h : Typ w l) (hb : Below w.heap.size w w') : Typ w' l := fun p hp => by
  obtain ⟨lo, hi, ho⟩ := h p hp
  exact ⟨lo, hi, ho.later hb⟩
theorem Typ.append {w : World} {l m : List (BV × BD)} (h : Typ w l) (k : Typ w m) : Typ w (l ++ m) := fun p hp => by
  rcases List.mem_append.1 hp with hp | hp
  · exact h p hp
  · exact k p hp
/-- They stay where a row of fractions grows. -/
theorem Typ.grown {w w' : World} {l : List (BV × BD)} {v : Value} {n B : Nat} {M : List Value} (h : Typ w l) (hg : w.grownBy w' v.ownBlock) (hr : w.ownsRow B 50 4 v n M) : Typ w' l := fun p hp => by
  obtain ⟨lo, hi, ho⟩ := h p hp
  refine ⟨lo, hi, ?_⟩
  rcases ho with e | ⟨b, cur, e, h1, h2, hb, hc⟩
  · exact .inl e
  · refine .inr ⟨b, cur, e, h1, h2, ?_, hc⟩
    rw [hg.block b (Array.getElem?_eq_some_iff.1 hb).1 (fun eb => ?_)]
    · exact hb
    · rcases hr.2 with ⟨h', _⟩ | ⟨g', cap, cur', hv, _, hgt, _⟩
      · rw [h'] at eb; simp [Value.ownBlock] at eb
      · rw [hv] at eb
        simp only [Value.ownBlock, Option.some.injEq] at eb
        subst eb
        rw [hb] at hgt
        simp only [Option.some.injEq, Obj.cells.injEq] at hgt
        exact absurd hgt.2.1 (by decide)
theorem Typ.ar {w w' : World} {l : List (BV × BD)} (ho : Typ w' l) (ha : AllAr w l) : AllAr w' l := fun p hp => by
  obtain ⟨lo, hi, h⟩ := ho p hp
  exact ⟨(ha p hp).sg, ⟨h.sl, (ha p hp).ar.len, (ha p hp).ar.cap, (ha p hp).ar.top, (ha p hp).ar.addr⟩⟩
theorem owns_later {w w' : World} {B n : Nat} {v : Value} {M : List Value} (h : w.ownsRow B 50 4 v n M) (hb : Below w.heap.size w w') : w'.ownsRow B 50 4 v n M := by
  refine ⟨h.1, ?_⟩
  rcases h.2 with h' | ⟨g', cap, cur, hv, h1, hg, r⟩
  · exact .inl h'
  · refine .inr ⟨g', cap, cur, hv, h1, ?_, r⟩
    rw [hb.block g' (Array.getElem?_eq_some_iff.1 hg).1]
    exact hg
theorem owns_base {w : World} {B n : Nat} {v : Value} {M : List Value} (h : w.ownsRow B 50 4 v n M) : ∀ k, v.ownBlock = some k → B ≤ k := fun k e => by
  rcases h.2 with ⟨h', _⟩ | ⟨g', cap, cur, hv, h1, _⟩
  · rw [h'] at e; simp [Value.ownBlock] at e
  · rw [hv] at e
    simp only [Value.ownBlock, Option.some.injEq] at e
    omega
theorem AllSl.append {w : World} {l m : List (BV × BD)} (h : AllSl w l) (k : AllSl w m) : AllSl w (l ++ m) := fun p hp => by
  rcases List.mem_append.1 hp with hp | hp
  · exact h p hp
  · exact k p hp
end Go.Proofs.Ytagnhgefdcckoaa
