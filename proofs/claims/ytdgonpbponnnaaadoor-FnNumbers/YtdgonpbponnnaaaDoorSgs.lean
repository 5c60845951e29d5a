/- Differences of numbers with signs: the program's subSigned, the specification's l1Neg and l1Sub. No condition beyond those typed. -/
import Derived.Test.YtdgonpbponnnaaaDoorSgn
namespace Go.Proofs.YtdgonpbponnnaaaDoor
open Go.RowKit
set_option linter.unusedVariables false
set_option maxRecDepth 100000
set_option linter.unusedSimpArgs false

theorem sv_not (g : Bool) (xs : List Int) : sv (!g) xs = - sv g xs := by cases g <;> simp [sv]

set_option maxHeartbeats 2000000 in
theorem subSgI_any (g g' : Bool) (a a' : Option Addr) (n m c c' : Nat) (xs ys : List Int) (w : World) (hx : Num w a n c xs) (hy : Num w a' m c' ys) :
    Calls Tryd.prog 31 #[.agg #[.bool g, .slice a n c], .agg #[.bool g', .slice a' m c']] w (OutB w (sv g xs - sv g' ys)) := by
  have HX := hide hx
  have HY := hide hy
  clear hx hy
  go_enter Tryd.func31, Tryd.ntmps31
  go_wp2_with fail
  refine (addSgI_any g (!g') a a' n m c c' xs ys _ ((unhide HX).later (below_three _ _ _ _)) ((unhide HY).later (below_three _ _ _ _))).mono ?_
  rintro e w1 ⟨a1, n1, c1, zs, rfl, hb1, ho1, ha1, hn1⟩
  have r0 : w1.cell? ⟨w.heap.size + 1 + 1, 0, none⟩ = some (.bool false) := cell_later hb1 (by simp [go_sem])
  have r1 : w1.cell? ⟨w.heap.size + 1 + 1, 1, none⟩ = some (.slice none 0 0) := cell_later hb1 (by simp [go_sem])
  have f0 : ∀ o, w1.frozen? ⟨w.heap.size + 1 + 1, o, none⟩ = false := fun o => frozen_later hb1 (by simp) (by simp [go_sem])
  have HB := hide ((below_three _ _ _ _).trans (hb1.mono (by simp <;> omega)))
  have HO := hide (ho1.mono (base' := w.heap.size + 1 + 1 + 1) (by simp))
  have HA := hide ha1
  have e1 : sv g xs + sv (!g') ys = sv g xs - sv g' ys := by rw [sv_not]; omega
  rw [e1] at hn1
  have HN := hide hn1
  rw [e1]
  clear hb1 ho1 ha1 hn1 e1
  go_wp2
  refine bodyPost_ret (v := .agg #[.bool (decide (sv g xs - sv g' ys < 0)), .slice a1 n1 c1]) (by simp [results, Tryd.results31, go_sem, r0, r1]) rfl ?_
  obtain ⟨q1, q2, q3⟩ := fin_set (s := w.heap.size + 1 + 1) (by omega) (unhide HB) (unhide HO) (unhide HA) (.bool (decide (sv g xs - sv g' ys < 0))) (.slice a1 n1 c1)
  exact ⟨a1, n1, c1, zs, rfl, q1, q2, q3, unhide HN⟩

set_option maxHeartbeats 2000000 in
theorem negS_any (g' : Bool) (a' : Option Addr) (m c' : Nat) (ys : List Int) (w : World) (hy : Num w a' m c' ys) :
    Calls Tryd.prog 56 #[.agg #[.bool g', .slice a' m c']] w fun e w' => ∃ g1 a1 n1 c1, e = .returned (.agg #[.bool g1, .slice a1 n1 c1]) ∧ Below w.heap.size w w' ∧ Num w' a1 n1 c1 ys ∧ sv g1 ys = - sv g' ys := by
  have HY := hide hy
  clear hy
  go_enter Tryd.func56, Tryd.ntmps56
  go_wp2_with fail
  have B2 := hide (below_two w (.cells #[.bool g', .slice a' m c'] 25) (.cells #[.bool false, .slice none 0 0] 25))
  refine (make_any (!g') a' m c' ys _ ((unhide HY).arg.later (unhide B2)) (Nat.le_trans (unhide HY).sh (by omega))).mono ?_
  rintro e w1 ⟨a1, n1, c1, rfl, hb1, ho1, ha1⟩
  rw [(unhide HY).tr] at ho1 ha1 ⊢
  have r0 : w1.cell? ⟨w.heap.size + 1, 0, none⟩ = some (.bool false) := cell_later hb1 (by simp [go_sem])
  have r1 : w1.cell? ⟨w.heap.size + 1, 1, none⟩ = some (.slice none 0 0) := cell_later hb1 (by simp [go_sem])
  have f0 : ∀ o, w1.frozen? ⟨w.heap.size + 1, o, none⟩ = false := fun o => frozen_later hb1 (by simp) (by simp [go_sem])
  have HB := hide ((unhide B2).trans (hb1.mono (by simp <;> omega)))
  have HO := hide (ho1.mono (base' := w.heap.size + 1 + 1) (by simp))
  have HA := hide ha1
  have HS : Hid (sv (sgn (!g') ys) ys = - sv g' ys) := by
    rw [← sv_not]
    by_cases hnil : ys = []
    · subst hnil; exact hide (by cases g' <;> rfl)
    · exact hide (by rw [sgn_cons (List.length_pos_iff.2 hnil)])
  clear hb1 ho1 ha1
  generalize sgn (!g') ys = g1 at *
  go_wp2
  refine bodyPost_ret (v := .agg #[.bool g1, .slice a1 n1 c1]) (by simp [results, Tryd.results56, go_sem, r0, r1]) rfl ?_
  obtain ⟨q1, q2, q3⟩ := fin_set (s := w.heap.size + 1) (by omega) (unhide HB) (unhide HO) (unhide HA) (.bool g1) (.slice a1 n1 c1)
  exact ⟨g1, a1, n1, c1, rfl, q1, ⟨q3, (unhide HY).ok, (unhide HY).tr, by rw [← q3.len, (unhide HY).arg.len]; exact (unhide HY).sh⟩, unhide HS⟩

set_option maxHeartbeats 4000000 in
theorem subSgS_any (g g' : Bool) (a a' : Option Addr) (n m c c' : Nat) (xs ys : List Int) (w : World) (hx : Num w a n c xs) (hy : Num w a' m c' ys) :
    Calls Tryd.prog 32 #[.agg #[.bool g, .slice a n c], .agg #[.bool g', .slice a' m c']] w (OutB w (sv g xs - sv g' ys)) := by
  have HX := hide hx
  have HY := hide hy
  clear hx hy
  have B3 := hide (below_three w (.cells #[.bool g, .slice a n c] 25) (.cells #[.bool g', .slice a' m c'] 25) (.cells #[.bool false, .slice none 0 0] 25))
  go_enter Tryd.func32, Tryd.ntmps32
  go_upto_region 1 with fail
  go_region_held3 (fun w' => w'.cell? ⟨w.heap.size, 0, none⟩ = some (.bool g) ∧ w'.cell? ⟨w.heap.size, 1, none⟩ = some (.slice a n c) ∧ w'.cell? ⟨w.heap.size + 1, 0, none⟩ = some (.bool g') ∧ w'.cell? ⟨w.heap.size + 1, 1, none⟩ = some (.slice a' m c')) (first | assumption | (simp [go_sem, *]; done))
    (first
    | (go_at_call 56; refine (negS_any g' a' m c' ys _ ?_).mono ?_; exact ((unhide HY).later (unhide B3)).later (Below.refl _ _).drew; rintro e w1 ⟨g1, a1, n1, c1, rfl, hb1, hnum1, hsv1⟩; have K1 : w1.cell? ⟨w.heap.size, 0, none⟩ = some (.bool g) ∧ w1.cell? ⟨w.heap.size, 1, none⟩ = some (.slice a n c) ∧ w1.cell? ⟨w.heap.size + 1, 0, none⟩ = some (.bool g') ∧ w1.cell? ⟨w.heap.size + 1, 1, none⟩ = some (.slice a' m c') := ⟨cell_later hb1 (by simp [go_sem]), cell_later hb1 (by simp [go_sem]), cell_later hb1 (by simp [go_sem]), cell_later hb1 (by simp [go_sem])⟩; have HSV := hide hsv1; clear hsv1)
    | (go_at_call 30; refine (addSgS_any g g1 a a1 n n1 c c1 xs ys _ ?_ ?_).mono ?_; exact ((unhide HX).later (unhide B3)).later ((Below.refl _ _).drew.trans hb1); exact hnum1; rintro e w2 ⟨a2, n2, c2, zs, rfl, hb2, ho2, ha2, hn2⟩; have K2 : w2.cell? ⟨w.heap.size, 0, none⟩ = some (.bool g) ∧ w2.cell? ⟨w.heap.size, 1, none⟩ = some (.slice a n c) ∧ w2.cell? ⟨w.heap.size + 1, 0, none⟩ = some (.bool g') ∧ w2.cell? ⟨w.heap.size + 1, 1, none⟩ = some (.slice a' m c') := ⟨cell_later hb2 K1.1, cell_later hb2 K1.2.1, cell_later hb2 K1.2.2.1, cell_later hb2 K1.2.2.2⟩; have r0 : w2.cell? ⟨w.heap.size + 1 + 1, 0, none⟩ = some (.bool false) := cell_later hb2 (cell_later hb1 (by simp [go_sem])); have r1 : w2.cell? ⟨w.heap.size + 1 + 1, 1, none⟩ = some (.slice none 0 0) := cell_later hb2 (cell_later hb1 (by simp [go_sem])); have f0 : ∀ o, w2.frozen? ⟨w.heap.size + 1 + 1, o, none⟩ = false := fun o => frozen_later hb2 (Nat.lt_of_lt_of_le (Nat.lt_of_lt_of_le (by omega) (three_size w _ _ _)) hb1.size) (frozen_later hb1 (Nat.lt_of_lt_of_le (by omega) (three_size w _ _ _)) (by simp [go_sem])); have B5 := hide (((unhide B3).drew.trans (hb1.mono (Nat.le_trans (by omega) (three_size w _ _ _)))).trans (hb2.mono (Nat.le_trans (Nat.le_trans (by omega) (three_size w _ _ _)) hb1.size))); have HO2 := hide (ho2.mono (base' := w.heap.size + 1 + 1 + 1) (Nat.le_trans (three_size w _ _ _) hb1.size)); have HA2 := hide ha2; have HN2 := hide hn2; clear ho2 ha2 hn2))
  go_wp2
  have e1 : sv g xs + sv g1 ys = sv g xs - sv g' ys := by rw [unhide HSV]; omega
  refine bodyPost_ret (v := .agg #[.bool (decide (sv g xs + sv g1 ys < 0)), .slice a2 n2 c2]) (by simp [results, Tryd.results32, go_sem, r0, r1]) rfl ?_
  obtain ⟨q1, q2, q3⟩ := fin_set (s := w.heap.size + 1 + 1) (by omega) (unhide B5) (unhide HO2) (unhide HA2) (.bool (decide (sv g xs + sv g1 ys < 0))) (.slice a2 n2 c2)
  refine ⟨a2, n2, c2, zs, by rw [e1], q1, q2, q3, ?_⟩
  rw [← e1]
  exact unhide HN2

/-- What an exported function over two numbers answers: V, where both are good and it fits. -/
def OutA (w : World) (P : Bool) (V : Int) (e : Ending) (w' : World) : Prop :=
  ∃ gr a n c zs ok, e = .returned (.tuple #[.agg #[.bool gr, .slice a n c], .bool ok]) ∧ Below w.heap.size w w' ∧ Own w.heap.size w' a zs ∧ Arg w' a n c zs ∧ Ans P V gr zs ok
theorem num_of_good {w : World} {g : Bool} {a : Option Addr} {n c : Nat} {xs : List Int} (ha : Arg w a n c xs) (h : goodB g xs = true) : Num w a n c xs := by
  obtain ⟨h1, h2, h3, _⟩ := good_parts h
  exact ⟨ha, h1, h2, by rw [← ha.len]; omega⟩
end Go.Proofs.YtdgonpbponnnaaaDoor
