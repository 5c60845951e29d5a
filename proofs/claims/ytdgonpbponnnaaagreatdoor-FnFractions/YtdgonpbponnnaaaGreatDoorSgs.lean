/- Differences of numbers with signs: the program's subSigned, the specification's l1Neg and l1Sub. No condition beyond those typed. -/
import Derived.Test.YtdgonpbponnnaaaGreatDoorSgn
namespace Go.Proofs.YtdgonpbponnnaaaGreatDoor
open Go.RowKit
set_option linter.unusedVariables false
set_option maxRecDepth 100000
set_option linter.unusedSimpArgs false

theorem sv_not (g : Bool) (xs : List Int) : sv (!g) xs = - sv g xs := by cases g <;> simp [sv]

set_option maxHeartbeats 2000000 in
theorem subSgI_any (g g' : Bool) (a a' : Option Addr) (n m c c' : Nat) (xs ys : List Int) (w : World) (hx : Num w a n c xs) (hy : Num w a' m c' ys) :
    Calls Tryz.prog 70 #[.agg #[.bool g, .slice a n c], .agg #[.bool g', .slice a' m c']] w (OutB w (sv g xs - sv g' ys)) := by
  have HX := hide hx
  have HY := hide hy
  clear hx hy
  go_enter Tryz.func70, Tryz.ntmps70
  go_wp2_with fail
  refine (addSgI_any g (!g') a a' n m c c' xs ys _ ((unhide HX).later (below_three _ _ _ _)) ((unhide HY).later (below_three _ _ _ _))).mono ?_
  rintro e w1 ⟨a1, n1, c1, zs, rfl, hb1, ho1, ha1, hn1⟩
  have r0 : w1.cell? ⟨w.heap.size + 1 + 1, 0, none⟩ = some (.bool false) := cell_later hb1 (by simp [go_sem])
  have r1 : w1.cell? ⟨w.heap.size + 1 + 1, 1, none⟩ = some (.slice none 0 0) := cell_later hb1 (by simp [go_sem])
  have f0 : ∀ o, w1.frozen? ⟨w.heap.size + 1 + 1, o, none⟩ = false := fun o => frozen_later hb1 (by simp) (by simp [go_sem])
  have HB := hide ((below_three _ _ _ _).trans (hb1.mono (by simp <;> omega)))
  have HO := hide (ho1.mono (base' := w.heap.size + 1 + 1 + 1) (by simp))
  have HA := hide ha1
  have e1 : sv g xs + sv (!g') ys = sv g xs - sv g' ys := by rw [sv_not]; omega
  rw [e1] at hn1
  have HN := hide hn1
  rw [e1]
  clear hb1 ho1 ha1 hn1 e1
  go_wp2
  refine bodyPost_ret (v := .agg #[.bool (decide (sv g xs - sv g' ys < 0)), .slice a1 n1 c1]) (by simp [results, Tryz.results70, go_sem, r0, r1]) rfl ?_
  obtain ⟨q1, q2, q3⟩ := fin_set (s := w.heap.size + 1 + 1) (by omega) (unhide HB) (unhide HO) (unhide HA) (.bool (decide (sv g xs - sv g' ys < 0))) (.slice a1 n1 c1)
  exact ⟨a1, n1, c1, zs, rfl, q1, q2, q3, unhide HN⟩

set_option maxHeartbeats 2000000 in
theorem negS_any (g' : Bool) (a' : Option Addr) (m c' : Nat) (ys : List Int) (w : World) (hy : Num w a' m c' ys) :
    Calls Tryz.prog 85 #[.agg #[.bool g', .slice a' m c']] w fun e w' => ∃ g1 a1 n1 c1, e = .returned (.agg #[.bool g1, .slice a1 n1 c1]) ∧ Below w.heap.size w w' ∧ Num w' a1 n1 c1 ys ∧ sv g1 ys = - sv g' ys := by
  have HY := hide hy
  clear hy
  go_enter Tryz.func85, Tryz.ntmps85
  go_wp2_with fail
  have B2 := hide (below_two w (.cells #[.bool g', .slice a' m c'] 25) (.cells #[.bool false, .slice none 0 0] 25))
  refine (make_any (!g') a' m c' ys _ ((unhide HY).arg.later (unhide B2)) (Nat.le_trans (unhide HY).sh (by omega))).mono ?_
  rintro e w1 ⟨a1, n1, c1, rfl, hb1, ho1, ha1⟩
  rw [(unhide HY).tr] at ho1 ha1 ⊢
  have r0 : w1.cell? ⟨w.heap.size + 1, 0, none⟩ = some (.bool false) := cell_later hb1 (by simp [go_sem])
  have r1 : w1.cell? ⟨w.heap.size + 1, 1, none⟩ = some (.slice none 0 0) := cell_later hb1 (by simp [go_sem])
  have f0 : ∀ o, w1.frozen? ⟨w.heap.size + 1, o, none⟩ = false := fun o => frozen_later hb1 (by simp) (by simp [go_sem])
  have HB := hide ((unhide B2).trans (hb1.mono (by simp <;> omega)))
  have HO := hide (ho1.mono (base' := w.heap.size + 1 + 1) (by simp))
  have HA := hide ha1
  have HS : Hid (sv (sgn (!g') ys) ys = - sv g' ys) := by
    rw [← sv_not]
    by_cases hnil : ys = []
    · subst hnil; exact hide (by cases g' <;> rfl)
    · exact hide (by rw [sgn_cons (List.length_pos_iff.2 hnil)])
  clear hb1 ho1 ha1
  generalize sgn (!g') ys = g1 at *
  go_wp2
  refine bodyPost_ret (v := .agg #[.bool g1, .slice a1 n1 c1]) (by simp [results, Tryz.results85, go_sem, r0, r1]) rfl ?_
  obtain ⟨q1, q2, q3⟩ := fin_set (s := w.heap.size + 1) (by omega) (unhide HB) (unhide HO) (unhide HA) (.bool g1) (.slice a1 n1 c1)
  exact ⟨g1, a1, n1, c1, rfl, q1, ⟨q3, (unhide HY).ok, (unhide HY).tr, by rw [← q3.len, (unhide HY).arg.len]; exact (unhide HY).sh⟩, unhide HS⟩

/-- What an exported function over two numbers answers: V, where both are good and it fits. -/
def OutA (w : World) (P : Bool) (V : Int) (e : Ending) (w' : World) : Prop :=
  ∃ gr a n c zs ok, e = .returned (.tuple #[.agg #[.bool gr, .slice a n c], .bool ok]) ∧ Below w.heap.size w w' ∧ Own w.heap.size w' a zs ∧ Arg w' a n c zs ∧ Ans P V gr zs ok
theorem num_of_good {w : World} {g : Bool} {a : Option Addr} {n c : Nat} {xs : List Int} (ha : Arg w a n c xs) (h : goodB g xs = true) : Num w a n c xs := by
  obtain ⟨h1, h2, h3, _⟩ := good_parts h
  exact ⟨ha, h1, h2, by rw [← ha.len]; omega⟩
end Go.Proofs.YtdgonpbponnnaaaGreatDoor
