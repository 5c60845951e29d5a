/- The walk through the law FnExactCompareBig: it returns true. No condition beyond those typed. -/
import Derived.Test.YtbmpjefemepgaaaTwo
import Derived.Test.YtbmpjefemepgaaaCompare
namespace Go.Proofs.Ytbmpjefemepgaaa
open Go.RowKit
set_option linter.unusedVariables false

set_option maxHeartbeats 1000000 in
theorem lawCmp_out1 (g g' : Bool) (a a' : Option Addr) (n m c c' : Nat) (w : World) (hm : n ≤ maxLen) (h : 1048576 < n) :
    Calls Try.prog 5 #[.agg #[.bool g, .slice a n c], .agg #[.bool g', .slice a' m c']] w fun e w' => e = .returned (.bool true) ∧ Below w.heap.size w w' := by
  go_enter Try.func5, Try.ntmps5
  go_wp2_with fail
  refine (sz_out g a n c _ _ (by omega) (by omega) hm (by omega)).mono ?_
  rintro e w1 ⟨rfl, hb⟩
  go_wp2
  go_ret
  exact ⟨rfl, below_two' hb⟩

set_option maxHeartbeats 1000000 in
theorem lawCmp_out2 (g g' : Bool) (a a' : Option Addr) (n m c c' : Nat) (w : World) (hm : m ≤ maxLen) (h1 : n ≤ 1048576) (h : 1048576 < n + m) :
    Calls Try.prog 5 #[.agg #[.bool g, .slice a n c], .agg #[.bool g', .slice a' m c']] w fun e w' => e = .returned (.bool true) ∧ Below w.heap.size w w' := by
  have hd : ¬ ((1048576 : Int) - (n : Int) < 0) := by omega
  go_enter Try.func5, Try.ntmps5
  go_wp2_with fail
  refine (sz_in g a n c _ _ (by omega) (by omega) (by omega)).mono ?_
  rintro e w1 ⟨rfl, hb⟩
  have y0 : w1.cell? ⟨w.heap.size + 1, 0, none⟩ = some (.bool g') := cell_later hb (by simp [go_sem])
  have y1 : w1.cell? ⟨w.heap.size + 1, 1, none⟩ = some (.slice a' m c') := cell_later hb (by simp [go_sem])
  have HB := hide (below_two' hb)
  clear hb
  go_wp2_with fail
  refine (sz_out g' a' m c' _ w1 (by omega) (by omega) hm (by omega)).mono ?_
  rintro e w2 ⟨rfl, hb2⟩
  go_wp2
  go_ret
  exact ⟨rfl, below_on (unhide HB) hb2⟩

set_option maxHeartbeats 4000000 in
theorem lawCmp_in (g g' : Bool) (a a' : Option Addr) (n m c c' : Nat) (xs ys : List Int) (w : World) (hx : Sl w a xs) (hy : Sl w a' ys) (hn : xs.length = n) (hn' : ys.length = m) (h : n + m ≤ 1048576) :
    Calls Try.prog 5 #[.agg #[.bool g, .slice a n c], .agg #[.bool g', .slice a' m c']] w fun e w' => e = .returned (.bool true) ∧ Below w.heap.size w w' := by
  have hm : n ≤ maxLen := by unfold maxLen; omega
  have hm' : m ≤ maxLen := by unfold maxLen; omega
  have HN := hide hn
  have HN' := hide hn'
  have HX := hide hx
  have HY := hide hy
  clear hn hn' hx hy
  have l1 : n ≤ 1048576 := by omega
  have l2 : m ≤ 1048576 := by omega
  have hd1 : ¬ ((1048576 : Int) - (n : Int) < 0) := by omega
  have hd2 : ¬ ((1048576 : Int) - (n : Int) - (m : Int) < 0) := by omega
  go_enter Try.func5, Try.ntmps5
  go_wp2_with fail
  refine (sz_in g a n c _ _ (by omega) (by omega) (by omega)).mono ?_
  rintro e w1 ⟨rfl, hb1⟩
  have T1 := hide ((Two.start w g a n c xs g' a' m c' ys 24 24 (unhide HX) (unhide HY)).later hb1)
  have y0 := (unhide T1).y0
  have y1 := (unhide T1).y1
  clear hb1
  go_wp2_with fail
  refine (sz_in g' a' m c' _ w1 (by omega) (by omega) (by omega)).mono ?_
  rintro e w2 ⟨rfl, hb2⟩
  have T2 := hide ((unhide T1).later hb2)
  clear hb2 y0 y1 T1
  go_upto_region 8 with fail
  go_cut [6, 7] (fun c1 c2 wx => c1 = .int .i64 (cmpV g xs g' ys) ∧ c2 = .bool (cmpOk g xs g' ys) ∧ Hid (Two w wx g a n c xs g' a' m c' ys))
  case first =>
    have x0 := (unhide T2).x0
    have x1 := (unhide T2).x1
    have y0 := (unhide T2).y0
    have y1 := (unhide T2).y1
    go_region_with (first
      | (go_at_call_of 8 (Value.agg #[Value.bool g, Value.slice a n c]); refine (to_any g a n c xs _ ?_ (unhide HN) l1).mono ?_; exact (unhide T2).sx.drew; rintro e w3 ⟨b3, rfl, hb3, hle3, own3⟩; have T3 := hide ((unhide T2).later (below_of_drew hb3)); have z0 := (unhide T3).y0; have z1 := (unhide T3).y1; have S3 := hide (Sl.of_owns own3 (unhide HN)); clear hb3 own3)
      | (go_at_call_of 8 (Value.agg #[Value.bool g', Value.slice a' m c']); refine (to_any g' a' m c' ys _ ?_ (unhide HN') l2).mono ?_; exact (unhide T3).sy; rintro e w4 ⟨b4, rfl, hb4, hle4, own4⟩; have T4 := hide ((unhide T3).later hb4); have S3' := hide ((unhide S3).later (Nat.le_refl _) hb4); have S4 := hide (Sl.of_owns own4 (unhide HN')); clear hb4 own4)
      | (go_at_call 13; refine (CompareS_any g g' _ _ n m n m xs ys _ ?_ ?_ (unhide HN) (unhide HN') hm hm').mono ?_; exact unhide S3'; exact unhide S4; rintro e w5 ⟨rfl, hb5⟩; have T5 := hide ((unhide T4).later hb5); clear hb5))
    all_goals
      go_wp2_with fail
      go_meet
      exact ⟨rfl, rfl, T5⟩
  case rest =>
    obtain ⟨rfl, rfl, T3⟩ := hcut
    have x0 := (unhide T3).x0
    have x1 := (unhide T3).x1
    clear T2
    go_wp2_with fail
    refine (to_any g a n c xs wc (unhide T3).sx (unhide HN) l1).mono ?_
    rintro e w3 ⟨b3, rfl, hb3, hle3, own3⟩
    have BX := hide (Box.start (g := g) (n := n) (c := n) 27 (Sl.of_owns own3 (unhide HN)))
    have T4 := hide (((unhide T3).later hb3).later ((Below.refl _ _).alloc (Nat.le_refl _) (.cells #[.bool g, .slice (some ⟨b3, 0, none⟩) n n] 27)))
    have y0 := (unhide T4).y0
    have y1 := (unhide T4).y1
    clear hb3 own3 T3 x0 x1
    go_wp2_with fail
    refine (to_any g' a' m c' ys _ (unhide T4).sy (unhide HN') l2).mono ?_
    rintro e w4 ⟨b4, rfl, hb4, hle4, own4⟩
    have BY := hide (Box.start (g := g') (n := m) (c := m) 27 (Sl.of_owns own4 (unhide HN')))
    have T5 := hide (((unhide T4).later hb4).later ((Below.refl _ _).alloc (Nat.le_refl _) (.cells #[.bool g', .slice (some ⟨b4, 0, none⟩) m m] 27)))
    have BX2 := hide (((unhide BX).later hb4).later ((Below.refl _ _).alloc (Nat.le_refl _) (.cells #[.bool g', .slice (some ⟨b4, 0, none⟩) m m] 27)))
    have p0 := (unhide BX2).c0
    have p1 := (unhide BX2).c1
    clear hb4 own4 T4 BX y0 y1
    go_wp2_with fail
    refine (CompareI_any g g' _ _ n m n m xs ys _ (unhide BX2).s (unhide BY).s (unhide HN) (unhide HN') hm hm').mono ?_
    rintro e w5 ⟨rfl, hb5⟩
    have T6 := hide ((unhide T5).later hb5)
    have PX := hide ((unhide BX2).later hb5)
    have PY := hide ((unhide BY).later hb5)
    clear hb5 T5 BX2 BY p0 p1
    generalize w3.heap.size = GX at *
    generalize w4.heap.size = GY at *
    go_upto_region 14 with fail
    go_cut [52] (fun c1 wx => c1 = .bool false ∧ Hid (Two w wx g a n c xs g' a' m c' ys) ∧ Hid (Box wx GY g' b4 m m ys))
    case first =>
      have x0 := (unhide T6).x0
      have x1 := (unhide T6).x1
      have p0 := (unhide PX).c0
      have p1 := (unhide PX).c1
      go_region_with (first
        | (go_at_call 8; refine (to_any g a n c xs _ ?_ (unhide HN) l1).mono ?_; exact (unhide T6).sx.drew; rintro e w6 ⟨b6, rfl, hb6, hle6, own6⟩; have T7 := hide ((unhide T6).later (below_of_drew hb6)); have QX := hide ((unhide PX).later (below_of_drew hb6)); have QY := hide ((unhide PY).later (below_of_drew hb6)); have q0 := (unhide QX).c0; have q1 := (unhide QX).c1; have S6 := hide (Sl.of_owns own6 (unhide HN)); clear hb6 own6)
        | (go_at_call 10; refine (eq_same g _ _ n n n xs _ ?_ ?_ (unhide HN) hm).mono ?_; exact (unhide QX).s; exact unhide S6; rintro e w7 ⟨rfl, hb7⟩; have T8 := hide ((unhide T7).later hb7); have RY := hide ((unhide QY).later hb7); clear hb7))
      all_goals
        go_wp2_with fail
        go_meet
        exact ⟨rfl, T8, RY⟩
    case rest =>
      obtain ⟨rfl, T7, QY⟩ := hcut
      clear T6 PX PY
      go_upto_region 16 with fail
      have x0 := (unhide T7).y0
      have x1 := (unhide T7).y1
      have p0 := (unhide QY).c0
      have p1 := (unhide QY).c1
      go_region_with (first
        | (go_at_call 8; refine (to_any g' a' m c' ys _ ?_ (unhide HN') l2).mono ?_; exact (unhide T7).sy.drew; rintro e w8 ⟨b8, rfl, hb8, hle8, own8⟩; have T9 := hide ((unhide T7).later (below_of_drew hb8)); have RY := hide ((unhide QY).later (below_of_drew hb8)); have q0 := (unhide RY).c0; have q1 := (unhide RY).c1; have S8 := hide (Sl.of_owns own8 (unhide HN')); clear hb8 own8)
        | (go_at_call 10; refine (eq_same g' _ _ m m m ys _ ?_ ?_ (unhide HN') hm').mono ?_; exact (unhide RY).s; exact unhide S8; rintro e w9 ⟨rfl, hb9⟩; have TA := hide ((unhide T9).later hb9); clear hb9))
      all_goals go_wp2
      all_goals go_ret
      all_goals exact ⟨rfl, (unhide TA).bel⟩

theorem lawCmp_walk (g g' : Bool) (a a' : Option Addr) (n m c c' : Nat) (xs ys : List Int) (w : World) (hx : Sl w a xs) (hy : Sl w a' ys) (hn : xs.length = n) (hn' : ys.length = m) (hm : n ≤ maxLen) (hm' : m ≤ maxLen) :
    Calls Try.prog 5 #[.agg #[.bool g, .slice a n c], .agg #[.bool g', .slice a' m c']] w fun e w' => e = .returned (.bool true) ∧ Below w.heap.size w w' := by
  by_cases h1 : n ≤ 1048576
  · by_cases h2 : n + m ≤ 1048576
    · exact lawCmp_in g g' a a' n m c c' xs ys w hx hy hn hn' h2
    · exact lawCmp_out2 g g' a a' n m c c' w hm' h1 (by omega)
  · exact lawCmp_out1 g g' a a' n m c c' w hm (by omega)
end Go.Proofs.Ytbmpjefemepgaaa
