/- The walk through the law FnExactGoodBig: it returns true. No condition beyond those typed. -/
import Derived.Test.YtbmpjefemepgaaaEq
namespace Go.Proofs.Ytbmpjefemepgaaa
open Go.RowKit
set_option linter.unusedVariables false

set_option maxHeartbeats 1000000 in
theorem lawGood_out (g : Bool) (a : Option Addr) (n c : Nat) (w : World) (hm : n ≤ maxLen) (h : 1048576 < n) :
    Calls Try.prog 3 #[.agg #[.bool g, .slice a n c]] w fun e w' => e = .returned (.bool true) ∧ Below w.heap.size w w' := by
  go_enter Try.func3, Try.ntmps3
  go_wp2_with fail
  refine (sz_out g a n c _ _ (by omega) (by omega) hm (by omega)).mono ?_
  rintro e w1 ⟨rfl, hb⟩
  go_wp2
  go_ret
  exact ⟨rfl, ((Below.refl _ _).alloc (Nat.le_refl _) _).trans (hb.mono (by simp))⟩

set_option maxHeartbeats 2000000 in
theorem lawGood_in (g : Bool) (a : Option Addr) (n c : Nat) (xs : List Int) (w : World) (hx : Sl w a xs) (hn : xs.length = n) (h : n ≤ 1048576) :
    Calls Try.prog 3 #[.agg #[.bool g, .slice a n c]] w fun e w' => e = .returned (.bool true) ∧ Below w.heap.size w w' := by
  have hm : n ≤ maxLen := by unfold maxLen; omega
  have HX := hide hx
  have HN := hide hn
  clear hx hn
  have hd : ¬ ((1048576 : Int) - (n : Int) < 0) := by omega
  go_enter Try.func3, Try.ntmps3
  go_wp2_with fail
  refine (sz_in g a n c _ _ (by omega) (by omega) (by omega)).mono ?_
  rintro e w1 ⟨rfl, hb1⟩
  have B1 : Below w.heap.size w w1 := ((Below.refl _ _).alloc (Nat.le_refl _) _).trans (hb1.mono (by simp))
  have a0 : w1.cell? ⟨w.heap.size, 0, none⟩ = some (.bool g) := cell_later hb1 (by simp [go_sem])
  have a1 : w1.cell? ⟨w.heap.size, 1, none⟩ = some (.slice a n c) := cell_later hb1 (by simp [go_sem])
  have X1 := hide ((unhide HX).later (Nat.le_refl _) B1)
  have HB1 := hide B1
  clear hb1 B1
  go_wp2_with fail
  refine (to_any g a n c xs w1 (unhide X1) (unhide HN) h).mono ?_
  rintro e w2 ⟨b2, rfl, hb2, hle2, own2⟩
  have S2 := hide (Sl.of_owns own2 (unhide HN))
  have HB2 := hide ((unhide HB1).trans (hb2.mono (unhide HB1).size))
  replace X1 := hide ((unhide X1).later (Nat.le_refl _) hb2)
  replace a0 := cell_later hb2 a0
  replace a1 := cell_later hb2 a1
  clear hb2 own2 HB1
  go_wp2_with fail
  refine (goodS_any g _ n n xs w2 (unhide S2) (unhide HN) hm).mono ?_
  rintro e w3 ⟨rfl, hb3⟩
  replace HB2 := hide ((unhide HB2).trans (hb3.mono (unhide HB2).size))
  replace X1 := hide ((unhide X1).later (Nat.le_refl _) hb3)
  replace a0 := cell_later hb3 a0
  replace a1 := cell_later hb3 a1
  clear hb3 S2
  go_wp2_with fail
  refine (to_any g a n c xs w3 (unhide X1) (unhide HN) h).mono ?_
  rintro e w4 ⟨b4, rfl, hb4, hle4, own4⟩
  have S4 := hide (Sl.of_owns own4 (unhide HN))
  replace HB2 := hide ((unhide HB2).trans (hb4.mono (unhide HB2).size))
  replace X1 := hide ((unhide X1).later (Nat.le_refl _) hb4)
  replace a0 := cell_later hb4 a0
  replace a1 := cell_later hb4 a1
  clear hb4 own4
  go_wp2_with fail
  have BA : Below w4.heap.size w4 (w4.alloc (.cells #[.bool g, .slice (some ⟨b4, 0, none⟩) n n] 27)) := (Below.refl _ _).alloc (Nat.le_refl _) _
  refine (goodI_any g _ n n xs _ ((unhide S4).later (Nat.le_refl _) BA) (unhide HN) hm).mono ?_
  rintro e w5 ⟨rfl, hb5⟩
  have x0 : w5.cell? ⟨w4.heap.size, 0, none⟩ = some (.bool g) := cell_later hb5 (by simp [go_sem])
  have x1 : w5.cell? ⟨w4.heap.size, 1, none⟩ = some (.slice (some ⟨b4, 0, none⟩) n n) := cell_later hb5 (by simp [go_sem])
  have BB : Below w4.heap.size w4 w5 := BA.trans (hb5.mono (by simp))
  replace HB2 := hide ((unhide HB2).trans (BB.mono (unhide HB2).size))
  replace X1 := hide ((unhide X1).later (Nat.le_refl _) BB)
  replace S4 := hide ((unhide S4).later (Nat.le_refl _) BB)
  replace a0 := cell_later BB a0
  replace a1 := cell_later BB a1
  clear hb5 BB BA
  generalize w4.heap.size = G at *
  go_wp2_with fail
  go_region_with (first
    | (go_at_call 8; refine (to_any g a n c xs _ ?_ (unhide HN) h).mono ?_; exact (unhide X1).later (Nat.le_refl _) (Below.refl _ _).drew; rintro e w6 ⟨b6, rfl, hb6, hle6, own6⟩; have y0 : w6.cell? ⟨G, 0, none⟩ = some (.bool g) := cell_later hb6 x0; have y1 : w6.cell? ⟨G, 1, none⟩ = some (.slice (some ⟨b4, 0, none⟩) n n) := cell_later hb6 x1; have S6 := hide (Sl.of_owns own6 (unhide HN)); have T6 := hide (((unhide S4).later (Nat.le_refl _) (Below.refl _ _).drew).later (Nat.le_refl _) hb6); have HB6 := hide ((unhide HB2).drew.trans (hb6.mono (unhide HB2).size)); clear hb6 own6)
    | (go_at_call 10; refine (eq_same g _ _ n n n xs _ ?_ ?_ (unhide HN) hm).mono ?_; exact unhide T6; exact unhide S6; rintro e w7 ⟨rfl, hb7⟩; have HB7 := hide ((unhide HB6).trans (hb7.mono (unhide HB6).size)); clear hb7))
  all_goals go_wp2
  all_goals go_ret
  all_goals exact ⟨rfl, unhide HB7⟩

theorem lawGood_walk (g : Bool) (a : Option Addr) (n c : Nat) (xs : List Int) (w : World) (hx : Sl w a xs) (hn : xs.length = n) (hm : n ≤ maxLen) :
    Calls Try.prog 3 #[.agg #[.bool g, .slice a n c]] w fun e w' => e = .returned (.bool true) ∧ Below w.heap.size w w' := by
  by_cases h : n ≤ 1048576
  · exact lawGood_in g a n c xs w hx hn h
  · exact lawGood_out g a n c w hm (by omega)
end Go.Proofs.Ytbmpjefemepgaaa
