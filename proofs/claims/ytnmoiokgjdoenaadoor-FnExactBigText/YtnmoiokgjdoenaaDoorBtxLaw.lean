/- The walk through the law FnExactBigText: it returns true. No condition beyond those typed. Written by mkbtl16.py. -/
import Derived.Test.YtnmoiokgjdoenaaDoorBt16
import Derived.Test.YtnmoiokgjdoenaaDoorLaw2
namespace Go.Proofs.YtnmoiokgjdoenaaDoor
open Go.RowKit
set_option linter.unusedVariables false
set_option maxRecDepth 100000
set_option linter.unusedSimpArgs false

set_option maxHeartbeats 1000000 in
theorem lawBigText_out (g : Bool) (a : Option Addr) (n c : Nat) (w : World) (hm : n ≤ maxLen) (h : 1048576 < n) :
    Calls Tryd.prog 3 #[.agg #[.bool g, .slice a n c]] w fun e w' => e = .returned (.bool true) ∧ Below w.heap.size w w' := by
  go_enter Tryd.func3, Tryd.ntmps3
  go_wp2_with fail
  refine (sz_out g a n c _ _ (by omega) (by omega) hm (by omega)).mono ?_
  rintro e w1 ⟨rfl, hb⟩
  go_wp2
  go_ret
  exact ⟨rfl, below_one16 hb⟩

set_option maxHeartbeats 4000000 in
theorem lawBigText_in (g : Bool) (a : Option Addr) (n c : Nat) (xs : List Int) (w : World) (hx : Sl w a xs) (hn : xs.length = n) (h : n ≤ 1048576) (ht : Tab15 w) :
    Calls Tryd.prog 3 #[.agg #[.bool g, .slice a n c]] w fun e w' => e = .returned (.bool true) ∧ Below w.heap.size w w' := by
  have hm : n ≤ maxLen := by unfold maxLen; omega
  have HX := hide hx
  have HN := hide hn
  have HT := hide ht
  clear hx hn ht
  have CS := hide (fun (a' : Option Addr) (w' : World) (k : Arg w' a' n n xs) => BigTextS g a' n n xs w' k)
  have CI := hide (fun (a' : Option Addr) (w' : World) (k : Arg w' a' n n xs) (t : Tab15 w') => BigTextI g a' n n xs w' k t)
  generalize btV g xs = v0 at CS CI
  have e0 : (v0 != v0) = false := st_ne v0
  generalize goodB g xs = v1 at CS CI
  have e1 : (v1 != v1) = false := by simp
  have hd : ¬ ((1048576 : Int) - (n : Int) < 0) := by omega
  go_enter Tryd.func3, Tryd.ntmps3
  go_wp2_with fail
  refine (sz_in g a n c _ _ (by omega) (by omega) (by omega)).mono ?_
  rintro e w1 ⟨rfl, hb1⟩
  have a0 : w1.cell? ⟨w.heap.size, 0, none⟩ = some (.bool g) := cell_later hb1 (by simp [go_sem])
  have a1 : w1.cell? ⟨w.heap.size, 1, none⟩ = some (.slice a n c) := cell_later hb1 (by simp [go_sem])
  have HB := hide (below_one16 hb1)
  have X1 := hide ((unhide HX).later (Nat.le_refl _) (unhide HB))
  clear hb1
  go_wp2_with fail
  refine (to_any g a n c xs w1 (unhide X1) (unhide HN) h).mono ?_
  rintro e w2 ⟨b2, rfl, hb2, hle2, own2⟩
  have S2 := hide (arg_of_owns own2 (unhide HN) h)
  replace HB := hide (below_on (unhide HB) hb2)
  replace X1 := hide ((unhide X1).later (Nat.le_refl _) hb2)
  replace a0 := cell_later hb2 a0
  replace a1 := cell_later hb2 a1
  clear hb2 own2
  go_wp2_with fail
  refine (unhide CS _ _ (unhide S2)).mono ?_
  rintro e w3 ⟨rfl, hb3⟩
  replace HB := hide (below_on (unhide HB) hb3)
  replace X1 := hide ((unhide X1).later (Nat.le_refl _) hb3)
  replace a0 := cell_later hb3 a0
  replace a1 := cell_later hb3 a1
  clear hb3 S2
  go_wp2_with fail
  refine (to_any g a n c xs w3 (unhide X1) (unhide HN) h).mono ?_
  rintro e w4 ⟨b4, rfl, hb4, hle4, own4⟩
  have VX := hide (Var.start (g := g) (c := n) 28 (Own.of_owns own4 (unhide HN)) (unhide HN))
  have AL := hide (show Below w4.heap.size w4 (w4.alloc (.cells #[.bool g, .slice (some ⟨b4, 0, none⟩) n n] 28)) from (Below.refl _ _).alloc (Nat.le_refl _) _)
  replace HB := hide (below_on (below_on (unhide HB) hb4) (unhide AL))
  replace X1 := hide (((unhide X1).later (Nat.le_refl _) hb4).later (Nat.le_refl _) (unhide AL))
  replace a0 := cell_later hb4 a0
  replace a1 := cell_later hb4 a1
  clear hb4 own4
  go_wp2_with fail
  refine (unhide CI _ _ ((unhide VX).arg (Nat.le_refl _) hm (.inr ⟨_, _, rfl⟩)) ((unhide HT).later (unhide HB))).mono ?_
  rintro e w5 ⟨rfl, hb5⟩
  replace a0 : w5.cell? ⟨w.heap.size, 0, none⟩ = some (.bool g) := cell_later hb5 (cell_later (unhide AL) a0)
  replace a1 : w5.cell? ⟨w.heap.size, 1, none⟩ = some (.slice a n c) := cell_later hb5 (cell_later (unhide AL) a1)
  replace HB := hide (below_on (unhide HB) hb5)
  replace X1 := hide ((unhide X1).later (Nat.le_refl _) hb5)
  replace VX := hide ((unhide VX).later hb5)
  clear hb5 AL
  generalize w4.heap.size = G at *
  have x0 := (unhide VX).c0
  have x1 := (unhide VX).c1
  go_wp2_with fail
  go_region_held3 (fun w' => w'.cell? ⟨w.heap.size, 0, none⟩ = some (.bool g) ∧ w'.cell? ⟨w.heap.size, 1, none⟩ = some (.slice a n c) ∧ w'.cell? ⟨G, 0, none⟩ = some (.bool g) ∧ w'.cell? ⟨G, 1, none⟩ = some (.slice (some ⟨b4, 0, none⟩) n n)) (refine ⟨?_, ?_, ?_, ?_⟩ <;> assumption)
    (first
    | (go_at_call 7; refine (to_any g a n c xs _ ?_ (unhide HN) h).mono ?_; exact (unhide X1).drew; rintro e w6 ⟨b6, rfl, hb6', hle6, own6⟩; have hb6 := below_of_drew hb6'; have k0 := cell_later hb6 a0; have k1 := cell_later hb6 a1; have V6 := hide ((unhide VX).later hb6); have k2 := (unhide V6).c0; have k3 := (unhide V6).c1; have S6 := hide (Sl.of_owns own6 (unhide HN)); have HB6 := hide (below_on (unhide HB) hb6); clear hb6 hb6' own6)
    | (go_at_call 9; refine (eq_same g _ _ n n n xs _ ?_ ?_ (unhide HN) hm).mono ?_; exact (unhide V6).own.sl; exact unhide S6; rintro e w7 ⟨rfl, hb7⟩; have m0 := cell_later hb7 k0; have m1 := cell_later hb7 k1; have m2 := cell_later hb7 k2; have m3 := cell_later hb7 k3; have HB7 := hide (below_on (unhide HB6) hb7); clear hb7))
  go_wp2
  go_ret
  exact ⟨rfl, unhide HB7⟩

theorem lawBigText_walk (g : Bool) (a : Option Addr) (n c : Nat) (xs : List Int) (w : World) (hx : Sl w a xs) (hn : xs.length = n) (hm : n ≤ maxLen) (ht : Tab15 w) :
    Calls Tryd.prog 3 #[.agg #[.bool g, .slice a n c]] w fun e w' => e = .returned (.bool true) ∧ Below w.heap.size w w' := by
  by_cases h : n ≤ 1048576
  · exact lawBigText_in g a n c xs w hx hn h ht
  · exact lawBigText_out g a n c w hm (by omega)
end Go.Proofs.YtnmoiokgjdoenaaDoor
