/- The walk through the law FnExactRatText: it returns true. No condition beyond those typed. Written by mkrx16.py. -/
import Derived.Test.YtnmoiokgjdoenaaDoorRx16
namespace Go.Proofs.YtnmoiokgjdoenaaDoor
open Go.RowKit
set_option linter.unusedVariables false
set_option maxRecDepth 100000
set_option linter.unusedSimpArgs false

set_option maxHeartbeats 1000000 in
theorem lawRatText_out (r : RV) (w : World) (hm : r.n ≤ maxLen) (hm2 : r.p ≤ maxLen) (h : 1048576 < r.n + r.p) :
    Calls Tryd.prog 4 #[.agg #[.bool r.g, .slice r.a r.n r.c, .bool r.h, .slice r.b r.p r.d]] w fun e w' => e = .returned (.bool true) ∧ Below w.heap.size w w' := by
  go_enter Tryd.func4, Tryd.ntmps4
  go_wp2_with fail
  refine (szR_out r _ _ (by omega) (by omega) hm hm2 (by omega)).mono ?_
  rintro e w1 ⟨rfl, hb⟩
  have HB := hide (ba hb)
  clear hb
  go_wp2
  go_ret
  exact ⟨rfl, unhide HB⟩

theorem ROwn.arg16 {base : Nat} {w : World} {g h : Bool} {b b' n p : Nat} {xs us : List Int} (k : ROwn base w ⟨g, some ⟨b, 0, none⟩, n, n, h, some ⟨b', 0, none⟩, p, p⟩ xs us) (h1 : n ≤ 1048576) (h2 : p ≤ 1048576) : Arg w (some ⟨b, 0, none⟩) n n xs ∧ Arg w (some ⟨b', 0, none⟩) p p us :=
  ⟨⟨k.o0.sl, k.l0, Nat.le_refl _, by unfold maxLen; omega, .inr ⟨_, _, rfl⟩⟩, ⟨k.o1.sl, k.l1, Nat.le_refl _, by unfold maxLen; omega, .inr ⟨_, _, rfl⟩⟩⟩

set_option maxHeartbeats 4000000 in
theorem lawRatText_in (r : RV) (xs us : List Int) (w : World) (hx : RSl w r xs us) (h : r.n + r.p ≤ 1048576) (ht : Tab15 w) :
    Calls Tryd.prog 4 #[.agg #[.bool r.g, .slice r.a r.n r.c, .bool r.h, .slice r.b r.p r.d]] w fun e w' => e = .returned (.bool true) ∧ Below w.heap.size w w' := by
  have hn1 : r.n ≤ 1048576 := by omega
  have hp1 : r.p ≤ 1048576 := by omega
  have hm : r.n ≤ maxLen := by unfold maxLen; omega
  have hm2 : r.p ≤ maxLen := by unfold maxLen; omega
  have HX := hide hx
  have TO := hide (fun w1 (k : RSl w1 r xs us) => to_rat r xs us w1 k hn1 hp1)
  have HT := hide ht
  clear hx ht
  have CS := hide (fun (a' b' : Option Addr) (w' : World) (k : Arg w' a' r.n r.n xs) (k' : Arg w' b' r.p r.p us) => RatTextS r.g r.h a' b' r.n r.n r.p r.p xs us w' k k')
  have CI := hide (fun (a' b' : Option Addr) (w' : World) (k : Arg w' a' r.n r.n xs) (k' : Arg w' b' r.p r.p us) (t : Tab15 w') => RatTextI r.g r.h a' b' r.n r.n r.p r.p xs us w' k k' t)
  generalize rtV r.g xs r.h us = v0 at CS CI
  have e0 : (v0 != v0) = false := st_ne v0
  generalize goodR r.g xs r.h us = v1 at CS CI
  have e1 : (v1 != v1) = false := by simp
  have hd : ¬ ((1048576 : Int) - (r.n : Int) - (r.p : Int) < 0) := by omega
  go_enter Tryd.func4, Tryd.ntmps4
  go_wp2_with fail
  refine (szR_in r _ _ (by omega) (by omega) (by omega)).mono ?_
  rintro e w1 ⟨rfl, hb1⟩
  have B1 : Below w.heap.size w w1 := ba hb1
  have a0 : w1.cell? ⟨w.heap.size, 0, none⟩ = some (.bool r.g) := cell_later hb1 (by simp [go_sem])
  have a1 : w1.cell? ⟨w.heap.size, 1, none⟩ = some (.slice r.a r.n r.c) := cell_later hb1 (by simp [go_sem])
  have a2 : w1.cell? ⟨w.heap.size, 2, none⟩ = some (.bool r.h) := cell_later hb1 (by simp [go_sem])
  have a3 : w1.cell? ⟨w.heap.size, 3, none⟩ = some (.slice r.b r.p r.d) := cell_later hb1 (by simp [go_sem])
  have X1 := hide ((unhide HX).later B1)
  have HB1 := hide B1
  clear hb1 B1
  go_wp2_with fail
  refine (unhide TO w1 (unhide X1)).mono ?_
  rintro e w2 ⟨b2, d2, rfl, hb2, own2⟩
  have S2 := hide (own2.arg16 hn1 hp1)
  have HB2 := hide (below_on (unhide HB1) hb2)
  replace X1 := hide ((unhide X1).later hb2)
  replace a0 := cell_later hb2 a0
  replace a1 := cell_later hb2 a1
  replace a2 := cell_later hb2 a2
  replace a3 := cell_later hb2 a3
  clear hb2 own2 HB1
  go_wp2_with fail
  refine (unhide CS _ _ _ (unhide S2).1 (unhide S2).2).mono ?_
  rintro e w3 ⟨rfl, hb3⟩
  replace HB2 := hide (below_on (unhide HB2) hb3)
  replace X1 := hide ((unhide X1).later hb3)
  replace a0 := cell_later hb3 a0
  replace a1 := cell_later hb3 a1
  replace a2 := cell_later hb3 a2
  replace a3 := cell_later hb3 a3
  clear hb3 S2
  go_wp2_with fail
  refine (unhide TO w3 (unhide X1)).mono ?_
  rintro e w4 ⟨b4, d4, rfl, hb4, own4⟩
  have S4 := hide own4
  replace HB2 := hide (below_on (unhide HB2) hb4)
  replace X1 := hide ((unhide X1).later hb4)
  replace a0 := cell_later hb4 a0
  replace a1 := cell_later hb4 a1
  replace a2 := cell_later hb4 a2
  replace a3 := cell_later hb4 a3
  clear hb4 own4
  go_wp2_with fail
  have BA : Below w4.heap.size w4 (w4.alloc (.cells #[.bool r.g, .slice (some ⟨b4, 0, none⟩) r.n r.n, .bool r.h, .slice (some ⟨d4, 0, none⟩) r.p r.p] 37)) := (Below.refl _ _).alloc (Nat.le_refl _) _
  refine (unhide CI _ _ _ (((unhide S4).later BA).arg16 hn1 hp1).1 (((unhide S4).later BA).arg16 hn1 hp1).2 ((unhide HT).later (below_on (unhide HB2) BA))).mono ?_
  rintro e w5 ⟨rfl, hb5⟩
  have x0 : w5.cell? ⟨w4.heap.size, 0, none⟩ = some (.bool r.g) := cell_later hb5 (by simp [go_sem])
  have x1 : w5.cell? ⟨w4.heap.size, 1, none⟩ = some (.slice (some ⟨b4, 0, none⟩) r.n r.n) := cell_later hb5 (by simp [go_sem])
  have x2 : w5.cell? ⟨w4.heap.size, 2, none⟩ = some (.bool r.h) := cell_later hb5 (by simp [go_sem])
  have x3 : w5.cell? ⟨w4.heap.size, 3, none⟩ = some (.slice (some ⟨d4, 0, none⟩) r.p r.p) := cell_later hb5 (by simp [go_sem])
  have BB : Below w4.heap.size w4 w5 := BA.trans (hb5.mono (by simp))
  replace HB2 := hide (below_on (unhide HB2) BB)
  replace X1 := hide ((unhide X1).later BB)
  have T4 := hide ((unhide S4).later BB).sl
  replace a0 := cell_later BB a0
  replace a1 := cell_later BB a1
  replace a2 := cell_later BB a2
  replace a3 := cell_later BB a3
  clear hb5 BB BA S4
  generalize w4.heap.size = G at *
  go_wp2_with fail
  go_region_held3 (fun w' => w'.cell? ⟨w.heap.size, 0, none⟩ = some (.bool r.g) ∧ w'.cell? ⟨w.heap.size, 1, none⟩ = some (.slice r.a r.n r.c) ∧ w'.cell? ⟨w.heap.size, 2, none⟩ = some (.bool r.h) ∧ w'.cell? ⟨w.heap.size, 3, none⟩ = some (.slice r.b r.p r.d) ∧ w'.cell? ⟨G, 0, none⟩ = some (.bool r.g) ∧ w'.cell? ⟨G, 1, none⟩ = some (.slice (some ⟨b4, 0, none⟩) r.n r.n) ∧ w'.cell? ⟨G, 2, none⟩ = some (.bool r.h) ∧ w'.cell? ⟨G, 3, none⟩ = some (.slice (some ⟨d4, 0, none⟩) r.p r.p)) (refine ⟨?_, ?_, ?_, ?_, ?_, ?_, ?_, ?_⟩ <;> assumption)
    (first
    | (go_at_call 12; refine (unhide TO _ ?_).mono ?_; exact (unhide X1).drew; rintro e w6 ⟨b6, d6, rfl, hb6', own6⟩; have hb6 := below_of_drew hb6'; have z0 : w6.cell? ⟨w.heap.size, 0, none⟩ = some (.bool r.g) := cell_later hb6 a0; have z1 : w6.cell? ⟨w.heap.size, 1, none⟩ = some (.slice r.a r.n r.c) := cell_later hb6 a1; have z2 : w6.cell? ⟨w.heap.size, 2, none⟩ = some (.bool r.h) := cell_later hb6 a2; have z3 : w6.cell? ⟨w.heap.size, 3, none⟩ = some (.slice r.b r.p r.d) := cell_later hb6 a3; have y0 : w6.cell? ⟨G, 0, none⟩ = some (.bool r.g) := cell_later hb6 x0; have y1 : w6.cell? ⟨G, 1, none⟩ = some (.slice (some ⟨b4, 0, none⟩) r.n r.n) := cell_later hb6 x1; have y2 : w6.cell? ⟨G, 2, none⟩ = some (.bool r.h) := cell_later hb6 x2; have y3 : w6.cell? ⟨G, 3, none⟩ = some (.slice (some ⟨d4, 0, none⟩) r.p r.p) := cell_later hb6 x3; have S6 := hide own6.sl; have T6 := hide ((unhide T4).later hb6); have HB6 := hide (below_on (unhide HB2) hb6); clear hb6 hb6' own6)
    | (go_at_call 14; refine (eq_rat ⟨r.g, some ⟨b4, 0, none⟩, r.n, r.n, r.h, some ⟨d4, 0, none⟩, r.p, r.p⟩ ⟨r.g, some ⟨b6, 0, none⟩, r.n, r.n, r.h, some ⟨d6, 0, none⟩, r.p, r.p⟩ xs us _ ?_ ?_ rfl rfl hm hm2).mono ?_; exact unhide T6; exact unhide S6; rintro e w7 ⟨rfl, hb7⟩; have k0 : w7.cell? ⟨w.heap.size, 0, none⟩ = some (.bool r.g) := cell_later hb7 z0; have k1 : w7.cell? ⟨w.heap.size, 1, none⟩ = some (.slice r.a r.n r.c) := cell_later hb7 z1; have k2 : w7.cell? ⟨w.heap.size, 2, none⟩ = some (.bool r.h) := cell_later hb7 z2; have k3 : w7.cell? ⟨w.heap.size, 3, none⟩ = some (.slice r.b r.p r.d) := cell_later hb7 z3; have l0 : w7.cell? ⟨G, 0, none⟩ = some (.bool r.g) := cell_later hb7 y0; have l1 : w7.cell? ⟨G, 1, none⟩ = some (.slice (some ⟨b4, 0, none⟩) r.n r.n) := cell_later hb7 y1; have l2 : w7.cell? ⟨G, 2, none⟩ = some (.bool r.h) := cell_later hb7 y2; have l3 : w7.cell? ⟨G, 3, none⟩ = some (.slice (some ⟨d4, 0, none⟩) r.p r.p) := cell_later hb7 y3; have HB7 := hide (below_on (unhide HB6) hb7); clear hb7))
  all_goals go_wp2
  all_goals go_ret
  all_goals exact ⟨rfl, unhide HB7⟩

theorem lawRatText_walk (g h : Bool) (a b : Option Addr) (n p c d : Nat) (xs us : List Int) (w : World) (hx : Sl w a xs) (hn : xs.length = n) (hm : n ≤ maxLen) (hu : Sl w b us) (hp : us.length = p) (hm2 : p ≤ maxLen) (ht : Tab15 w) :
    Calls Tryd.prog 4 #[.agg #[.bool g, .slice a n c, .bool h, .slice b p d]] w fun e w' => e = .returned (.bool true) ∧ Below w.heap.size w w' := by
  by_cases hl : n + p ≤ 1048576
  · exact lawRatText_in ⟨g, a, n, c, h, b, p, d⟩ xs us w ⟨hx, hn, hu, hp⟩ hl ht
  · exact lawRatText_out ⟨g, a, n, c, h, b, p, d⟩ w hm hm2 (by show 1048576 < n + p; omega)
end Go.Proofs.YtnmoiokgjdoenaaDoor
