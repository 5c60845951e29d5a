/- The walk through the law FnExactRunsOf: it returns true. No condition beyond those typed. Written by mkilaw.py. -/
import Derived.Test.YtcgbpcipdanfhaaRu16
namespace Go.Proofs.Ytcgbpcipdanfhaa
open Go.RowKit
set_option linter.unusedVariables false
set_option maxRecDepth 100000
set_option linter.unusedSimpArgs false

set_option maxHeartbeats 8000000 in
theorem lawRunsOf_walk (a : Option Addr) (n c : Nat) (xs : List Int) (w : World) (h : Sl w a xs) (hn : xs.length = n) (hm : n ≤ maxLen) :
    Calls Try.prog 4 #[.slice a n c] w fun e w' => e = .returned (.bool true) ∧ Below w.heap.size w w' := by
  by_cases hbig : 1048576 < n
  · have hd : (1048576 : Int) < (n : Int) := by omega
    clear h hn
    go_enter Try.func4, Try.ntmps4
    go_wp2
    go_ret
    exact ⟨rfl, Below.refl _ _⟩
  have hd : ¬ ((1048576 : Int) < (n : Int)) := by omega
  have n1 : n ≤ 1048576 := by omega
  clear hbig
  have HS := hide h.below8
  have HN := hide hn
  have HM := hide hm
  clear h hn hm
  have CS := hide (fun (a' : Option Addr) (c' : Nat) (w' : World) (k : Arg w' a' n c' xs) => RunsOfS a' n c' xs  w' k n1)
  have CI := hide (fun (a' : Option Addr) (c' : Nat) (w' : World) (k : Arg w' a' n c' xs) => RunsOfI a' n c' xs  w' k n1)
  generalize rV15 xs = L0 at CS CI
  generalize rB15 xs = ok at CS CI
  have x0 : (ok != ok) = false := by simp
  have TI := hide (fun (w' : World) (k : Sl w' a xs) => toI_own a n c xs w' k (unhide HN) n1)
  go_enter Try.func4, Try.ntmps4
  go_wp2_with fail
  refine (unhide TI _ (unhide HS).sl).mono ?_
  rintro e w2a ⟨gw2, rfl, hb, ow⟩
  have szw2a := hb.size
  replace HS := hide ((unhide HS).later hb)
  have O1 := hide (ow)
  have HB := hide (hb)
  clear hb
  clear ow
  go_wp2_with fail
  refine (unhide CS _ _ _ (unhide O1).arg).mono ?_
  rintro e w2 ⟨a0, m0, c0, rfl, hb, sw, lm⟩
  have LN := hide sw.len
  replace HS := hide ((unhide HS).later hb)
  replace O1 := hide ((unhide O1).later hb)
  have S0 := hide (sw.sl.below8)
  replace HB := hide (below_on (unhide HB) hb)
  clear hb
  clear sw
  clear O1
  have b2 : w.heap.size ≤ w2.heap.size := (unhide HB).size
  go_wp2_with fail
  refine (unhide TI _ (unhide HS).sl).mono ?_
  rintro e w4 ⟨gx, rfl, hb, ow⟩
  have szw4 := hb.size
  replace HS := hide ((unhide HS).later hb)
  replace S0 := hide ((unhide S0).later hb)
  have O2 := hide (ow)
  replace HB := hide (below_on (unhide HB) hb)
  clear hb
  clear ow
  go_wp2_with fail
  refine (unhide CI _ _ _ (unhide O2).arg).mono ?_
  rintro e w6 ⟨a1, m1, c1, rfl, hb, rt, lm1⟩
  have szw6 := hb.size
  obtain rfl : m1 = m0 := rt.len.symm.trans (unhide LN)
  replace HS := hide ((unhide HS).later hb)
  replace S0 := hide ((unhide S0).later hb)
  replace O2 := hide ((unhide O2).later hb)
  have R1 := hide (rt)
  replace HB := hide (below_on (unhide HB) hb)
  clear hb
  clear rt lm1
  go_wp2_with fail
  refine (eqPs a1 a0 m1 c1 c0 L0 _ (unhide R1).sl (unhide S0).sl (unhide LN) (by unfold maxLen; omega)).mono ?_
  rintro e w7 ⟨rfl, hb⟩
  have szw7 := hb.size
  replace HS := hide ((unhide HS).later hb)
  replace S0 := hide ((unhide S0).later hb)
  replace O2 := hide ((unhide O2).later hb)
  replace R1 := hide ((unhide R1).later hb)
  replace HB := hide (below_on (unhide HB) hb)
  clear hb
  go_wp2_with fail
  refine (unhide TI _ (unhide HS).sl).mono ?_
  rintro e w8 ⟨gy, rfl, hb, ow⟩
  have szw8 := hb.size
  replace HS := hide ((unhide HS).later hb)
  replace S0 := hide ((unhide S0).later hb)
  replace O2 := hide ((unhide O2).later hb)
  replace R1 := hide ((unhide R1).later hb)
  have O3 := hide (ow)
  replace HB := hide (below_on (unhide HB) hb)
  clear hb
  clear ow
  go_wp2_with fail
  refine (eqI_same _ _ n n n xs _ (unhide O2).arg.sl (unhide O3).arg.sl (unhide HN) (unhide HM)).mono ?_
  rintro e w9 ⟨rfl, hb⟩
  have szw9 := hb.size
  replace HS := hide ((unhide HS).later hb)
  replace S0 := hide ((unhide S0).later hb)
  replace O2 := hide ((unhide O2).later hb)
  replace R1 := hide ((unhide R1).later hb)
  replace O3 := hide ((unhide O3).later hb)
  replace HB := hide (below_on (unhide HB) hb)
  clear hb
  clear O3
  go_wp2_with fail
  refine (mark_own _ n n xs 1 _ _ _ (unhide O2).own (unhide HN) n1 (by omega) (by omega)).mono ?_
  rintro e w10 ⟨rfl, hb, _⟩
  replace HS := hide ((unhide HS).keep hb (by omega))
  replace S0 := hide ((unhide S0).keep hb (by omega))
  replace R1 := hide ((unhide R1).keep2 hb (by omega))
  replace HB := hide (hb.below (unhide HB) (by omega) (by have := (unhide HB).size; omega))
  have szw10 := hb.size
  clear hb O2
  have d1 : decide ((1 : Int) + (n : Int) < 0) = false := decide_eq_false (by omega)
  go_wp2_with fail
  refine (eqPs a1 a0 m1 c1 c0 L0 _ (unhide R1).sl (unhide S0).sl (unhide LN) (by unfold maxLen; omega)).mono ?_
  rintro e w11 ⟨rfl, hb⟩
  have szw11 := hb.size
  replace HS := hide ((unhide HS).later hb)
  replace S0 := hide ((unhide S0).later hb)
  replace R1 := hide ((unhide R1).later hb)
  replace HB := hide (below_on (unhide HB) hb)
  clear hb
  clear d1
  go_wp2_with fail
  refine (markRt _ a1 m1 c1 1 L0 _ (unhide R1) (by omega) (by omega) (by omega) (by omega)).mono ?_
  rintro e w12 ⟨rfl, hb, rt⟩
  replace HS := hide ((unhide HS).keep (below_but8 hb (Nat.le_refl _)) (by omega))
  replace S0 := hide ((unhide S0).keep (below_but8 hb (Nat.le_refl _)) (by omega))
  replace R1 := hide rt
  replace HB := hide ((unhide HB).trans (hb.mono (by omega)))
  have szw12 := hb.size
  clear hb rt
  have d2 : decide ((1 : Int) + 2 * (m1 : Int) < 0) = false := decide_eq_false (by omega)
  have d3 : ((1 : Int) + 2 * (m1 : Int) != 1 + 2 * (m1 : Int)) = false := by simp
  go_wp2_with fail
  refine (heldPs a1 m1 c1 1 _ (unhide R1).sl (by omega) (by omega) (by omega)).mono ?_
  rintro e w13 ⟨rfl, hb⟩
  replace HS := hide ((unhide HS).later hb)
  replace S0 := hide ((unhide S0).later hb)
  replace R1 := hide ((unhide R1).later hb)
  replace HB := hide (below_on (unhide HB) hb)
  clear hb
  go_wp2_with fail
  refine (unhide TI _ (unhide HS).sl).mono ?_
  rintro e w14a ⟨gw14, rfl, hb, ow⟩
  have szw14a := hb.size
  replace HS := hide ((unhide HS).later hb)
  replace S0 := hide ((unhide S0).later hb)
  replace R1 := hide ((unhide R1).later hb)
  have O4 := hide (ow)
  replace HB := hide (below_on (unhide HB) hb)
  clear hb
  clear ow
  go_wp2_with fail
  refine (unhide CI _ _ _ (unhide O4).arg).mono ?_
  rintro e w14 ⟨a2, m2, c2, rfl, hb, rt, lm2⟩
  obtain rfl : m2 = m1 := rt.len.symm.trans (unhide LN)
  replace HS := hide ((unhide HS).later hb)
  replace S0 := hide ((unhide S0).later hb)
  replace R1 := hide ((unhide R1).later hb)
  replace O4 := hide ((unhide O4).later hb)
  have R2 := hide (rt)
  replace HB := hide (below_on (unhide HB) hb)
  clear hb
  clear rt lm2
  clear O4
  go_wp2_with fail
  refine (eqPs a2 a0 m2 c2 c0 L0 _ (unhide R2).sl (unhide S0).sl (unhide LN) (by unfold maxLen; omega)).mono ?_
  rintro e w15 ⟨rfl, hb⟩
  replace HS := hide ((unhide HS).later hb)
  replace S0 := hide ((unhide S0).later hb)
  replace R1 := hide ((unhide R1).later hb)
  replace R2 := hide ((unhide R2).later hb)
  replace HB := hide (below_on (unhide HB) hb)
  clear hb
  go_wp2_with fail
  refine (heldPs a1 m2 c1 1 _ (unhide R1).sl (by omega) (by omega) (by omega)).mono ?_
  rintro e w16 ⟨rfl, hb⟩
  replace HS := hide ((unhide HS).later hb)
  replace S0 := hide ((unhide S0).later hb)
  replace R1 := hide ((unhide R1).later hb)
  replace R2 := hide ((unhide R2).later hb)
  replace HB := hide (below_on (unhide HB) hb)
  clear hb
  go_wp2_with fail
  go_ret
  exact ⟨rfl, unhide HB⟩
end Go.Proofs.Ytcgbpcipdanfhaa
