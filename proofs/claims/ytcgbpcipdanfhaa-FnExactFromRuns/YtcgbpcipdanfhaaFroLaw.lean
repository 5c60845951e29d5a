/- The walk through the law FnExactFromRuns: it returns true. No condition beyond those typed. Written by mkwlaw.py. -/
import Derived.Test.YtcgbpcipdanfhaaFs15
import Derived.Test.YtcgbpcipdanfhaaRt11
namespace Go.Proofs.Ytcgbpcipdanfhaa
open Go.RowKit
set_option linter.unusedVariables false
set_option maxRecDepth 100000
set_option linter.unusedSimpArgs false

set_option maxHeartbeats 8000000 in
theorem lawFromRuns_walk (a : Option Addr) (n c : Nat) (l : List (Int × Int))  (w : World) (h : SlP w a l) (hn : l.length = n) (hm : n ≤ maxLen)  :
    Calls Try.prog 5 #[.slice a n c] w fun e w' => e = .returned (.bool true) ∧ Below w.heap.size w w' := by
  have HS := hide h.below8
  have HN := hide hn
  have HM := hide hm
  clear h hn hm
  go_enter Try.func5, Try.ntmps5
  go_wp2_with fail
  refine (szPs a n c 1048576 _ (unhide HM) (by omega) (by omega)).mono ?_
  rintro e w1 ⟨hb, ⟨rfl, hl⟩ | ⟨rfl, hl⟩⟩
  · go_wp2_with fail
    go_ret
    exact ⟨rfl, hb⟩
  · have d0 : decide ((1048576 : Int) - (n : Int) < 0) = false := decide_eq_false (by omega)
    have n1 : n ≤ 1048576 := by omega
    have CS := hide (fun (a' : Option Addr) (w' : World) (k : ArP w' a' n n l) => FromRunsS a' n n l w' k n1)
    have CI := hide (fun (a' : Option Addr) (w' : World) (k : ArP w' a' n n l) => FromRunsI a' n n l w' k n1)
    generalize frV l = L0 at CS CI
    generalize gRuns l = ok at CS CI
    have x0 : (ok != ok) = false := by simp
    have szw1 := hb.size
    replace HS := hide ((unhide HS).later hb)
    have HB := hide (hb)
    clear hb
    clear hl
    go_wp2_with fail
    refine (toPs a n c l _ ((unhide HS)).sl (unhide HN) n1).mono ?_
    rintro e w2a ⟨rfl, hb, ow⟩
    replace HS := hide ((unhide HS).later hb)
    have O1 := hide (ow)
    replace HB := hide (below_on (unhide HB) hb)
    clear hb
    clear ow
    go_wp2_with fail
    refine (unhide CS _ _ (unhide O1).arg).mono ?_
    rintro e w2 ⟨a0, m0, c0, rfl, hb, sw, lm⟩
    have LN := hide sw.len
    replace HS := hide ((unhide HS).later hb)
    replace O1 := hide ((unhide O1).later hb)
    have S0 := hide (sw.sl.below8)
    replace HB := hide (below_on (unhide HB) hb)
    clear hb
    clear sw

    clear O1
    have b2 : w.heap.size ≤ w2.heap.size := (unhide HB).size
    go_wp2_with fail
    refine (toPs a n c l _ ((unhide HS)).sl (unhide HN) n1).mono ?_
    rintro e w4 ⟨rfl, hb, ow⟩
    have szw4 := hb.size
    have lt2 := ow.lt
    replace HS := hide ((unhide HS).later hb)
    replace S0 := hide ((unhide S0).later hb)
    have O2 := hide (ow)
    replace HB := hide (below_on (unhide HB) hb)
    clear hb
    clear ow
    go_wp2_with fail
    refine (unhide CI _ _ (unhide O2).arg).mono ?_
    rintro e w6 ⟨a1, m1, c1, rfl, hb, rt, lm1⟩
    have szw6 := hb.size
    obtain rfl : m1 = m0 := rt.len.symm.trans (unhide LN)
    replace HS := hide ((unhide HS).later hb)
    replace S0 := hide ((unhide S0).later hb)
    replace O2 := hide ((unhide O2).later hb)
    have R1 := hide (rt)
    replace HB := hide (below_on (unhide HB) hb)
    clear hb
    clear rt lm1
    go_wp2_with fail
    refine (eqI_same a1 a0 m1 c1 c0 L0 _ (unhide R1).sl (unhide S0).sl (unhide LN) (by unfold maxLen; omega)).mono ?_
    rintro e w7 ⟨rfl, hb⟩
    have szw7 := hb.size
    replace HS := hide ((unhide HS).later hb)
    replace S0 := hide ((unhide S0).later hb)
    replace O2 := hide ((unhide O2).later hb)
    replace R1 := hide ((unhide R1).later hb)
    replace HB := hide (below_on (unhide HB) hb)
    clear hb
    go_wp2_with fail
    refine (toPs a n c l _ ((unhide HS)).sl (unhide HN) n1).mono ?_
    rintro e w8 ⟨rfl, hb, ow⟩
    have szw8 := hb.size
    replace HS := hide ((unhide HS).later hb)
    replace S0 := hide ((unhide S0).later hb)
    replace O2 := hide ((unhide O2).later hb)
    replace R1 := hide ((unhide R1).later hb)
    have O3 := hide (ow)
    replace HB := hide (below_on (unhide HB) hb)
    clear hb
    clear ow
    go_wp2_with fail
    refine (eqPs _ _ n n n l _ (unhide O2).arg.sl (unhide O3).arg.sl (unhide HN) (unhide HM)).mono ?_
    rintro e w9 ⟨rfl, hb⟩
    have szw9 := hb.size
    replace HS := hide ((unhide HS).later hb)
    replace S0 := hide ((unhide S0).later hb)
    replace O2 := hide ((unhide O2).later hb)
    replace R1 := hide ((unhide R1).later hb)
    replace O3 := hide ((unhide O3).later hb)
    replace HB := hide (below_on (unhide HB) hb)
    clear hb
    clear O3
    go_wp2_with fail
    refine (markPs w2.heap.size n n 1 l _ (unhide O2) n1 (by omega) (by omega)).mono ?_
    rintro e w10 ⟨rfl, hb, ow⟩
    replace HS := hide ((unhide HS).keep hb (by omega))
    replace S0 := hide ((unhide S0).keep hb (by omega))
    replace R1 := hide ((unhide R1).keep hb (by omega))
    replace HB := hide (hb.below (unhide HB) (by omega) (by omega))
    have szw10 := hb.size
    clear hb ow O2
    have d1 : decide ((1 : Int) + 2 * (n : Int) < 0) = false := decide_eq_false (by omega)
    go_wp2_with fail
    refine (eqI_same a1 a0 m1 c1 c0 L0 _ (unhide R1).sl (unhide S0).sl (unhide LN) (by unfold maxLen; omega)).mono ?_
    rintro e w11 ⟨rfl, hb⟩
    have szw11 := hb.size
    replace HS := hide ((unhide HS).later hb)
    replace S0 := hide ((unhide S0).later hb)
    replace R1 := hide ((unhide R1).later hb)
    replace HB := hide (below_on (unhide HB) hb)
    clear hb
    clear d1
    go_wp2_with fail
    refine (markRtI w4.heap.size a1 m1 c1 1 L0 _ (unhide R1) (by omega) (by omega) (by omega) (by omega)).mono ?_
    rintro e w12 ⟨rfl, hb, rt⟩
    replace HS := hide ((unhide HS).keep (below_but8 hb (Nat.le_refl _)) (by omega))
    replace S0 := hide ((unhide S0).keep (below_but8 hb (Nat.le_refl _)) (by omega))
    replace R1 := hide rt
    replace HB := hide ((unhide HB).trans (hb.mono (by omega)))
    have szw12 := hb.size
    clear hb rt
    have d2 : decide ((1 : Int) + (m1 : Int) < 0) = false := decide_eq_false (by omega)
    have d3 : ((1 : Int) + (m1 : Int) != 1 + (m1 : Int)) = false := by simp
    go_wp2_with fail
    refine (heldRtI a1 m1 c1 1 _ (unhide R1).sl (by omega) (by omega) (by omega)).mono ?_
    rintro e w13 ⟨rfl, hb⟩
    replace HS := hide ((unhide HS).later hb)
    replace S0 := hide ((unhide S0).later hb)
    replace R1 := hide ((unhide R1).later hb)
    replace HB := hide (below_on (unhide HB) hb)
    clear hb
    go_wp2_with fail
    refine (toPs a n c l _ ((unhide HS)).sl (unhide HN) n1).mono ?_
    rintro e w14a ⟨rfl, hb, ow⟩
    replace HS := hide ((unhide HS).later hb)
    replace S0 := hide ((unhide S0).later hb)
    replace R1 := hide ((unhide R1).later hb)
    have O4 := hide (ow)
    replace HB := hide (below_on (unhide HB) hb)
    clear hb
    clear ow
    go_wp2_with fail
    refine (unhide CI _ _ (unhide O4).arg).mono ?_
    rintro e w14 ⟨a2, m2, c2, rfl, hb, rt, lm2⟩
    obtain rfl : m2 = m1 := rt.len.symm.trans (unhide LN)
    replace HS := hide ((unhide HS).later hb)
    replace S0 := hide ((unhide S0).later hb)
    replace R1 := hide ((unhide R1).later hb)
    replace O4 := hide ((unhide O4).later hb)
    have R2 := hide (rt)
    replace HB := hide (below_on (unhide HB) hb)
    clear hb
    clear rt lm2
    clear O4
    go_wp2_with fail
    refine (eqI_same a2 a0 m2 c2 c0 L0 _ (unhide R2).sl (unhide S0).sl (unhide LN) (by unfold maxLen; omega)).mono ?_
    rintro e w15 ⟨rfl, hb⟩
    replace HS := hide ((unhide HS).later hb)
    replace S0 := hide ((unhide S0).later hb)
    replace R1 := hide ((unhide R1).later hb)
    replace R2 := hide ((unhide R2).later hb)
    replace HB := hide (below_on (unhide HB) hb)
    clear hb
    go_wp2_with fail
    refine (heldRtI a1 m2 c1 1 _ (unhide R1).sl (by omega) (by omega) (by omega)).mono ?_
    rintro e w16 ⟨rfl, hb⟩
    replace HS := hide ((unhide HS).later hb)
    replace S0 := hide ((unhide S0).later hb)
    replace R1 := hide ((unhide R1).later hb)
    replace R2 := hide ((unhide R2).later hb)
    replace HB := hide (below_on (unhide HB) hb)
    clear hb
    go_wp2_with fail
    go_ret
    exact ⟨rfl, unhide HB⟩
end Go.Proofs.Ytcgbpcipdanfhaa
