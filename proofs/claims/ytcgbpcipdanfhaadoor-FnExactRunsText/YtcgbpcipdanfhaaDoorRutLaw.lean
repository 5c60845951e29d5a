/- The walk through the law FnExactRunsText: it returns true. No condition beyond those typed. Written by mkwlaw.py. -/
import Derived.Test.YtcgbpcipdanfhaaDoorTy15
import Derived.Test.YtcgbpcipdanfhaaDoorRt11
namespace Go.Proofs.YtcgbpcipdanfhaaDoor
open Go.RowKit
set_option linter.unusedVariables false
set_option maxRecDepth 100000
set_option linter.unusedSimpArgs false

set_option maxHeartbeats 8000000 in
theorem lawRunsText_walk (a : Option Addr) (n c : Nat) (l : List (Int × Int))  (w : World) (h : SlP w a l) (hn : l.length = n) (hm : n ≤ maxLen)  (ht : Tab15 w) :
    Calls Tryd.prog 5 #[.slice a n c] w fun e w' => e = .returned (.bool true) ∧ Below w.heap.size w w' := by
  have HS := hide h.below8
  have HN := hide hn
  have HM := hide hm
  clear h hn hm
  have HTB := hide ht
  clear ht
  go_enter Tryd.func5, Tryd.ntmps5
  go_wp2_with fail
  refine (szPs a n c 1048576 _ (unhide HM) (by omega) (by omega)).mono ?_
  rintro e w1 ⟨hb, ⟨rfl, hl⟩ | ⟨rfl, hl⟩⟩
  · go_wp2_with fail
    go_ret
    exact ⟨rfl, hb⟩
  · have d0 : decide ((1048576 : Int) - (n : Int) < 0) = false := decide_eq_false (by omega)
    have n1 : n ≤ 1048576 := by omega
    have CS := hide (fun (a' : Option Addr) (w' : World) (k : ArP w' a' n n l) => RunsTextS a' n n l w' k n1)
    have CI := hide (fun (a' : Option Addr) (w' : World) (k : ArP w' a' n n l) (t : Tab15 w') => RunsTextI a' n n l w' k n1 t)
    generalize rtV l = v0 at CS CI
    have e0 : (v0 != v0) = false := st_ne v0
    generalize gRuns l = v1 at CS CI
    have e1 : (v1 != v1) = false := by simp
    have szw1 := hb.size
    replace HS := hide ((unhide HS).later hb)
    have HB := hide (hb)
    clear hb
    clear hl
    go_wp2_with fail
    refine (toPs a n c l _ ((unhide HS)).sl (unhide HN) n1).mono ?_
    rintro e w2a ⟨rfl, hb, ow⟩
    replace HS := hide ((unhide HS).later hb)
    have O1 := hide (ow)
    replace HB := hide (below_on (unhide HB) hb)
    clear hb
    clear ow
    go_wp2_with fail
    refine (unhide CS _ _ (unhide O1).arg).mono ?_
    rintro e w2 ⟨rfl, hb⟩
    replace HS := hide ((unhide HS).later hb)
    replace O1 := hide ((unhide O1).later hb)
    replace HB := hide (below_on (unhide HB) hb)
    clear hb

    clear O1
    have b2 : w.heap.size ≤ w2.heap.size := (unhide HB).size
    go_wp2_with fail
    refine (toPs a n c l _ ((unhide HS)).sl (unhide HN) n1).mono ?_
    rintro e w4 ⟨rfl, hb, ow⟩
    have szw4 := hb.size
    have lt2 := ow.lt
    replace HS := hide ((unhide HS).later hb)
    have O2 := hide (ow)
    replace HB := hide (below_on (unhide HB) hb)
    clear hb
    clear ow
    go_wp2_with fail
    refine (unhide CI _ _ (unhide O2).arg ((unhide HTB).later (unhide HB))).mono ?_
    rintro e w6 ⟨rfl, hb⟩
    replace HS := hide ((unhide HS).later hb)
    replace O2 := hide ((unhide O2).later hb)
    replace HB := hide (below_on (unhide HB) hb)
    clear hb
    go_wp2_with fail
    refine (toPs a n c l _ ((unhide HS)).sl (unhide HN) n1).mono ?_
    rintro e w8 ⟨rfl, hb, ow⟩
    have szw8 := hb.size
    replace HS := hide ((unhide HS).later hb)
    replace O2 := hide ((unhide O2).later hb)
    have O3 := hide (ow)
    replace HB := hide (below_on (unhide HB) hb)
    clear hb
    clear ow
    go_wp2_with fail
    refine (eqPs _ _ n n n l _ (unhide O2).arg.sl (unhide O3).arg.sl (unhide HN) (unhide HM)).mono ?_
    rintro e w9 ⟨rfl, hb⟩
    have szw9 := hb.size
    replace HS := hide ((unhide HS).later hb)
    replace O2 := hide ((unhide O2).later hb)
    replace O3 := hide ((unhide O3).later hb)
    replace HB := hide (below_on (unhide HB) hb)
    clear hb
    clear O3
    go_wp2_with fail
    go_ret
    exact ⟨rfl, unhide HB⟩
end Go.Proofs.YtcgbpcipdanfhaaDoor
