/- The walk through the law FnExactIsHull: it returns true. No condition beyond those typed. Written by mkbxlaw.py. -/
import Derived.Test.YtgoiodhofbkkdaaEy10
namespace Go.Proofs.Ytgoiodhofbkkdaa
open Go.RowKit
set_option linter.unusedVariables false
set_option maxRecDepth 100000
set_option linter.unusedSimpArgs false

set_option maxHeartbeats 8000000 in
theorem lawIsHull_walk (a : Option Addr) (n c : Nat) (l : List (Int × Int)) (b : Option Addr) (m d : Nat) (r : List (Int × Int)) (w : World) (h : SlP w a l) (hn : l.length = n) (hm : n ≤ maxLen) (h' : SlP w b r) (hn' : r.length = m) (hm' : m ≤ maxLen) :
    Calls Try.prog 6 #[.slice a n c, .slice b m d] w fun e w' => e = .returned (.bool true) ∧ Below w.heap.size w w' := by
  have HS := hide h.below8
  have HN := hide hn
  have HM := hide hm
  have HS' := hide h'.below8
  have HN' := hide hn'
  have HM' := hide hm'
  clear h hn hm h' hn' hm'
  go_enter Try.func6, Try.ntmps6
  go_wp2_with fail
  refine (szPs a n c 1048576 _ (unhide HM) (by omega) (by omega)).mono ?_
  rintro e w1 ⟨hb, ⟨rfl, hl⟩ | ⟨rfl, hl⟩⟩
  · go_wp2_with fail
    go_ret
    exact ⟨rfl, hb⟩
  · have d0 : decide ((1048576 : Int) - (n : Int) < 0) = false := decide_eq_false (by omega)
    have n1 : n ≤ 1048576 := by omega
    replace HS := hide ((unhide HS).later hb)
    replace HS' := hide ((unhide HS').later hb)
    have HB := hide (hb)
    clear hb
    go_wp2_with fail
    refine (szPs b m d (1048576 - (n : Int)) _ (unhide HM') (by omega) (by omega)).mono ?_
    rintro e w2 ⟨hb, ⟨rfl, hl'⟩ | ⟨rfl, hl'⟩⟩
    · go_wp2_with fail
      go_ret
      exact ⟨rfl, below_on (unhide HB) hb⟩
    · have d1 : decide ((1048576 : Int) - (n : Int) - (m : Int) < 0) = false := decide_eq_false (by omega)
      have m1 : m ≤ 1048576 := by omega
      have CS := hide (fun (a' b' : Option Addr) (w' : World) (k : ArP w' a' n n l) (k' : ArP w' b' m m r) => IsHullS a' n n l b' m m r w' k k' n1 m1)
      have CI := hide (fun (a' b' : Option Addr) (w' : World) (k : ArP w' a' n n l) (k' : ArP w' b' m m r) => IsHullI a' n n l b' m m r w' k k' n1 m1)
      generalize ihV l r = v0 at CS CI
      have e0 : (v0 != v0) = false := by simp
      generalize ihB l r = v1 at CS CI
      have e1 : (v1 != v1) = false := by simp
      replace HS := hide ((unhide HS).later hb)
      replace HS' := hide ((unhide HS').later hb)
      replace HB := hide (below_on (unhide HB) hb)
      clear hb
      clear hl hl'
      go_wp2_with fail
      refine (toPs a n c l _ (unhide HS).sl (unhide HN) n1).mono ?_
      rintro e w3 ⟨rfl, hb, ow⟩
      replace HS := hide ((unhide HS).later hb)
      replace HS' := hide ((unhide HS').later hb)
      have O1 := hide (ow)
      replace HB := hide (below_on (unhide HB) hb)
      clear hb
      clear ow
      go_wp2_with fail
      refine (toPs b m d r _ (unhide HS').sl (unhide HN') m1).mono ?_
      rintro e w4 ⟨rfl, hb, ow⟩
      replace HS := hide ((unhide HS).later hb)
      replace HS' := hide ((unhide HS').later hb)
      replace O1 := hide ((unhide O1).later hb)
      have P1 := hide (ow)
      replace HB := hide (below_on (unhide HB) hb)
      clear hb
      clear ow
      go_wp2_with fail
      refine (unhide CS _ _ _ (unhide O1).arg (unhide P1).arg).mono ?_
      rintro e w5 ⟨rfl, hb⟩
      replace HS := hide ((unhide HS).later hb)
      replace HS' := hide ((unhide HS').later hb)
      replace O1 := hide ((unhide O1).later hb)
      replace P1 := hide ((unhide P1).later hb)
      replace HB := hide (below_on (unhide HB) hb)
      clear hb
      clear O1 P1
      go_wp2_with fail
      refine (toPs a n c l _ (unhide HS).sl (unhide HN) n1).mono ?_
      rintro e w6 ⟨rfl, hb, ow⟩
      replace HS := hide ((unhide HS).later hb)
      replace HS' := hide ((unhide HS').later hb)
      have O2 := hide (ow)
      replace HB := hide (below_on (unhide HB) hb)
      clear hb
      clear ow
      go_wp2_with fail
      refine (toPs b m d r _ (unhide HS').sl (unhide HN') m1).mono ?_
      rintro e w7 ⟨rfl, hb, ow⟩
      replace HS := hide ((unhide HS).later hb)
      replace HS' := hide ((unhide HS').later hb)
      replace O2 := hide ((unhide O2).later hb)
      have P2 := hide (ow)
      replace HB := hide (below_on (unhide HB) hb)
      clear hb
      clear ow
      go_wp2_with fail
      refine (unhide CI _ _ _ (unhide O2).arg (unhide P2).arg).mono ?_
      rintro e w8 ⟨rfl, hb⟩
      replace HS := hide ((unhide HS).later hb)
      replace HS' := hide ((unhide HS').later hb)
      replace O2 := hide ((unhide O2).later hb)
      replace P2 := hide ((unhide P2).later hb)
      replace HB := hide (below_on (unhide HB) hb)
      clear hb
      go_wp2_with fail
      refine (toPs a n c l _ (unhide HS).sl (unhide HN) n1).mono ?_
      rintro e w9 ⟨rfl, hb, ow⟩
      replace HS := hide ((unhide HS).later hb)
      replace HS' := hide ((unhide HS').later hb)
      replace O2 := hide ((unhide O2).later hb)
      replace P2 := hide ((unhide P2).later hb)
      have O3 := hide (ow)
      replace HB := hide (below_on (unhide HB) hb)
      clear hb
      clear ow
      go_wp2_with fail
      refine (eqPs _ _ n n n l _ (unhide O2).arg.sl (unhide O3).arg.sl (unhide HN) (unhide HM)).mono ?_
      rintro e w10 ⟨rfl, hb⟩
      replace HS := hide ((unhide HS).later hb)
      replace HS' := hide ((unhide HS').later hb)
      replace O2 := hide ((unhide O2).later hb)
      replace P2 := hide ((unhide P2).later hb)
      replace O3 := hide ((unhide O3).later hb)
      replace HB := hide (below_on (unhide HB) hb)
      clear hb
      go_wp2_with fail
      refine (toPs b m d r _ (unhide HS').sl (unhide HN') m1).mono ?_
      rintro e w11 ⟨rfl, hb, ow⟩
      replace HS := hide ((unhide HS).later hb)
      replace HS' := hide ((unhide HS').later hb)
      replace O2 := hide ((unhide O2).later hb)
      replace P2 := hide ((unhide P2).later hb)
      replace O3 := hide ((unhide O3).later hb)
      have P3 := hide (ow)
      replace HB := hide (below_on (unhide HB) hb)
      clear hb
      clear ow
      go_wp2_with fail
      refine (eqPs _ _ m m m r _ (unhide P2).arg.sl (unhide P3).arg.sl (unhide HN') (unhide HM')).mono ?_
      rintro e w12 ⟨rfl, hb⟩
      replace HS := hide ((unhide HS).later hb)
      replace HS' := hide ((unhide HS').later hb)
      replace O2 := hide ((unhide O2).later hb)
      replace P2 := hide ((unhide P2).later hb)
      replace O3 := hide ((unhide O3).later hb)
      replace P3 := hide ((unhide P3).later hb)
      replace HB := hide (below_on (unhide HB) hb)
      clear hb
      go_wp2_with fail
      go_ret
      exact ⟨rfl, unhide HB⟩
end Go.Proofs.Ytgoiodhofbkkdaa
