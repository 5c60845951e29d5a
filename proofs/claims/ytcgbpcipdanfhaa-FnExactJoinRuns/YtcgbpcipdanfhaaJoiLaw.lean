/- The walk through the law FnExactJoinRuns: it returns true. No condition beyond those typed. Written by mkjn15.py. -/
import Derived.Test.YtcgbpcipdanfhaaJn15
namespace Go.Proofs.Ytcgbpcipdanfhaa
open Go.RowKit
set_option linter.unusedVariables false
set_option maxRecDepth 100000
set_option linter.unusedSimpArgs false

set_option maxHeartbeats 8000000 in
theorem lawJoinRuns_walk (a : Option Addr) (n c : Nat) (l : List (Int × Int)) (b : Option Addr) (m d : Nat) (r : List (Int × Int)) (w : World) (h : SlP w a l) (hn : l.length = n) (hm : n ≤ maxLen) (h' : SlP w b r) (hn' : r.length = m) (hm' : m ≤ maxLen) :
    Calls Try.prog 7 #[.slice a n c, .slice b m d] w fun e w' => e = .returned (.bool true) ∧ Below w.heap.size w w' := by
  have HS := hide h.below8
  have HN := hide hn
  have HM := hide hm
  have HS' := hide h'.below8
  have HN' := hide hn'
  have HM' := hide hm'
  clear h hn hm h' hn' hm'
  go_enter Try.func7, Try.ntmps7
  go_wp2_with fail
  refine (szPs a n c 1048576 _ (unhide HM) (by omega) (by omega)).mono ?_
  rintro e w1 ⟨hb, ⟨rfl, hl⟩ | ⟨rfl, hl⟩⟩
  · go_wp2_with fail
    go_ret
    exact ⟨rfl, hb⟩
  · have d0 : decide ((1048576 : Int) - (n : Int) < 0) = false := decide_eq_false (by omega)
    have n1 : n ≤ 1048576 := by omega
    replace HS := hide ((unhide HS).later hb)
    replace HS' := hide ((unhide HS').later hb)
    have HB := hide (hb)
    clear hb
    go_wp2_with fail
    refine (szPs b m d (1048576 - (n : Int)) _ (unhide HM') (by omega) (by omega)).mono ?_
    rintro e w2 ⟨hb, ⟨rfl, hl'⟩ | ⟨rfl, hl'⟩⟩
    · go_wp2_with fail
      go_ret
      exact ⟨rfl, below_on (unhide HB) hb⟩
    · have d1 : decide ((1048576 : Int) - (n : Int) - (m : Int) < 0) = false := decide_eq_false (by omega)
      have m1 : m ≤ 1048576 := by omega
      have CS := hide (fun (a' b' : Option Addr) (w' : World) (k : ArP w' a' n n l) (k' : ArP w' b' m m r) => JoinRunsS a' n n l b' m m r w' k k' n1 m1)
      have CI := hide (fun (a' b' : Option Addr) (w' : World) (k : ArP w' a' n n l) (k' : ArP w' b' m m r) => JoinRunsI a' n n l b' m m r w' k k' n1 m1)
      generalize jV l r = L0 at CS CI
      generalize jB l r = ok at CS CI
      have x0 : (ok != ok) = false := by simp
      replace HS := hide ((unhide HS).later hb)
      replace HS' := hide ((unhide HS').later hb)
      replace HB := hide (below_on (unhide HB) hb)
      clear hb
      have nm : (n : Int) + (m : Int) ≤ 1048576 := by omega
      clear hl hl'
      go_wp2_with fail
      refine (toPs a n c l _ (unhide HS).sl (unhide HN) n1).mono ?_
      rintro e w3 ⟨rfl, hb, ow⟩
      replace HS := hide ((unhide HS).later hb)
      replace HS' := hide ((unhide HS').later hb)
      have O1 := hide (ow)
      replace HB := hide (below_on (unhide HB) hb)
      clear hb
      clear ow
      go_wp2_with fail
      refine (toPs b m d r _ (unhide HS').sl (unhide HN') m1).mono ?_
      rintro e w4 ⟨rfl, hb, ow⟩
      replace HS := hide ((unhide HS).later hb)
      replace HS' := hide ((unhide HS').later hb)
      replace O1 := hide ((unhide O1).later hb)
      have P1 := hide (ow)
      replace HB := hide (below_on (unhide HB) hb)
      clear hb
      clear ow
      go_wp2_with fail
      refine (unhide CS _ _ _ (unhide O1).arg (unhide P1).arg).mono ?_
      rintro e w5 ⟨a0, q0, c0, rfl, hb, rt, lm⟩
      have LN := hide rt.len
      have q0le := lm
      replace HS := hide ((unhide HS).later hb)
      replace HS' := hide ((unhide HS').later hb)
      replace O1 := hide ((unhide O1).later hb)
      replace P1 := hide ((unhide P1).later hb)
      have S0 := hide (rt.sl.below8)
      replace HB := hide (below_on (unhide HB) hb)
      clear hb
      clear rt lm
      clear O1 P1
      have b2 : w.heap.size ≤ w5.heap.size := (unhide HB).size
      go_wp2_with fail
      refine (toPs a n c l _ (unhide HS).sl (unhide HN) n1).mono ?_
      rintro e w6 ⟨rfl, hb, ow⟩
      have sz6 := hb.size
      have lt6 := ow.lt
      replace HS := hide ((unhide HS).later hb)
      replace HS' := hide ((unhide HS').later hb)
      replace S0 := hide ((unhide S0).later hb)
      have O2 := hide (ow)
      replace HB := hide (below_on (unhide HB) hb)
      clear hb
      clear ow
      go_wp2_with fail
      refine (toPs b m d r _ (unhide HS').sl (unhide HN') m1).mono ?_
      rintro e w7 ⟨rfl, hb, ow⟩
      have sz7 := hb.size
      have lt7 := ow.lt
      replace HS := hide ((unhide HS).later hb)
      replace HS' := hide ((unhide HS').later hb)
      replace S0 := hide ((unhide S0).later hb)
      replace O2 := hide ((unhide O2).later hb)
      have P2 := hide (ow)
      replace HB := hide (below_on (unhide HB) hb)
      clear hb
      clear ow
      go_wp2_with fail
      refine (unhide CI _ _ _ (unhide O2).arg (unhide P2).arg).mono ?_
      rintro e w8 ⟨a1, q1, c1, rfl, hb, rt, lm⟩
      have sz8 := hb.size
      obtain rfl : q1 = q0 := rt.len.symm.trans (unhide LN)
      replace HS := hide ((unhide HS).later hb)
      replace HS' := hide ((unhide HS').later hb)
      replace S0 := hide ((unhide S0).later hb)
      replace O2 := hide ((unhide O2).later hb)
      replace P2 := hide ((unhide P2).later hb)
      have R1 := hide (rt)
      replace HB := hide (below_on (unhide HB) hb)
      clear hb
      clear rt lm
      go_wp2_with fail
      refine (eqPs a1 a0 q1 c1 c0 L0 _ (unhide R1).sl (unhide S0).sl (unhide LN) (by unfold maxLen; omega)).mono ?_
      rintro e w9 ⟨rfl, hb⟩
      have sz9 := hb.size
      replace HS := hide ((unhide HS).later hb)
      replace HS' := hide ((unhide HS').later hb)
      replace S0 := hide ((unhide S0).later hb)
      replace O2 := hide ((unhide O2).later hb)
      replace P2 := hide ((unhide P2).later hb)
      replace R1 := hide ((unhide R1).later hb)
      replace HB := hide (below_on (unhide HB) hb)
      clear hb
      go_wp2_with fail
      refine (toPs a n c l _ (unhide HS).sl (unhide HN) n1).mono ?_
      rintro e w10 ⟨rfl, hb, ow⟩
      have sz10 := hb.size
      replace HS := hide ((unhide HS).later hb)
      replace HS' := hide ((unhide HS').later hb)
      replace S0 := hide ((unhide S0).later hb)
      replace O2 := hide ((unhide O2).later hb)
      replace P2 := hide ((unhide P2).later hb)
      replace R1 := hide ((unhide R1).later hb)
      have O3 := hide (ow)
      replace HB := hide (below_on (unhide HB) hb)
      clear hb
      clear ow
      go_wp2_with fail
      refine (eqPs _ _ n n n l _ (unhide O2).arg.sl (unhide O3).arg.sl (unhide HN) (unhide HM)).mono ?_
      rintro e w11 ⟨rfl, hb⟩
      have sz11 := hb.size
      replace HS := hide ((unhide HS).later hb)
      replace HS' := hide ((unhide HS').later hb)
      replace S0 := hide ((unhide S0).later hb)
      replace O2 := hide ((unhide O2).later hb)
      replace P2 := hide ((unhide P2).later hb)
      replace R1 := hide ((unhide R1).later hb)
      replace O3 := hide ((unhide O3).later hb)
      replace HB := hide (below_on (unhide HB) hb)
      clear hb
      clear O3
      go_wp2_with fail
      refine (toPs b m d r _ (unhide HS').sl (unhide HN') m1).mono ?_
      rintro e w12 ⟨rfl, hb, ow⟩
      have sz12 := hb.size
      replace HS := hide ((unhide HS).later hb)
      replace HS' := hide ((unhide HS').later hb)
      replace S0 := hide ((unhide S0).later hb)
      replace O2 := hide ((unhide O2).later hb)
      replace P2 := hide ((unhide P2).later hb)
      replace R1 := hide ((unhide R1).later hb)
      have P3 := hide (ow)
      replace HB := hide (below_on (unhide HB) hb)
      clear hb
      clear ow
      go_wp2_with fail
      refine (eqPs _ _ m m m r _ (unhide P2).arg.sl (unhide P3).arg.sl (unhide HN') (unhide HM')).mono ?_
      rintro e w13 ⟨rfl, hb⟩
      have sz13 := hb.size
      replace HS := hide ((unhide HS).later hb)
      replace HS' := hide ((unhide HS').later hb)
      replace S0 := hide ((unhide S0).later hb)
      replace O2 := hide ((unhide O2).later hb)
      replace P2 := hide ((unhide P2).later hb)
      replace R1 := hide ((unhide R1).later hb)
      replace P3 := hide ((unhide P3).later hb)
      replace HB := hide (below_on (unhide HB) hb)
      clear hb
      clear P3
      go_wp2_with fail
      refine (markPs w5.heap.size n n 1 l _ (unhide O2) n1 (by omega) (by omega)).mono ?_
      rintro e w14 ⟨rfl, hb, ow⟩
      replace HS := hide ((unhide HS).keep hb (by omega))
      replace HS' := hide ((unhide HS').keep hb (by omega))
      replace S0 := hide ((unhide S0).keep hb (by omega))
      replace R1 := hide ((unhide R1).keep hb (by omega))
      replace P2 := hide ((unhide P2).keep hb (.inr (by omega)))
      replace HB := hide (hb.below (unhide HB) (by omega) (by omega))
      have sz14 := hb.size
      clear hb ow O2
      go_wp2_with fail
      refine (markPs w6.heap.size m m (1 + 2 * (n : Int)) r _ (unhide P2) m1 (by omega) (by omega)).mono ?_
      rintro e w15 ⟨rfl, hb, ow⟩
      replace HS := hide ((unhide HS).keep hb (by omega))
      replace HS' := hide ((unhide HS').keep hb (by omega))
      replace S0 := hide ((unhide S0).keep hb (by omega))
      replace R1 := hide ((unhide R1).keep hb (by omega))
      replace HB := hide (hb.below (unhide HB) (by omega) (by omega))
      have sz15 := hb.size
      clear hb ow P2
      have d3 : decide ((1 : Int) + 2 * (n : Int) + 2 * (m : Int) < 0) = false := decide_eq_false (by omega)
      go_wp2_with fail
      refine (eqPs a1 a0 q1 c1 c0 L0 _ (unhide R1).sl (unhide S0).sl (unhide LN) (by unfold maxLen; omega)).mono ?_
      rintro e w16 ⟨rfl, hb⟩
      have sz16 := hb.size
      replace HS := hide ((unhide HS).later hb)
      replace HS' := hide ((unhide HS').later hb)
      replace S0 := hide ((unhide S0).later hb)
      replace R1 := hide ((unhide R1).later hb)
      replace HB := hide (below_on (unhide HB) hb)
      clear hb
      clear d3
      go_wp2_with fail
      refine (markRt w7.heap.size a1 q1 c1 1 L0 _ (unhide R1) (by omega) (by omega) (by omega) (by omega)).mono ?_
      rintro e w17 ⟨rfl, hb, rt⟩
      replace HS := hide ((unhide HS).keep (below_but8 hb (Nat.le_refl _)) (by omega))
      replace HS' := hide ((unhide HS').keep (below_but8 hb (Nat.le_refl _)) (by omega))
      replace S0 := hide ((unhide S0).keep (below_but8 hb (Nat.le_refl _)) (by omega))
      replace R1 := hide rt
      replace HB := hide ((unhide HB).trans (hb.mono (by omega)))
      have sz17 := hb.size
      clear hb rt
      have d4 : decide ((1 : Int) + 2 * (q1 : Int) < 0) = false := decide_eq_false (by omega)
      have d5 : ((1 : Int) + 2 * (q1 : Int) != 1 + 2 * (q1 : Int)) = false := by simp
      go_wp2_with fail
      refine (heldPs a1 q1 c1 1 _ (unhide R1).sl (by omega) (by omega) (by omega)).mono ?_
      rintro e w18 ⟨rfl, hb⟩
      replace HS := hide ((unhide HS).later hb)
      replace HS' := hide ((unhide HS').later hb)
      replace S0 := hide ((unhide S0).later hb)
      replace R1 := hide ((unhide R1).later hb)
      replace HB := hide (below_on (unhide HB) hb)
      clear hb
      go_wp2_with fail
      refine (toPs a n c l _ (unhide HS).sl (unhide HN) n1).mono ?_
      rintro e w19 ⟨rfl, hb, ow⟩
      replace HS := hide ((unhide HS).later hb)
      replace HS' := hide ((unhide HS').later hb)
      replace S0 := hide ((unhide S0).later hb)
      replace R1 := hide ((unhide R1).later hb)
      have O4 := hide (ow)
      replace HB := hide (below_on (unhide HB) hb)
      clear hb
      clear ow
      go_wp2_with fail
      refine (toPs b m d r _ (unhide HS').sl (unhide HN') m1).mono ?_
      rintro e w20 ⟨rfl, hb, ow⟩
      replace HS := hide ((unhide HS).later hb)
      replace HS' := hide ((unhide HS').later hb)
      replace S0 := hide ((unhide S0).later hb)
      replace R1 := hide ((unhide R1).later hb)
      replace O4 := hide ((unhide O4).later hb)
      have P4 := hide (ow)
      replace HB := hide (below_on (unhide HB) hb)
      clear hb
      clear ow
      go_wp2_with fail
      refine (unhide CI _ _ _ (unhide O4).arg (unhide P4).arg).mono ?_
      rintro e w21 ⟨a2, q2, c2, rfl, hb, rt, lm⟩
      obtain rfl : q2 = q1 := rt.len.symm.trans (unhide LN)
      replace HS := hide ((unhide HS).later hb)
      replace HS' := hide ((unhide HS').later hb)
      replace S0 := hide ((unhide S0).later hb)
      replace R1 := hide ((unhide R1).later hb)
      replace O4 := hide ((unhide O4).later hb)
      replace P4 := hide ((unhide P4).later hb)
      have R2 := hide (rt)
      replace HB := hide (below_on (unhide HB) hb)
      clear hb
      clear rt lm
      clear O4 P4
      go_wp2_with fail
      refine (eqPs a2 a0 q2 c2 c0 L0 _ (unhide R2).sl (unhide S0).sl (unhide LN) (by unfold maxLen; omega)).mono ?_
      rintro e w22 ⟨rfl, hb⟩
      replace HS := hide ((unhide HS).later hb)
      replace HS' := hide ((unhide HS').later hb)
      replace S0 := hide ((unhide S0).later hb)
      replace R1 := hide ((unhide R1).later hb)
      replace R2 := hide ((unhide R2).later hb)
      replace HB := hide (below_on (unhide HB) hb)
      clear hb
      go_wp2_with fail
      refine (heldPs a1 q2 c1 1 _ (unhide R1).sl (by omega) (by omega) (by omega)).mono ?_
      rintro e w23 ⟨rfl, hb⟩
      replace HS := hide ((unhide HS).later hb)
      replace HS' := hide ((unhide HS').later hb)
      replace S0 := hide ((unhide S0).later hb)
      replace R1 := hide ((unhide R1).later hb)
      replace R2 := hide ((unhide R2).later hb)
      replace HB := hide (below_on (unhide HB) hb)
      clear hb
      go_wp2_with fail
      go_ret
      exact ⟨rfl, unhide HB⟩
end Go.Proofs.Ytcgbpcipdanfhaa
