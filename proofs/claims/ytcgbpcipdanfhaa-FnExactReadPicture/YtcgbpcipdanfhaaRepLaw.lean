/- The walk through the law FnExactReadPicture: it returns true. No condition beyond those typed. Written by mkstlaw.py. -/
import Derived.Test.YtcgbpcipdanfhaaRp15
import Derived.Test.YtcgbpcipdanfhaaRt11
import Derived.Test.YtcgbpcipdanfhaaIn14
namespace Go.Proofs.Ytcgbpcipdanfhaa
open Go.RowKit
set_option linter.unusedVariables false
set_option maxRecDepth 100000
set_option linter.unusedSimpArgs false

set_option maxHeartbeats 8000000 in
theorem lawReadPicture_walk (s : ByteArray) (m : Int) (w : World) (hm : s.size ≤ maxLen) (hp : MaxL m w) :
    Calls Try.prog 6 #[.string s] w fun e w' => e = .returned (.bool true) ∧ Below w.heap.size w w' := by
  unfold maxLen at hm
  by_cases hbig : 1048576 < s.size
  · have hd : (1048576 : Int) < (s.size : Int) := by omega
    go_enter Try.func6, Try.ntmps6
    go_wp2
    go_ret
    exact ⟨rfl, Below.refl _ _⟩
  have hd : ¬ ((1048576 : Int) < (s.size : Int)) := by omega
  have hs : s.size ≤ 1048576 := by omega
  have HP := hide hp
  clear hp
  have CS := hide (fun (w' : World) => ReadPictureS s w' hs)
  have CI := hide (fun (w' : World) (k : MaxL m w') => ReadPictureI s m w' hs k)
  clear hbig hs
  generalize rpW s.data.toList = v0 at CS CI
  have e0 : (v0 != v0) = false := by simp
  generalize rpH s.data.toList = v1 at CS CI
  have e1 : (v1 != v1) = false := by simp
  generalize rpL s.data.toList = L0 at CS CI
  generalize rpB s.data.toList = v2 at CS CI
  have e2 : (v2 != v2) = false := by simp
  go_enter Try.func6, Try.ntmps6
  go_wp2_with fail
  refine (unhide CS _).mono ?_
  rintro e w2 ⟨a0, q0, c0, rfl, hb, rt, lm0⟩
  have LN := hide rt.len
  have S0 := hide (rt.sl.below8)
  have HB := hide (hb)
  clear hb
  clear rt
  have b2 : w.heap.size ≤ w2.heap.size := (unhide HB).size
  go_wp2_with fail
  refine (unhide CI _ ((unhide HP).later (unhide HB))).mono ?_
  rintro e w3 ⟨a1, q1, c1, rfl, hb, rt, lm1⟩
  have sz3 := hb.size
  obtain rfl : q1 = q0 := rt.len.symm.trans (unhide LN)
  replace S0 := hide ((unhide S0).later hb)
  have R1 := hide (rt)
  replace HB := hide (below_on (unhide HB) hb)
  clear hb
  clear rt lm1
  go_wp2_with fail
  refine (eqI_same a1 a0 q1 c1 c0 L0 _ (unhide R1).sl (unhide S0).sl (unhide LN) (by unfold maxLen; omega)).mono ?_
  rintro e w4 ⟨rfl, hb⟩
  have sz4 := hb.size
  replace S0 := hide ((unhide S0).later hb)
  replace R1 := hide ((unhide R1).later hb)
  replace HB := hide (below_on (unhide HB) hb)
  clear hb
  go_wp2_with fail
  refine (markRtI w2.heap.size a1 q1 c1 1 L0 _ (unhide R1) (by omega) (by omega) (by omega) (by omega)).mono ?_
  rintro e w5 ⟨rfl, hb, rt⟩
  replace S0 := hide ((unhide S0).keep (below_but8 hb (Nat.le_refl _)) (by omega))
  replace R1 := hide rt
  replace HB := hide ((unhide HB).trans (hb.mono (by omega)))
  have sz5 := hb.size
  clear hb rt
  have d4 : decide ((1 : Int) + (q1 : Int) < 0) = false := decide_eq_false (by omega)
  have d5 : ((1 : Int) + (q1 : Int) != 1 + (q1 : Int)) = false := by simp
  go_wp2_with fail
  refine (heldRtI a1 q1 c1 1 _ (unhide R1).sl (by omega) (by omega) (by omega)).mono ?_
  rintro e w6 ⟨rfl, hb⟩
  replace S0 := hide ((unhide S0).later hb)
  replace R1 := hide ((unhide R1).later hb)
  replace HB := hide (below_on (unhide HB) hb)
  clear hb
  go_wp2_with fail
  refine (unhide CI _ ((unhide HP).later (unhide HB))).mono ?_
  rintro e w7 ⟨a2, q2, c2, rfl, hb, rt, lm2⟩
  obtain rfl : q2 = q1 := rt.len.symm.trans (unhide LN)
  replace S0 := hide ((unhide S0).later hb)
  replace R1 := hide ((unhide R1).later hb)
  have R2 := hide (rt)
  replace HB := hide (below_on (unhide HB) hb)
  clear hb
  clear rt
  go_wp2_with fail
  refine (eqI_same a2 a0 q2 c2 c0 L0 _ (unhide R2).sl (unhide S0).sl (unhide LN) (by unfold maxLen; omega)).mono ?_
  rintro e w8 ⟨rfl, hb⟩
  replace S0 := hide ((unhide S0).later hb)
  replace R1 := hide ((unhide R1).later hb)
  replace R2 := hide ((unhide R2).later hb)
  replace HB := hide (below_on (unhide HB) hb)
  clear hb
  go_wp2_with fail
  refine (heldRtI a1 q2 c1 1 _ (unhide R1).sl (by omega) (by omega) (by omega)).mono ?_
  rintro e w9 ⟨rfl, hb⟩
  replace S0 := hide ((unhide S0).later hb)
  replace R1 := hide ((unhide R1).later hb)
  replace R2 := hide ((unhide R2).later hb)
  replace HB := hide (below_on (unhide HB) hb)
  clear hb
  go_wp2_with fail
  go_ret
  exact ⟨rfl, unhide HB⟩
end Go.Proofs.Ytcgbpcipdanfhaa
