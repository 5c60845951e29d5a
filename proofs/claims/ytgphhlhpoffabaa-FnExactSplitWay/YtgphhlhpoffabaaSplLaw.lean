/- The walk through the law FnExactSplitWay: it returns true. No condition beyond those typed. Written by mkbxlaw.py. -/
import Derived.Test.YtgphhlhpoffabaaSpl9
import Derived.Test.YtgphhlhpoffabaaIs9
import Derived.Test.YtgphhlhpoffabaaPtM2
namespace Go.Proofs.Ytgphhlhpoffabaa
open Go.RowKit
set_option linter.unusedVariables false
set_option maxRecDepth 100000
set_option linter.unusedSimpArgs false

set_option maxHeartbeats 8000000 in
theorem lawSplitWay_walk (a : Option Addr) (n c : Nat) (l : List (Int × Int)) (x y : Int) (w : World) (h : SlP w a l) (hn : l.length = n) (hm : n ≤ maxLen) (zx : -9223372036854775808 ≤ x ∧ x ≤ 9223372036854775807) (zy : -9223372036854775808 ≤ y ∧ y ≤ 9223372036854775807) :
    Calls Try.prog 11 #[.slice a n c, .int .i64 x, .int .i64 y] w fun e w' => e = .returned (.bool true) ∧ Below w.heap.size w w' := by
  have HS := hide h.below8
  have HN := hide hn
  have HM := hide hm
  clear h hn hm
  go_enter Try.func11, Try.ntmps11
  go_wp2_with fail
  refine (szPs a n c 1048576 _ (unhide HM) (by omega) (by omega)).mono ?_
  rintro e w1 ⟨hb, ⟨rfl, hl⟩ | ⟨rfl, hl⟩⟩
  · go_wp2_with fail
    go_ret
    exact ⟨rfl, hb⟩
  · have d0 : decide ((1048576 : Int) - (n : Int) < 0) = false := decide_eq_false (by omega)
    have n1 : n ≤ 1048576 := by omega
    have CS := hide (fun (a' : Option Addr) (w' : World) (k : ArP w' a' n n l) => SplitWayS a' n n l x y w' k n1 zx zy)
    have CI := hide (fun (a' : Option Addr) (w' : World) (k : ArP w' a' n n l) => SplitWayI a' n n l x y w' k n1 zx zy)
    generalize sp1 l x y = L0 at CS CI
    generalize sp2 l x y = L1 at CS CI
    generalize spB l x y = ok at CS CI
    have x0 : (ok != ok) = false := by simp
    clear zx zy
    have szw1 := hb.size
    replace HS := hide ((unhide HS).later hb)
    have HB := hide (hb)
    clear hb
    clear hl
    go_wp2_with fail
    refine (toPs a n c l _ (unhide HS).sl (unhide HN) n1).mono ?_
    rintro e w2 ⟨rfl, hb, ow⟩
    have szw2 := hb.size
    replace HS := hide ((unhide HS).later hb)
    have O1 := hide (ow)
    replace HB := hide (below_on (unhide HB) hb)
    clear hb
    clear ow
    go_wp2_with fail
    refine (unhide CS _ _ (unhide O1).arg).mono ?_
    rintro e w3 ⟨a0, m0, c0, b0, k0, e0, rfl, hb, s0, s1, ln0, ln1, lm⟩
    have szw3 := hb.size
    have LN0 := hide ln0
    have LN1 := hide ln1
    replace HS := hide ((unhide HS).later hb)
    replace O1 := hide ((unhide O1).later hb)
    have S0 := hide (s0.below8)
    have S1 := hide (s1.below8)
    replace HB := hide (below_on (unhide HB) hb)
    clear hb
    clear s0 s1 ln0 ln1
    clear O1
    go_wp2_with fail
    refine (toPs a n c l _ (unhide HS).sl (unhide HN) n1).mono ?_
    rintro e w4 ⟨rfl, hb, ow⟩
    have szw4 := hb.size
    have lt2 := ow.lt
    replace HS := hide ((unhide HS).later hb)
    replace S0 := hide ((unhide S0).later hb)
    replace S1 := hide ((unhide S1).later hb)
    have O2 := hide (ow)
    replace HB := hide (below_on (unhide HB) hb)
    clear hb
    clear ow
    go_wp2_with fail
    refine (unhide CI _ _ (unhide O2).arg).mono ?_
    rintro e w5 ⟨a1, m1, c1, b1, k1, e1, rfl, hb, rt, lm1⟩
    have szw5 := hb.size
    obtain rfl : m1 = m0 := rt.r1.len.symm.trans (unhide LN0)
    obtain rfl : k1 = k0 := rt.r2.len.symm.trans (unhide LN1)
    replace HS := hide ((unhide HS).later hb)
    replace S0 := hide ((unhide S0).later hb)
    replace S1 := hide ((unhide S1).later hb)
    replace O2 := hide ((unhide O2).later hb)
    have R1 := hide (rt)
    replace HB := hide (below_on (unhide HB) hb)
    clear hb
    clear rt
    go_wp2_with fail
    refine (eqPs a1 a0 m1 c1 c0 L0 _ (unhide R1).r1.sl (unhide S0).sl (unhide LN0) (by unfold maxLen; omega)).mono ?_
    rintro e w6a ⟨rfl, hb⟩
    have sw6a := hb.size
    replace HS := hide ((unhide HS).later hb)
    replace S0 := hide ((unhide S0).later hb)
    replace S1 := hide ((unhide S1).later hb)
    replace O2 := hide ((unhide O2).later hb)
    replace R1 := hide ((unhide R1).later hb)
    replace HB := hide (below_on (unhide HB) hb)
    clear hb
    go_wp2_with fail
    refine (eqPs b1 b0 k1 e1 e0 L1 _ (unhide R1).r2.sl (unhide S1).sl (unhide LN1) (by unfold maxLen; omega)).mono ?_
    rintro e w6b ⟨rfl, hb⟩
    have sw6b := hb.size
    replace HS := hide ((unhide HS).later hb)
    replace S0 := hide ((unhide S0).later hb)
    replace S1 := hide ((unhide S1).later hb)
    replace O2 := hide ((unhide O2).later hb)
    replace R1 := hide ((unhide R1).later hb)
    replace HB := hide (below_on (unhide HB) hb)
    clear hb
    go_wp2_with fail
    refine (toPs a n c l _ (unhide HS).sl (unhide HN) n1).mono ?_
    rintro e w8 ⟨rfl, hb, ow⟩
    have szw8 := hb.size
    replace HS := hide ((unhide HS).later hb)
    replace S0 := hide ((unhide S0).later hb)
    replace S1 := hide ((unhide S1).later hb)
    replace O2 := hide ((unhide O2).later hb)
    replace R1 := hide ((unhide R1).later hb)
    have O3 := hide (ow)
    replace HB := hide (below_on (unhide HB) hb)
    clear hb
    clear ow
    go_wp2_with fail
    refine (eqPs _ _ n n n l _ (unhide O2).arg.sl (unhide O3).arg.sl (unhide HN) (unhide HM)).mono ?_
    rintro e w9 ⟨rfl, hb⟩
    have szw9 := hb.size
    replace HS := hide ((unhide HS).later hb)
    replace S0 := hide ((unhide S0).later hb)
    replace S1 := hide ((unhide S1).later hb)
    replace O2 := hide ((unhide O2).later hb)
    replace R1 := hide ((unhide R1).later hb)
    replace O3 := hide ((unhide O3).later hb)
    replace HB := hide (below_on (unhide HB) hb)
    clear hb
    clear O3
    go_wp2_with fail
    refine (markPs w3.heap.size n n 1 l _ (unhide O2) n1 (by omega) (by omega)).mono ?_
    rintro e w10 ⟨rfl, hb, ow⟩
    replace HS := hide ((unhide HS).keep hb (by omega))
    replace S0 := hide ((unhide S0).keep hb (by omega))
    replace S1 := hide ((unhide S1).keep hb (by omega))
    replace R1 := hide ((unhide R1).keep hb (by omega))
    replace HB := hide (hb.below (unhide HB) (by omega) (by omega))
    have szw10 := hb.size
    clear hb ow O2
    have d1 : decide ((1 : Int) + 2 * (n : Int) < 0) = false := decide_eq_false (by omega)
    go_wp2_with fail
    refine (eqPs a1 a0 m1 c1 c0 L0 _ (unhide R1).r1.sl (unhide S0).sl (unhide LN0) (by unfold maxLen; omega)).mono ?_
    rintro e w11a ⟨rfl, hb⟩
    have sw11a := hb.size
    replace HS := hide ((unhide HS).later hb)
    replace S0 := hide ((unhide S0).later hb)
    replace S1 := hide ((unhide S1).later hb)
    replace R1 := hide ((unhide R1).later hb)
    replace HB := hide (below_on (unhide HB) hb)
    clear hb
    go_wp2_with fail
    refine (eqPs b1 b0 k1 e1 e0 L1 _ (unhide R1).r2.sl (unhide S1).sl (unhide LN1) (by unfold maxLen; omega)).mono ?_
    rintro e w11b ⟨rfl, hb⟩
    have sw11b := hb.size
    replace HS := hide ((unhide HS).later hb)
    replace S0 := hide ((unhide S0).later hb)
    replace S1 := hide ((unhide S1).later hb)
    replace R1 := hide ((unhide R1).later hb)
    replace HB := hide (below_on (unhide HB) hb)
    clear hb
    clear d1
    go_wp2_with fail
    refine (markOne w4.heap.size a1 m1 c1 L0 b1 k1 e1 L1 1 _ (unhide R1).r1 (unhide R1).r2 (unhide R1).apart (by omega) (by omega) (by omega) (by omega)).mono ?_
    rintro e w12 ⟨rfl, hb, t1, t2⟩
    replace HS := hide ((unhide HS).keep (below_but8 hb (Nat.le_refl _)) (by omega))
    replace S0 := hide ((unhide S0).keep (below_but8 hb (Nat.le_refl _)) (by omega))
    replace S1 := hide ((unhide S1).keep (below_but8 hb (Nat.le_refl _)) (by omega))
    replace HB := hide ((unhide HB).trans (hb.mono (by omega)))
    have szw12 := hb.size
    have R1n := hide (RtP2.mk t1 t2 (unhide R1).apart)
    clear R1 t1 t2 hb
    have R1 := R1n
    clear R1n
    go_wp2_with fail
    refine (markOne w4.heap.size b1 k1 e1 L1 a1 m1 c1 (mks 1 m1) (1 + 2 * (m1 : Int)) _ (unhide R1).r2 (unhide R1).r1 (fun G e f => (unhide R1).apart G f e) (by omega) (by omega) (by omega) (by omega)).mono ?_
    rintro e w13 ⟨rfl, hb, t1, t2⟩
    replace HS := hide ((unhide HS).keep (below_but8 hb (Nat.le_refl _)) (by omega))
    replace S0 := hide ((unhide S0).keep (below_but8 hb (Nat.le_refl _)) (by omega))
    replace S1 := hide ((unhide S1).keep (below_but8 hb (Nat.le_refl _)) (by omega))
    replace HB := hide ((unhide HB).trans (hb.mono (by omega)))
    have szw13 := hb.size
    have R1n := hide (RtP2.mk t2 t1 (unhide R1).apart)
    clear R1 t1 t2 hb
    have R1 := R1n
    clear R1n
    have d2 : decide ((1 : Int) + 2 * (m1 : Int) < 0) = false := decide_eq_false (by omega)
    have d3 : decide (((1 : Int) + 2 * (m1 : Int) + 2 * (k1 : Int)) < 0) = false := decide_eq_false (by omega)
    have d4 : (((1 : Int) + 2 * (m1 : Int) + 2 * (k1 : Int)) != ((1 : Int) + 2 * (m1 : Int) + 2 * (k1 : Int))) = false := by simp
    go_wp2_with fail
    refine (heldPs a1 m1 c1 1 _ (unhide R1).r1.sl (by omega) (by omega) (by omega)).mono ?_
    rintro e w14a ⟨rfl, hb⟩
    replace HS := hide ((unhide HS).later hb)
    replace S0 := hide ((unhide S0).later hb)
    replace S1 := hide ((unhide S1).later hb)
    replace R1 := hide ((unhide R1).later hb)
    replace HB := hide (below_on (unhide HB) hb)
    clear hb
    go_wp2_with fail
    refine (heldPs b1 k1 e1 (1 + 2 * (m1 : Int)) _ (unhide R1).r2.sl (by omega) (by omega) (by omega)).mono ?_
    rintro e w14b ⟨rfl, hb⟩
    replace HS := hide ((unhide HS).later hb)
    replace S0 := hide ((unhide S0).later hb)
    replace S1 := hide ((unhide S1).later hb)
    replace R1 := hide ((unhide R1).later hb)
    replace HB := hide (below_on (unhide HB) hb)
    clear hb
    go_wp2_with fail
    refine (toPs a n c l _ (unhide HS).sl (unhide HN) n1).mono ?_
    rintro e w15 ⟨rfl, hb, ow⟩
    replace HS := hide ((unhide HS).later hb)
    replace S0 := hide ((unhide S0).later hb)
    replace S1 := hide ((unhide S1).later hb)
    replace R1 := hide ((unhide R1).later hb)
    have O4 := hide (ow)
    replace HB := hide (below_on (unhide HB) hb)
    clear hb
    clear ow
    go_wp2_with fail
    refine (unhide CI _ _ (unhide O4).arg).mono ?_
    rintro e w16 ⟨a2, m2, c2, b2, k2, e2, rfl, hb, rt, lm2⟩
    obtain rfl : m2 = m1 := rt.r1.len.symm.trans (unhide LN0)
    obtain rfl : k2 = k1 := rt.r2.len.symm.trans (unhide LN1)
    replace HS := hide ((unhide HS).later hb)
    replace S0 := hide ((unhide S0).later hb)
    replace S1 := hide ((unhide S1).later hb)
    replace R1 := hide ((unhide R1).later hb)
    replace O4 := hide ((unhide O4).later hb)
    have R2 := hide (rt)
    replace HB := hide (below_on (unhide HB) hb)
    clear hb
    clear rt
    clear O4
    go_wp2_with fail
    refine (eqPs a2 a0 m2 c2 c0 L0 _ (unhide R2).r1.sl (unhide S0).sl (unhide LN0) (by unfold maxLen; omega)).mono ?_
    rintro e w17a ⟨rfl, hb⟩
    have sw17a := hb.size
    replace HS := hide ((unhide HS).later hb)
    replace S0 := hide ((unhide S0).later hb)
    replace S1 := hide ((unhide S1).later hb)
    replace R1 := hide ((unhide R1).later hb)
    replace R2 := hide ((unhide R2).later hb)
    replace HB := hide (below_on (unhide HB) hb)
    clear hb
    go_wp2_with fail
    refine (eqPs b2 b0 k2 e2 e0 L1 _ (unhide R2).r2.sl (unhide S1).sl (unhide LN1) (by unfold maxLen; omega)).mono ?_
    rintro e w17b ⟨rfl, hb⟩
    have sw17b := hb.size
    replace HS := hide ((unhide HS).later hb)
    replace S0 := hide ((unhide S0).later hb)
    replace S1 := hide ((unhide S1).later hb)
    replace R1 := hide ((unhide R1).later hb)
    replace R2 := hide ((unhide R2).later hb)
    replace HB := hide (below_on (unhide HB) hb)
    clear hb
    go_wp2_with fail
    refine (heldPs a1 m2 c1 1 _ (unhide R1).r1.sl (by omega) (by omega) (by omega)).mono ?_
    rintro e w18a ⟨rfl, hb⟩
    replace HS := hide ((unhide HS).later hb)
    replace S0 := hide ((unhide S0).later hb)
    replace S1 := hide ((unhide S1).later hb)
    replace R1 := hide ((unhide R1).later hb)
    replace R2 := hide ((unhide R2).later hb)
    replace HB := hide (below_on (unhide HB) hb)
    clear hb
    go_wp2_with fail
    refine (heldPs b1 k2 e1 (1 + 2 * (m2 : Int)) _ (unhide R1).r2.sl (by omega) (by omega) (by omega)).mono ?_
    rintro e w18b ⟨rfl, hb⟩
    replace HS := hide ((unhide HS).later hb)
    replace S0 := hide ((unhide S0).later hb)
    replace S1 := hide ((unhide S1).later hb)
    replace R1 := hide ((unhide R1).later hb)
    replace R2 := hide ((unhide R2).later hb)
    replace HB := hide (below_on (unhide HB) hb)
    clear hb
    go_wp2_with fail
    go_ret
    exact ⟨rfl, unhide HB⟩
end Go.Proofs.Ytgphhlhpoffabaa
