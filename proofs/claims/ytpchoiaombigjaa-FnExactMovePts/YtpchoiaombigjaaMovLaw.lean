/- The walk through the law FnExactMovePts: it returns true. No condition beyond those typed. Written by mkwlaw.py. -/
import Derived.Test.YtpchoiaombigjaaTm8
namespace Go.Proofs.Ytpchoiaombigjaa
open Go.RowKit
set_option linter.unusedVariables false
set_option maxRecDepth 100000
set_option linter.unusedSimpArgs false

set_option maxHeartbeats 8000000 in
theorem lawMovePts_walk (a : Option Addr) (n c : Nat) (l : List (Int × Int)) (p : Int × Int) (w : World) (h : SlP w a l) (hn : l.length = n) (hm : n ≤ maxLen)  :
    Calls Try.prog 15 #[.slice a n c, .agg #[.int .i64 p.1, .int .i64 p.2]] w fun e w' => e = .returned (.bool true) ∧ Below w.heap.size w w' := by
  have HS := hide h.below8
  have HN := hide hn
  have HM := hide hm
  clear h hn hm
  have B0 := hide (show Below w.heap.size w (w.alloc (.cells #[.int .i64 p.1, .int .i64 p.2] 52)) from ((Below.refl _ _).alloc (by simp) _))
  go_enter Try.func15, Try.ntmps15
  go_wp2_with fail
  refine (szPs a n c 1048576 _ (unhide HM) (by omega) (by omega)).mono ?_
  rintro e w1 ⟨hb, ⟨rfl, hl⟩ | ⟨rfl, hl⟩⟩
  · go_wp2_with fail
    go_ret
    exact ⟨rfl, below_on (unhide B0) hb⟩
  · have d0 : decide ((1048576 : Int) - (n : Int) < 0) = false := decide_eq_false (by omega)
    have n1 : n ≤ 1048576 := by omega
    have CS := hide (fun (a' : Option Addr) (w' : World) (k : ArP w' a' n n l) => MovePtsS a' n n l p w' k n1)
    have CI := hide (fun (a' : Option Addr) (w' : World) (k : ArP w' a' n n l) => MovePtsI a' n n l p w' k n1)
    generalize mvV l p = L0 at CS CI
    generalize mvB l p = ok at CS CI
    have x0 : (ok != ok) = false := by simp
    have szw1 := hb.size
    have szw0 := (unhide B0).size
    replace HS := hide ((unhide HS).later (below_on (unhide B0) hb))
    have k0_0 : w1.cell? ⟨w.heap.size, 0, none⟩ = some (.int .i64 p.1) := cell_later hb (by simp [go_sem])
    have k0_1 : w1.cell? ⟨w.heap.size, 1, none⟩ = some (.int .i64 p.2) := cell_later hb (by simp [go_sem])
    have HB := hide (below_on (unhide B0) hb)
    clear hb
    clear hl
    have ltb0 : w.heap.size < w1.heap.size := World.block_lt_of_cell? _ _ k0_0
    go_upto_region 5 with fail
    go_region_held3 (fun w' => w'.cell? ⟨w.heap.size, 0, none⟩ = some (.int .i64 p.1) ∧ w'.cell? ⟨w.heap.size, 1, none⟩ = some (.int .i64 p.2)) (with_reducible (first | exact ⟨k0_0, k0_1⟩ | exact ⟨cdP k0_0, cdP k0_1⟩ | fail))
      (first
      | (go_at_call 49; refine (toPs a n c l _ ((unhide HS).later (Below.refl _ _).drew).sl (unhide HN) n1).mono ?_; rintro e w2a ⟨rfl, hb, ow⟩; have hbx : Below w1.heap.size w1 w2a := below_of_drew hb; have szw2a := hbx.size; replace k0_0 := cell_later hbx k0_0; replace k0_1 := cell_later hbx k0_1; replace HS := hide ((unhide HS).later hbx); have O1 := hide (ow); have HBr := hide hbx; clear hbx hb ow)
      | (go_at_call_of 47 (Value.agg #[Value.int IntKind.i64 p.1, Value.int IntKind.i64 p.2]); refine (toP p.1 p.2 _).mono ?_; rintro e w2p ⟨rfl, hb⟩; have hbx : Below w2a.heap.size w2a w2p := hb; have szw2p := hbx.size; replace k0_0 := cell_later hbx k0_0; replace k0_1 := cell_later hbx k0_1; replace HS := hide ((unhide HS).later hbx); replace O1 := hide ((unhide O1).later hbx); have HBr := hide (below_on (unhide HBr) hbx); clear hbx hb)
      | (go_at_call 30; refine (unhide CS _ _ (unhide O1).arg).mono ?_; rintro e w2 ⟨a0, m0, c0, rfl, hb, sw, lm⟩; have hbx : Below w2p.heap.size w2p w2 := hb; have szw2 := hbx.size; replace k0_0 := cell_later hbx k0_0; replace k0_1 := cell_later hbx k0_1; replace HS := hide ((unhide HS).later hbx); replace O1 := hide ((unhide O1).later hbx); have LN := hide sw.len; have S0 := hide (sw.sl.below8); have HBr := hide (below_on (unhide HBr) hbx); clear hbx hb sw))
    replace HB := hide (below_on (unhide HB) (unhide HBr))
    clear HBr
    all_goals skip

    clear O1
    have b2 : w.heap.size ≤ w2.heap.size := (unhide HB).size
    go_wp2_with fail
    refine (toPs a n c l _ ((unhide HS)).sl (unhide HN) n1).mono ?_
    rintro e w4 ⟨rfl, hb, ow⟩
    have szw4 := hb.size
    have lt2 := ow.lt
    replace k0_0 := cell_later hb k0_0
    replace k0_1 := cell_later hb k0_1
    replace HS := hide ((unhide HS).later hb)
    replace S0 := hide ((unhide S0).later hb)
    have O2 := hide (ow)
    replace HB := hide (below_on (unhide HB) hb)
    clear hb
    clear ow
    go_wp2_with fail
    refine (toP p.1 p.2 _).mono ?_
    rintro e w5p ⟨rfl, hb⟩
    have szw5p := hb.size
    replace k0_0 := cell_later hb k0_0
    replace k0_1 := cell_later hb k0_1
    replace HS := hide ((unhide HS).later hb)
    replace S0 := hide ((unhide S0).later hb)
    replace O2 := hide ((unhide O2).later hb)
    replace HB := hide (below_on (unhide HB) hb)
    clear hb
    go_wp2_with fail
    refine (unhide CI _ _ (unhide O2).arg).mono ?_
    rintro e w6 ⟨a1, m1, c1, rfl, hb, rt, lm1⟩
    have szw6 := hb.size
    obtain rfl : m1 = m0 := rt.len.symm.trans (unhide LN)
    replace k0_0 := cell_later hb k0_0
    replace k0_1 := cell_later hb k0_1
    replace HS := hide ((unhide HS).later hb)
    replace S0 := hide ((unhide S0).later hb)
    replace O2 := hide ((unhide O2).later hb)
    have R1 := hide (rt)
    replace HB := hide (below_on (unhide HB) hb)
    clear hb
    clear rt lm1
    go_wp2_with fail
    refine (eqPs a1 a0 m1 c1 c0 L0 _ (unhide R1).sl (unhide S0).sl (unhide LN) (by unfold maxLen; omega)).mono ?_
    rintro e w7 ⟨rfl, hb⟩
    have szw7 := hb.size
    replace k0_0 := cell_later hb k0_0
    replace k0_1 := cell_later hb k0_1
    replace HS := hide ((unhide HS).later hb)
    replace S0 := hide ((unhide S0).later hb)
    replace O2 := hide ((unhide O2).later hb)
    replace R1 := hide ((unhide R1).later hb)
    replace HB := hide (below_on (unhide HB) hb)
    clear hb
    go_wp2_with fail
    refine (toPs a n c l _ ((unhide HS)).sl (unhide HN) n1).mono ?_
    rintro e w8 ⟨rfl, hb, ow⟩
    have szw8 := hb.size
    replace k0_0 := cell_later hb k0_0
    replace k0_1 := cell_later hb k0_1
    replace HS := hide ((unhide HS).later hb)
    replace S0 := hide ((unhide S0).later hb)
    replace O2 := hide ((unhide O2).later hb)
    replace R1 := hide ((unhide R1).later hb)
    have O3 := hide (ow)
    replace HB := hide (below_on (unhide HB) hb)
    clear hb
    clear ow
    go_wp2_with fail
    refine (eqPs _ _ n n n l _ (unhide O2).arg.sl (unhide O3).arg.sl (unhide HN) (unhide HM)).mono ?_
    rintro e w9 ⟨rfl, hb⟩
    have szw9 := hb.size
    replace k0_0 := cell_later hb k0_0
    replace k0_1 := cell_later hb k0_1
    replace HS := hide ((unhide HS).later hb)
    replace S0 := hide ((unhide S0).later hb)
    replace O2 := hide ((unhide O2).later hb)
    replace R1 := hide ((unhide R1).later hb)
    replace O3 := hide ((unhide O3).later hb)
    replace HB := hide (below_on (unhide HB) hb)
    clear hb
    clear O3
    go_wp2_with fail
    refine (markPs w2.heap.size n n 1 l _ (unhide O2) n1 (by omega) (by omega)).mono ?_
    rintro e w10 ⟨rfl, hb, ow⟩
    replace k0_0 := hb.cell k0_0 (.inl (show w.heap.size < w2.heap.size by omega))
    replace k0_1 := hb.cell k0_1 (.inl (show w.heap.size < w2.heap.size by omega))
    replace HS := hide ((unhide HS).keep hb (by omega))
    replace S0 := hide ((unhide S0).keep hb (by omega))
    replace R1 := hide ((unhide R1).keep hb (by omega))
    replace HB := hide (hb.below (unhide HB) (by omega) (by omega))
    have szw10 := hb.size
    clear hb ow O2
    have d1 : decide ((1 : Int) + 2 * (n : Int) < 0) = false := decide_eq_false (by omega)
    go_wp2_with fail
    refine (eqPs a1 a0 m1 c1 c0 L0 _ (unhide R1).sl (unhide S0).sl (unhide LN) (by unfold maxLen; omega)).mono ?_
    rintro e w11 ⟨rfl, hb⟩
    have szw11 := hb.size
    replace k0_0 := cell_later hb k0_0
    replace k0_1 := cell_later hb k0_1
    replace HS := hide ((unhide HS).later hb)
    replace S0 := hide ((unhide S0).later hb)
    replace R1 := hide ((unhide R1).later hb)
    replace HB := hide (below_on (unhide HB) hb)
    clear hb
    clear d1
    go_wp2_with fail
    refine (markRt w5p.heap.size a1 m1 c1 1 L0 _ (unhide R1) (by omega) (by omega) (by omega) (by omega)).mono ?_
    rintro e w12 ⟨rfl, hb, rt⟩
    replace k0_0 := (below_but8 hb (Nat.le_refl _)).cell k0_0 (.inl (show w.heap.size < w5p.heap.size by omega))
    replace k0_1 := (below_but8 hb (Nat.le_refl _)).cell k0_1 (.inl (show w.heap.size < w5p.heap.size by omega))
    replace HS := hide ((unhide HS).keep (below_but8 hb (Nat.le_refl _)) (by omega))
    replace S0 := hide ((unhide S0).keep (below_but8 hb (Nat.le_refl _)) (by omega))
    replace R1 := hide rt
    replace HB := hide ((unhide HB).trans (hb.mono (by omega)))
    have szw12 := hb.size
    clear hb rt
    have d2 : decide ((1 : Int) + 2 * (m1 : Int) < 0) = false := decide_eq_false (by omega)
    have d3 : ((1 : Int) + 2 * (m1 : Int) != 1 + 2 * (m1 : Int)) = false := by simp
    go_wp2_with fail
    refine (heldPs a1 m1 c1 1 _ (unhide R1).sl (by omega) (by omega) (by omega)).mono ?_
    rintro e w13 ⟨rfl, hb⟩
    replace k0_0 := cell_later hb k0_0
    replace k0_1 := cell_later hb k0_1
    replace HS := hide ((unhide HS).later hb)
    replace S0 := hide ((unhide S0).later hb)
    replace R1 := hide ((unhide R1).later hb)
    replace HB := hide (below_on (unhide HB) hb)
    clear hb
    go_upto_region 24 with fail
    go_region_held3 (fun w' => w'.cell? ⟨w.heap.size, 0, none⟩ = some (.int .i64 p.1) ∧ w'.cell? ⟨w.heap.size, 1, none⟩ = some (.int .i64 p.2)) (with_reducible (first | exact ⟨k0_0, k0_1⟩ | exact ⟨cdP k0_0, cdP k0_1⟩ | fail))
      (first
      | (go_at_call 49; refine (toPs a n c l _ ((unhide HS).later (Below.refl _ _).drew).sl (unhide HN) n1).mono ?_; rintro e w14a ⟨rfl, hb, ow⟩; have hbx : Below w13.heap.size w13 w14a := below_of_drew hb; have szw14a := hbx.size; replace k0_0 := cell_later hbx k0_0; replace k0_1 := cell_later hbx k0_1; replace HS := hide ((unhide HS).later hbx); replace S0 := hide ((unhide S0).later hbx); replace R1 := hide ((unhide R1).later hbx); have O4 := hide (ow); have HBr := hide hbx; clear hbx hb ow)
      | (go_at_call_of 47 (Value.agg #[Value.int IntKind.i64 p.1, Value.int IntKind.i64 p.2]); refine (toP p.1 p.2 _).mono ?_; rintro e w14p ⟨rfl, hb⟩; have hbx : Below w14a.heap.size w14a w14p := hb; have szw14p := hbx.size; replace k0_0 := cell_later hbx k0_0; replace k0_1 := cell_later hbx k0_1; replace HS := hide ((unhide HS).later hbx); replace S0 := hide ((unhide S0).later hbx); replace R1 := hide ((unhide R1).later hbx); replace O4 := hide ((unhide O4).later hbx); have HBr := hide (below_on (unhide HBr) hbx); clear hbx hb)
      | (go_at_call 29; refine (unhide CI _ _ (unhide O4).arg).mono ?_; rintro e w14 ⟨a2, m2, c2, rfl, hb, rt, lm2⟩; have hbx : Below w14p.heap.size w14p w14 := hb; have szw14 := hbx.size; replace k0_0 := cell_later hbx k0_0; replace k0_1 := cell_later hbx k0_1; replace HS := hide ((unhide HS).later hbx); replace S0 := hide ((unhide S0).later hbx); replace R1 := hide ((unhide R1).later hbx); replace O4 := hide ((unhide O4).later hbx); obtain rfl : m2 = m1 := rt.len.symm.trans (unhide LN); have R2 := hide (rt); have HBr := hide (below_on (unhide HBr) hbx); clear hbx hb rt lm2))
    replace HB := hide (below_on (unhide HB) (unhide HBr))
    clear HBr
    all_goals skip
    clear O4
    go_wp2_with fail
    refine (eqPs a2 a0 m2 c2 c0 L0 _ (unhide R2).sl (unhide S0).sl (unhide LN) (by unfold maxLen; omega)).mono ?_
    rintro e w15 ⟨rfl, hb⟩
    clear k0_0 k0_1
    replace HS := hide ((unhide HS).later hb)
    replace S0 := hide ((unhide S0).later hb)
    replace R1 := hide ((unhide R1).later hb)
    replace R2 := hide ((unhide R2).later hb)
    replace HB := hide (below_on (unhide HB) hb)
    clear hb
    go_wp2_with fail
    refine (heldPs a1 m2 c1 1 _ (unhide R1).sl (by omega) (by omega) (by omega)).mono ?_
    rintro e w16 ⟨rfl, hb⟩
    replace HS := hide ((unhide HS).later hb)
    replace S0 := hide ((unhide S0).later hb)
    replace R1 := hide ((unhide R1).later hb)
    replace R2 := hide ((unhide R2).later hb)
    replace HB := hide (below_on (unhide HB) hb)
    clear hb
    go_wp2_with fail
    go_ret
    exact ⟨rfl, unhide HB⟩
end Go.Proofs.Ytpchoiaombigjaa
