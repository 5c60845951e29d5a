/- The walk through the law FnExactSees: it returns true. No condition beyond those typed. Written by mkwlaw.py. -/
import Derived.Test.YtblhjeepelgdaaaSe11
namespace Go.Proofs.Ytblhjeepelgdaaa
open Go.RowKit
set_option linter.unusedVariables false
set_option maxRecDepth 100000
set_option linter.unusedSimpArgs false

set_option maxHeartbeats 8000000 in
theorem lawSees_walk (a : Option Addr) (n c : Nat) (l : List (Int × Int)) (x0 : Int) (t1 : Int × Int × Int) (w : World) (h : SlP w a l) (hn : l.length = n) (hm : n ≤ maxLen) (zx0 : -9223372036854775808 ≤ x0 ∧ x0 ≤ 9223372036854775807) :
    Calls Try.prog 9 #[.slice a n c, .int .i64 x0, .agg #[.int .i64 t1.1, .int .i64 t1.2.1, .int .i64 t1.2.2]] w fun e w' => e = .returned (.bool true) ∧ Below w.heap.size w w' := by
  have HS := hide h.below8
  have HN := hide hn
  have HM := hide hm
  clear h hn hm
  have B0 := hide (show Below w.heap.size w (w.alloc (.cells #[.int .i64 t1.1, .int .i64 t1.2.1, .int .i64 t1.2.2] 53)) from ((Below.refl _ _).alloc (by simp) _))
  go_enter Try.func9, Try.ntmps9
  go_wp2_with fail
  refine (szPs a n c 1048576 _ (unhide HM) (by omega) (by omega)).mono ?_
  rintro e w1 ⟨hb, ⟨rfl, hl⟩ | ⟨rfl, hl⟩⟩
  · go_wp2_with fail
    go_ret
    exact ⟨rfl, below_on (unhide B0) hb⟩
  · have d0 : decide ((1048576 : Int) - (n : Int) < 0) = false := decide_eq_false (by omega)
    have n1 : n ≤ 1048576 := by omega
    have CS := hide (fun (a' : Option Addr) (w' : World) (k : ArP w' a' n n l) => SeesS a' n n l x0 t1 w' k n1)
    have CI := hide (fun (a' : Option Addr) (w' : World) (k : ArP w' a' n n l) => SeesI a' n n l x0 t1 w' k n1)
    generalize seV l x0 t1 = v0 at CS CI
    have e0 : (v0 != v0) = false := by simp
    generalize seB l x0 t1 = v1 at CS CI
    have e1 : (v1 != v1) = false := by simp
    have szw1 := hb.size
    have szw0 := (unhide B0).size
    replace HS := hide ((unhide HS).later (below_on (unhide B0) hb))
    have k0_0 : w1.cell? ⟨w.heap.size, 0, none⟩ = some (.int .i64 t1.1) := cell_later hb (by simp [go_sem])
    have k0_1 : w1.cell? ⟨w.heap.size, 1, none⟩ = some (.int .i64 t1.2.1) := cell_later hb (by simp [go_sem])
    have k0_2 : w1.cell? ⟨w.heap.size, 2, none⟩ = some (.int .i64 t1.2.2) := cell_later hb (by simp [go_sem])
    have HB := hide (below_on (unhide B0) hb)
    clear hb
    clear hl
    have ltb0 : w.heap.size < w1.heap.size := World.block_lt_of_cell? _ _ k0_0
    go_upto_region 5 with fail
    go_region_held3 (fun w' => w'.cell? ⟨w.heap.size, 0, none⟩ = some (.int .i64 t1.1) ∧ w'.cell? ⟨w.heap.size, 1, none⟩ = some (.int .i64 t1.2.1) ∧ w'.cell? ⟨w.heap.size, 2, none⟩ = some (.int .i64 t1.2.2)) (with_reducible (first | exact ⟨k0_0, k0_1, k0_2⟩ | exact ⟨cdP k0_0, cdP k0_1, cdP k0_2⟩ | fail))
      (first
      | (go_at_call 24; refine (toPs a n c l _ ((unhide HS).later (Below.refl _ _).drew).sl (unhide HN) n1).mono ?_; rintro e w2a ⟨rfl, hb, ow⟩; have hbx : Below w1.heap.size w1 w2a := below_of_drew hb; have szw2a := hbx.size; replace k0_0 := cell_later hbx k0_0; replace k0_1 := cell_later hbx k0_1; replace k0_2 := cell_later hbx k0_2; replace HS := hide ((unhide HS).later hbx); have O1 := hide (ow); have HBr := hide hbx; clear hbx hb ow)
      | (go_at_call_of 39 (Value.agg #[Value.int IntKind.i64 t1.1, Value.int IntKind.i64 t1.2.1, Value.int IntKind.i64 t1.2.2]); refine (toT t1.1 t1.2.1 t1.2.2 _).mono ?_; rintro e w2t1 ⟨rfl, hb⟩; have hbx : Below w2a.heap.size w2a w2t1 := hb; have szw2t1 := hbx.size; replace k0_0 := cell_later hbx k0_0; replace k0_1 := cell_later hbx k0_1; replace k0_2 := cell_later hbx k0_2; replace HS := hide ((unhide HS).later hbx); replace O1 := hide ((unhide O1).later hbx); have HBr := hide (below_on (unhide HBr) hbx); clear hbx hb)
      | (go_at_call 21; refine (unhide CS _ _ (unhide O1).arg).mono ?_; rintro e w2 ⟨rfl, hb⟩; have hbx : Below w2t1.heap.size w2t1 w2 := hb; have szw2 := hbx.size; replace k0_0 := cell_later hbx k0_0; replace k0_1 := cell_later hbx k0_1; replace k0_2 := cell_later hbx k0_2; replace HS := hide ((unhide HS).later hbx); replace O1 := hide ((unhide O1).later hbx); have HBr := hide (below_on (unhide HBr) hbx); clear hbx hb))
    replace HB := hide (below_on (unhide HB) (unhide HBr))
    clear HBr
    all_goals skip

    clear O1
    have b2 : w.heap.size ≤ w2.heap.size := (unhide HB).size
    go_wp2_with fail
    refine (toPs a n c l _ ((unhide HS)).sl (unhide HN) n1).mono ?_
    rintro e w4 ⟨rfl, hb, ow⟩
    have szw4 := hb.size
    have lt2 := ow.lt
    replace k0_0 := cell_later hb k0_0
    replace k0_1 := cell_later hb k0_1
    replace k0_2 := cell_later hb k0_2
    replace HS := hide ((unhide HS).later hb)
    have O2 := hide (ow)
    replace HB := hide (below_on (unhide HB) hb)
    clear hb
    clear ow
    go_wp2_with fail
    refine (toT t1.1 t1.2.1 t1.2.2 _).mono ?_
    rintro e w5t1 ⟨rfl, hb⟩
    have szw5t1 := hb.size
    replace k0_0 := cell_later hb k0_0
    replace k0_1 := cell_later hb k0_1
    replace k0_2 := cell_later hb k0_2
    replace HS := hide ((unhide HS).later hb)
    replace O2 := hide ((unhide O2).later hb)
    replace HB := hide (below_on (unhide HB) hb)
    clear hb
    go_wp2_with fail
    refine (unhide CI _ _ (unhide O2).arg).mono ?_
    rintro e w6 ⟨rfl, hb⟩
    replace k0_0 := cell_later hb k0_0
    replace k0_1 := cell_later hb k0_1
    replace k0_2 := cell_later hb k0_2
    replace HS := hide ((unhide HS).later hb)
    replace O2 := hide ((unhide O2).later hb)
    replace HB := hide (below_on (unhide HB) hb)
    clear hb
    go_wp2_with fail
    refine (toPs a n c l _ ((unhide HS)).sl (unhide HN) n1).mono ?_
    rintro e w8 ⟨rfl, hb, ow⟩
    have szw8 := hb.size
    replace k0_0 := cell_later hb k0_0
    replace k0_1 := cell_later hb k0_1
    replace k0_2 := cell_later hb k0_2
    replace HS := hide ((unhide HS).later hb)
    replace O2 := hide ((unhide O2).later hb)
    have O3 := hide (ow)
    replace HB := hide (below_on (unhide HB) hb)
    clear hb
    clear ow
    go_wp2_with fail
    refine (eqPs _ _ n n n l _ (unhide O2).arg.sl (unhide O3).arg.sl (unhide HN) (unhide HM)).mono ?_
    rintro e w9 ⟨rfl, hb⟩
    have szw9 := hb.size
    replace k0_0 := cell_later hb k0_0
    replace k0_1 := cell_later hb k0_1
    replace k0_2 := cell_later hb k0_2
    replace HS := hide ((unhide HS).later hb)
    replace O2 := hide ((unhide O2).later hb)
    replace O3 := hide ((unhide O3).later hb)
    replace HB := hide (below_on (unhide HB) hb)
    clear hb
    clear O3
    go_wp2_with fail
    go_ret
    exact ⟨rfl, unhide HB⟩
end Go.Proofs.Ytblhjeepelgdaaa
