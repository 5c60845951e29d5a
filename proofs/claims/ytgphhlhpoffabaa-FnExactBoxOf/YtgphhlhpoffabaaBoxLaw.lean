/- The walk through the law FnExactBoxOf: it returns true. No condition beyond those typed. Written by mkbxlaw.py. -/
import Derived.Test.YtgphhlhpoffabaaBox9
import Derived.Test.YtgphhlhpoffabaaIb9
namespace Go.Proofs.Ytgphhlhpoffabaa
open Go.RowKit
set_option linter.unusedVariables false
set_option maxRecDepth 100000
set_option linter.unusedSimpArgs false

set_option maxHeartbeats 8000000 in
theorem lawBoxOf_walk (a : Option Addr) (n c : Nat) (l : List (Int × Int)) (w : World) (h : SlP w a l) (hn : l.length = n) (hm : n ≤ maxLen) :
    Calls Try.prog 10 #[.slice a n c] w fun e w' => e = .returned (.bool true) ∧ Below w.heap.size w w' := by
  have HS := hide h.below8
  have HN := hide hn
  have HM := hide hm
  clear h hn hm
  go_enter Try.func10, Try.ntmps10
  go_wp2_with fail
  refine (szPs a n c 1048576 _ (unhide HM) (by omega) (by omega)).mono ?_
  rintro e w1 ⟨hb, ⟨rfl, hl⟩ | ⟨rfl, hl⟩⟩
  · go_wp2_with fail
    go_ret
    exact ⟨rfl, hb⟩
  · have d0 : decide ((1048576 : Int) - (n : Int) < 0) = false := decide_eq_false (by omega)
    have n1 : n ≤ 1048576 := by omega
    have CS := hide (fun (a' : Option Addr) (w' : World) (k : ArP w' a' n n l) => BoxOfS a' n n l w' k n1)
    have CI := hide (fun (a' : Option Addr) (w' : World) (k : ArP w' a' n n l) => BoxOfI a' n n l w' k n1)
    generalize bxL l = u at CS CI
    generalize bxH l = v at CS CI
    generalize wayB l = ok at CS CI
    have x0 : (ok != ok) = false := by simp
    replace HS := hide ((unhide HS).later hb)
    have HB := hide (hb)
    clear hb
    clear hl
    go_wp2_with fail
    refine (toPs a n c l _ (unhide HS).sl (unhide HN) n1).mono ?_
    rintro e w2 ⟨rfl, hb, ow⟩
    replace HS := hide ((unhide HS).later hb)
    have O1 := hide (ow)
    replace HB := hide (below_on (unhide HB) hb)
    clear hb
    clear ow
    go_wp2_with fail
    refine (unhide CS _ _ (unhide O1).arg).mono ?_
    rintro e w3 ⟨rfl, hb⟩
    replace HS := hide ((unhide HS).later hb)
    replace O1 := hide ((unhide O1).later hb)
    replace HB := hide (below_on (unhide HB) hb)
    clear hb
    clear O1
    go_wp2_with fail
    refine (toPs a n c l _ ((unhide HS).later (((Below.refl _ _).alloc (by simp) _).alloc (by simp) _)).sl (unhide HN) n1).mono ?_
    rintro e w4 ⟨rfl, hb, ow⟩
    have ez : ((w3.alloc (.cells #[.int .i64 u.1, .int .i64 u.2] 25)).alloc (.cells #[.int .i64 v.1, .int .i64 v.2] 25)).heap.size = w3.heap.size + 1 + 1 := by simp
    rw [ez] at ow
    clear ez
    have hbx := ba (ba (hb))
    have k0_0 : w4.cell? ⟨w3.heap.size, 0, none⟩ = some (.int .i64 u.1) := cell_later hb (by simp [go_sem])
    have k0_1 : w4.cell? ⟨w3.heap.size, 1, none⟩ = some (.int .i64 u.2) := cell_later hb (by simp [go_sem])
    have k1_0 : w4.cell? ⟨w3.heap.size + 1, 0, none⟩ = some (.int .i64 v.1) := cell_later hb (by simp [go_sem])
    have k1_1 : w4.cell? ⟨w3.heap.size + 1, 1, none⟩ = some (.int .i64 v.2) := cell_later hb (by simp [go_sem])
    replace HS := hide ((unhide HS).later hbx)
    have O2 := hide (ow)
    replace HB := hide (below_on (unhide HB) hbx)
    clear hbx hb
    clear ow
    go_wp2_with fail
    refine (unhide CI _ _ (unhide O2).arg).mono ?_
    rintro e w5 ⟨rfl, hb⟩
    replace k0_0 := cell_later hb k0_0
    replace k0_1 := cell_later hb k0_1
    replace k1_0 := cell_later hb k1_0
    replace k1_1 := cell_later hb k1_1
    replace HS := hide ((unhide HS).later hb)
    replace O2 := hide ((unhide O2).later hb)
    replace HB := hide (below_on (unhide HB) hb)
    clear hb
    have k0_0u : ((w5.alloc (.cells #[.int .i64 u.1, .int .i64 u.2] 25)).alloc (.cells #[.int .i64 v.1, .int .i64 v.2] 25)).cell? ⟨w3.heap.size, 0, none⟩ = some (.int .i64 u.1) := (ca_other (ca_other k0_0))
    have k0_1u : ((w5.alloc (.cells #[.int .i64 u.1, .int .i64 u.2] 25)).alloc (.cells #[.int .i64 v.1, .int .i64 v.2] 25)).cell? ⟨w3.heap.size, 1, none⟩ = some (.int .i64 u.2) := (ca_other (ca_other k0_1))
    have k1_0u : ((w5.alloc (.cells #[.int .i64 u.1, .int .i64 u.2] 25)).alloc (.cells #[.int .i64 v.1, .int .i64 v.2] 25)).cell? ⟨w3.heap.size + 1, 0, none⟩ = some (.int .i64 v.1) := (ca_other (ca_other k1_0))
    have k1_1u : ((w5.alloc (.cells #[.int .i64 u.1, .int .i64 u.2] 25)).alloc (.cells #[.int .i64 v.1, .int .i64 v.2] 25)).cell? ⟨w3.heap.size + 1, 1, none⟩ = some (.int .i64 v.2) := (ca_other (ca_other k1_1))
    go_wp2_with fail
    refine (eqP u.1 u.2 _).mono ?_
    rintro e w6 ⟨rfl, hb⟩
    clear k0_0u k0_1u k1_0u k1_1u
    have hbx := ba (ba (hb))
    replace k0_0 := cell_later hbx k0_0
    replace k0_1 := cell_later hbx k0_1
    replace k1_0 := cell_later hbx k1_0
    replace k1_1 := cell_later hbx k1_1
    have k2_0 : w6.cell? ⟨w5.heap.size, 0, none⟩ = some (.int .i64 u.1) := cell_later hb (by simp [go_sem])
    have k2_1 : w6.cell? ⟨w5.heap.size, 1, none⟩ = some (.int .i64 u.2) := cell_later hb (by simp [go_sem])
    have k3_0 : w6.cell? ⟨w5.heap.size + 1, 0, none⟩ = some (.int .i64 v.1) := cell_later hb (by simp [go_sem])
    have k3_1 : w6.cell? ⟨w5.heap.size + 1, 1, none⟩ = some (.int .i64 v.2) := cell_later hb (by simp [go_sem])
    replace HS := hide ((unhide HS).later hbx)
    replace O2 := hide ((unhide O2).later hbx)
    replace HB := hide (below_on (unhide HB) hbx)
    clear hbx hb
    go_wp2_with fail
    refine (eqP v.1 v.2 _).mono ?_
    rintro e w7 ⟨rfl, hb⟩
    clear k0_0 k0_1 k1_0 k1_1 k2_0 k2_1 k3_0 k3_1
    replace HS := hide ((unhide HS).later hb)
    replace O2 := hide ((unhide O2).later hb)
    replace HB := hide (below_on (unhide HB) hb)
    clear hb
    go_wp2_with fail
    refine (toPs a n c l _ (unhide HS).sl (unhide HN) n1).mono ?_
    rintro e w8 ⟨rfl, hb, ow⟩
    replace HS := hide ((unhide HS).later hb)
    replace O2 := hide ((unhide O2).later hb)
    have O3 := hide (ow)
    replace HB := hide (below_on (unhide HB) hb)
    clear hb
    clear ow
    go_wp2_with fail
    refine (eqPs _ _ n n n l _ (unhide O2).arg.sl (unhide O3).arg.sl (unhide HN) (unhide HM)).mono ?_
    rintro e w9 ⟨rfl, hb⟩
    replace HS := hide ((unhide HS).later hb)
    replace O2 := hide ((unhide O2).later hb)
    replace O3 := hide ((unhide O3).later hb)
    replace HB := hide (below_on (unhide HB) hb)
    clear hb
    go_wp2_with fail
    go_ret
    exact ⟨rfl, unhide HB⟩
end Go.Proofs.Ytgphhlhpoffabaa
