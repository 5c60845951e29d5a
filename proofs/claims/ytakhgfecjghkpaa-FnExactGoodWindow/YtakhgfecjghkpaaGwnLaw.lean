/- The walk through the law FnExactGoodWindow: it returns true. No condition beyond those typed. Written by mkin14.py. -/
import Derived.Test.YtakhgfecjghkpaaWn14
namespace Go.Proofs.Ytakhgfecjghkpaa
open Go.RowKit
set_option linter.unusedVariables false
set_option maxRecDepth 100000
set_option linter.unusedSimpArgs false

theorem lawGoodWindow_walk (a : Int × Int × Int × Int) (w : World) :
    Calls Try.prog 3 #[.agg #[.int .i64 a.1, .int .i64 a.2.1, .int .i64 a.2.2.1, .int .i64 a.2.2.2]] w fun e w' => e = .returned (.bool true) ∧ Below w.heap.size w w' := by
  have CS := hide (fun w => goodWS a.1 a.2.1 a.2.2.1 a.2.2.2 w)
  have CI := hide (fun w => goodWI a.1 a.2.1 a.2.2.1 a.2.2.2 w)
  generalize gW a.1 a.2.1 a.2.2.1 a.2.2.2 = v at *
  have x0 : (v != v) = false := by simp
  have B0 := hide (show Below w.heap.size w (w.alloc (.cells #[.int .i64 a.1, .int .i64 a.2.1, .int .i64 a.2.2.1, .int .i64 a.2.2.2] 23)) from ((Below.refl _ _).alloc (by simp) _))
  go_enter Try.func3, Try.ntmps3
  go_wp2_with fail
  refine (toW a.1 a.2.1 a.2.2.1 a.2.2.2 _).mono ?_
  rintro e w1 ⟨rfl, hb⟩
  have k0_0 : w1.cell? ⟨w.heap.size, 0, none⟩ = some (.int .i64 a.1) := cell_later hb (by simp [go_sem])
  have k0_1 : w1.cell? ⟨w.heap.size, 1, none⟩ = some (.int .i64 a.2.1) := cell_later hb (by simp [go_sem])
  have k0_2 : w1.cell? ⟨w.heap.size, 2, none⟩ = some (.int .i64 a.2.2.1) := cell_later hb (by simp [go_sem])
  have k0_3 : w1.cell? ⟨w.heap.size, 3, none⟩ = some (.int .i64 a.2.2.2) := cell_later hb (by simp [go_sem])
  have HB := hide (below_on (unhide B0) hb)
  clear hb
  go_wp2_with fail
  refine (unhide CS _).mono ?_
  rintro e w2 ⟨rfl, hb⟩
  replace k0_0 := cell_later hb k0_0
  replace k0_1 := cell_later hb k0_1
  replace k0_2 := cell_later hb k0_2
  replace k0_3 := cell_later hb k0_3
  replace HB := hide (below_on (unhide HB) hb)
  clear hb
  go_wp2_with fail
  refine (toW a.1 a.2.1 a.2.2.1 a.2.2.2 _).mono ?_
  rintro e w3 ⟨rfl, hb⟩
  clear k0_0 k0_1 k0_2 k0_3
  replace HB := hide (below_on (unhide HB) hb)
  clear hb
  go_wp2_with fail
  refine (unhide CI _).mono ?_
  rintro e w4 ⟨rfl, hb⟩
  replace HB := hide (below_on (unhide HB) hb)
  clear hb
  go_wp2_with fail
  go_ret
  exact ⟨rfl, unhide HB⟩
end Go.Proofs.Ytakhgfecjghkpaa
