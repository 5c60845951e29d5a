/- The walk through the law FnExactLessPt: it returns true. No condition. Written by mkptlaw.py. -/
import Derived.Test.YtgoiodhofbkkdaaLe10
namespace Go.Proofs.Ytgoiodhofbkkdaa
open Go.RowKit
set_option linter.unusedVariables false
set_option maxRecDepth 100000
set_option linter.unusedSimpArgs false

set_option maxHeartbeats 4000000 in
theorem lawLessPt_walk (a : Int × Int) (b : Int × Int) (w : World) :
    Calls Try.prog 9 #[.agg #[.int .i64 a.1, .int .i64 a.2], .agg #[.int .i64 b.1, .int .i64 b.2]] w fun e w' => e = .returned (.bool true) ∧ Below w.heap.size w w' := by
  have K0 : Hid (((w.alloc (.cells #[.int .i64 a.1, .int .i64 a.2] 52)).alloc (.cells #[.int .i64 b.1, .int .i64 b.2] 52)).cell? ⟨w.heap.size, 0, none⟩ = some (.int .i64 a.1) ∧ ((w.alloc (.cells #[.int .i64 a.1, .int .i64 a.2] 52)).alloc (.cells #[.int .i64 b.1, .int .i64 b.2] 52)).cell? ⟨w.heap.size, 1, none⟩ = some (.int .i64 a.2) ∧ ((w.alloc (.cells #[.int .i64 a.1, .int .i64 a.2] 52)).alloc (.cells #[.int .i64 b.1, .int .i64 b.2] 52)).cell? ⟨w.heap.size + 1, 0, none⟩ = some (.int .i64 b.1) ∧ ((w.alloc (.cells #[.int .i64 a.1, .int .i64 a.2] 52)).alloc (.cells #[.int .i64 b.1, .int .i64 b.2] 52)).cell? ⟨w.heap.size + 1, 1, none⟩ = some (.int .i64 b.2)) := hide (by simp [go_sem])
  have k0 := (unhide K0).1
  have k1 := (unhide K0).2.1
  have k2 := (unhide K0).2.2.1
  have k3 := (unhide K0).2.2.2
  have HB : Hid (Below w.heap.size w ((w.alloc (.cells #[.int .i64 a.1, .int .i64 a.2] 52)).alloc (.cells #[.int .i64 b.1, .int .i64 b.2] 52))) := hide (((Below.refl _ _).alloc (Nat.le_refl _) _).alloc (by simp) _)
  clear K0
  go_enter Try.func9, Try.ntmps9
  go_upto_region 1 with fail
  go_region_held3 (fun w' => w'.cell? ⟨w.heap.size, 0, none⟩ = some (.int .i64 a.1) ∧ w'.cell? ⟨w.heap.size, 1, none⟩ = some (.int .i64 a.2) ∧ w'.cell? ⟨w.heap.size + 1, 0, none⟩ = some (.int .i64 b.1) ∧ w'.cell? ⟨w.heap.size + 1, 1, none⟩ = some (.int .i64 b.2))
    (with_reducible (first | exact ⟨k0, k1, k2, k3⟩ | exact ⟨cdP k0, cdP k1, cdP k2, cdP k3⟩ | fail))
    (first
    | (go_at_call_of 42 (Value.agg #[Value.int IntKind.i64 a.1, Value.int IntKind.i64 a.2]); refine (toP a.1 a.2 _).mono ?_; rintro e w1 ⟨rfl, hb1⟩; have hbx := below_of_drew hb1; replace k0 := cell_later hbx k0; replace k1 := cell_later hbx k1; replace k2 := cell_later hbx k2; replace k3 := cell_later hbx k3; replace HB := hide (below_on (unhide HB) hbx); clear hb1 hbx)
    | (go_at_call_of 42 (Value.agg #[Value.int IntKind.i64 b.1, Value.int IntKind.i64 b.2]); refine (toP b.1 b.2 _).mono ?_; rintro e w2 ⟨rfl, hb1⟩; have hbx := hb1; replace k0 := cell_later hbx k0; replace k1 := cell_later hbx k1; replace k2 := cell_later hbx k2; replace k3 := cell_later hbx k3; replace HB := hide (below_on (unhide HB) hbx); clear hb1 hbx)
    | (go_at_call 36; refine (LessPtS a b _).mono ?_; rintro e w3 ⟨rfl, hb1⟩; have hbx := hb1; replace k0 := cell_later hbx k0; replace k1 := cell_later hbx k1; replace k2 := cell_later hbx k2; replace k3 := cell_later hbx k3; replace HB := hide (below_on (unhide HB) hbx); clear hb1 hbx)
    | fail)
  go_upto_region 2 with fail
  go_region_held3 (fun w' => w'.cell? ⟨w.heap.size, 0, none⟩ = some (.int .i64 a.1) ∧ w'.cell? ⟨w.heap.size, 1, none⟩ = some (.int .i64 a.2) ∧ w'.cell? ⟨w.heap.size + 1, 0, none⟩ = some (.int .i64 b.1) ∧ w'.cell? ⟨w.heap.size + 1, 1, none⟩ = some (.int .i64 b.2))
    (with_reducible (first | exact ⟨k0, k1, k2, k3⟩ | exact ⟨cdP k0, cdP k1, cdP k2, cdP k3⟩ | fail))
    (first
    | (go_at_call_of 42 (Value.agg #[Value.int IntKind.i64 a.1, Value.int IntKind.i64 a.2]); refine (toP a.1 a.2 _).mono ?_; rintro e w11 ⟨rfl, hb1⟩; have hbx := below_of_drew hb1; replace k0 := cell_later hbx k0; replace k1 := cell_later hbx k1; replace k2 := cell_later hbx k2; replace k3 := cell_later hbx k3; replace HB := hide (below_on (unhide HB) hbx); clear hb1 hbx)
    | (go_at_call_of 42 (Value.agg #[Value.int IntKind.i64 b.1, Value.int IntKind.i64 b.2]); refine (toP b.1 b.2 _).mono ?_; rintro e w12 ⟨rfl, hb1⟩; have hbx := hb1; replace k0 := cell_later hbx k0; replace k1 := cell_later hbx k1; replace k2 := cell_later hbx k2; replace k3 := cell_later hbx k3; replace HB := hide (below_on (unhide HB) hbx); clear hb1 hbx)
    | (go_at_call 35; refine (LessPtI a b _).mono ?_; rintro e w13 ⟨rfl, hb1⟩; have hbx := hb1; replace k0 := cell_later hbx k0; replace k1 := cell_later hbx k1; replace k2 := cell_later hbx k2; replace k3 := cell_later hbx k3; replace HB := hide (below_on (unhide HB) hbx); clear hb1 hbx)
    | fail)
  clear k0 k1 k2 k3
  generalize leV a b = v0
  have x0 : (v0 != v0) = false := by simp
  generalize leB a b = v1
  have x1 : (v1 != v1) = false := by simp
  go_wp2_with fail
  go_ret
  exact ⟨rfl, unhide HB⟩
end Go.Proofs.Ytgoiodhofbkkdaa
