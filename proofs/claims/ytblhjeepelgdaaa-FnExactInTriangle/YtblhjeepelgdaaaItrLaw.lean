/- The walk through the law FnExactInTriangle: it returns true. No condition. Written by mkptlaw.py. -/
import Derived.Test.YtblhjeepelgdaaaIm11
namespace Go.Proofs.Ytblhjeepelgdaaa
open Go.RowKit
set_option linter.unusedVariables false
set_option maxRecDepth 100000
set_option linter.unusedSimpArgs false

set_option maxHeartbeats 4000000 in
theorem lawInTriangle_walk (a : Int × Int) (b : Int × Int) (c : Int × Int) (d : Int × Int) (w : World) :
    Calls Try.prog 10 #[.agg #[.int .i64 a.1, .int .i64 a.2], .agg #[.int .i64 b.1, .int .i64 b.2], .agg #[.int .i64 c.1, .int .i64 c.2], .agg #[.int .i64 d.1, .int .i64 d.2]] w fun e w' => e = .returned (.bool true) ∧ Below w.heap.size w w' := by
  have K0 : Hid (((((w.alloc (.cells #[.int .i64 a.1, .int .i64 a.2] 57)).alloc (.cells #[.int .i64 b.1, .int .i64 b.2] 57)).alloc (.cells #[.int .i64 c.1, .int .i64 c.2] 57)).alloc (.cells #[.int .i64 d.1, .int .i64 d.2] 57)).cell? ⟨w.heap.size, 0, none⟩ = some (.int .i64 a.1) ∧ ((((w.alloc (.cells #[.int .i64 a.1, .int .i64 a.2] 57)).alloc (.cells #[.int .i64 b.1, .int .i64 b.2] 57)).alloc (.cells #[.int .i64 c.1, .int .i64 c.2] 57)).alloc (.cells #[.int .i64 d.1, .int .i64 d.2] 57)).cell? ⟨w.heap.size, 1, none⟩ = some (.int .i64 a.2) ∧ ((((w.alloc (.cells #[.int .i64 a.1, .int .i64 a.2] 57)).alloc (.cells #[.int .i64 b.1, .int .i64 b.2] 57)).alloc (.cells #[.int .i64 c.1, .int .i64 c.2] 57)).alloc (.cells #[.int .i64 d.1, .int .i64 d.2] 57)).cell? ⟨w.heap.size + 1, 0, none⟩ = some (.int .i64 b.1) ∧ ((((w.alloc (.cells #[.int .i64 a.1, .int .i64 a.2] 57)).alloc (.cells #[.int .i64 b.1, .int .i64 b.2] 57)).alloc (.cells #[.int .i64 c.1, .int .i64 c.2] 57)).alloc (.cells #[.int .i64 d.1, .int .i64 d.2] 57)).cell? ⟨w.heap.size + 1, 1, none⟩ = some (.int .i64 b.2) ∧ ((((w.alloc (.cells #[.int .i64 a.1, .int .i64 a.2] 57)).alloc (.cells #[.int .i64 b.1, .int .i64 b.2] 57)).alloc (.cells #[.int .i64 c.1, .int .i64 c.2] 57)).alloc (.cells #[.int .i64 d.1, .int .i64 d.2] 57)).cell? ⟨w.heap.size + 1 + 1, 0, none⟩ = some (.int .i64 c.1) ∧ ((((w.alloc (.cells #[.int .i64 a.1, .int .i64 a.2] 57)).alloc (.cells #[.int .i64 b.1, .int .i64 b.2] 57)).alloc (.cells #[.int .i64 c.1, .int .i64 c.2] 57)).alloc (.cells #[.int .i64 d.1, .int .i64 d.2] 57)).cell? ⟨w.heap.size + 1 + 1, 1, none⟩ = some (.int .i64 c.2) ∧ ((((w.alloc (.cells #[.int .i64 a.1, .int .i64 a.2] 57)).alloc (.cells #[.int .i64 b.1, .int .i64 b.2] 57)).alloc (.cells #[.int .i64 c.1, .int .i64 c.2] 57)).alloc (.cells #[.int .i64 d.1, .int .i64 d.2] 57)).cell? ⟨w.heap.size + 1 + 1 + 1, 0, none⟩ = some (.int .i64 d.1) ∧ ((((w.alloc (.cells #[.int .i64 a.1, .int .i64 a.2] 57)).alloc (.cells #[.int .i64 b.1, .int .i64 b.2] 57)).alloc (.cells #[.int .i64 c.1, .int .i64 c.2] 57)).alloc (.cells #[.int .i64 d.1, .int .i64 d.2] 57)).cell? ⟨w.heap.size + 1 + 1 + 1, 1, none⟩ = some (.int .i64 d.2)) := hide (by simp [go_sem])
  have k0 := (unhide K0).1
  have k1 := (unhide K0).2.1
  have k2 := (unhide K0).2.2.1
  have k3 := (unhide K0).2.2.2.1
  have k4 := (unhide K0).2.2.2.2.1
  have k5 := (unhide K0).2.2.2.2.2.1
  have k6 := (unhide K0).2.2.2.2.2.2.1
  have k7 := (unhide K0).2.2.2.2.2.2.2
  have HB : Hid (Below w.heap.size w ((((w.alloc (.cells #[.int .i64 a.1, .int .i64 a.2] 57)).alloc (.cells #[.int .i64 b.1, .int .i64 b.2] 57)).alloc (.cells #[.int .i64 c.1, .int .i64 c.2] 57)).alloc (.cells #[.int .i64 d.1, .int .i64 d.2] 57))) := hide (((((Below.refl _ _).alloc (Nat.le_refl _) _).alloc (by simp) _).alloc (by simp; omega) _).alloc (by simp; omega) _)
  clear K0
  go_enter Try.func10, Try.ntmps10
  go_upto_region 1 with fail
  go_region_held3 (fun w' => w'.cell? ⟨w.heap.size, 0, none⟩ = some (.int .i64 a.1) ∧ w'.cell? ⟨w.heap.size, 1, none⟩ = some (.int .i64 a.2) ∧ w'.cell? ⟨w.heap.size + 1, 0, none⟩ = some (.int .i64 b.1) ∧ w'.cell? ⟨w.heap.size + 1, 1, none⟩ = some (.int .i64 b.2) ∧ w'.cell? ⟨w.heap.size + 1 + 1, 0, none⟩ = some (.int .i64 c.1) ∧ w'.cell? ⟨w.heap.size + 1 + 1, 1, none⟩ = some (.int .i64 c.2) ∧ w'.cell? ⟨w.heap.size + 1 + 1 + 1, 0, none⟩ = some (.int .i64 d.1) ∧ w'.cell? ⟨w.heap.size + 1 + 1 + 1, 1, none⟩ = some (.int .i64 d.2))
    (with_reducible (first | exact ⟨k0, k1, k2, k3, k4, k5, k6, k7⟩ | exact ⟨cdP k0, cdP k1, cdP k2, cdP k3, cdP k4, cdP k5, cdP k6, cdP k7⟩ | fail))
    (first
    | (go_at_call_of 41 (Value.agg #[Value.int IntKind.i64 a.1, Value.int IntKind.i64 a.2]); refine (toP a.1 a.2 _).mono ?_; rintro e w1 ⟨rfl, hb1⟩; have hbx := below_of_drew hb1; replace k0 := cell_later hbx k0; replace k1 := cell_later hbx k1; replace k2 := cell_later hbx k2; replace k3 := cell_later hbx k3; replace k4 := cell_later hbx k4; replace k5 := cell_later hbx k5; replace k6 := cell_later hbx k6; replace k7 := cell_later hbx k7; replace HB := hide (below_on (unhide HB) hbx); clear hb1 hbx)
    | (go_at_call_of 41 (Value.agg #[Value.int IntKind.i64 b.1, Value.int IntKind.i64 b.2]); refine (toP b.1 b.2 _).mono ?_; rintro e w2 ⟨rfl, hb1⟩; have hbx := hb1; replace k0 := cell_later hbx k0; replace k1 := cell_later hbx k1; replace k2 := cell_later hbx k2; replace k3 := cell_later hbx k3; replace k4 := cell_later hbx k4; replace k5 := cell_later hbx k5; replace k6 := cell_later hbx k6; replace k7 := cell_later hbx k7; replace HB := hide (below_on (unhide HB) hbx); clear hb1 hbx)
    | (go_at_call_of 41 (Value.agg #[Value.int IntKind.i64 c.1, Value.int IntKind.i64 c.2]); refine (toP c.1 c.2 _).mono ?_; rintro e w3 ⟨rfl, hb1⟩; have hbx := hb1; replace k0 := cell_later hbx k0; replace k1 := cell_later hbx k1; replace k2 := cell_later hbx k2; replace k3 := cell_later hbx k3; replace k4 := cell_later hbx k4; replace k5 := cell_later hbx k5; replace k6 := cell_later hbx k6; replace k7 := cell_later hbx k7; replace HB := hide (below_on (unhide HB) hbx); clear hb1 hbx)
    | (go_at_call_of 41 (Value.agg #[Value.int IntKind.i64 d.1, Value.int IntKind.i64 d.2]); refine (toP d.1 d.2 _).mono ?_; rintro e w4 ⟨rfl, hb1⟩; have hbx := hb1; replace k0 := cell_later hbx k0; replace k1 := cell_later hbx k1; replace k2 := cell_later hbx k2; replace k3 := cell_later hbx k3; replace k4 := cell_later hbx k4; replace k5 := cell_later hbx k5; replace k6 := cell_later hbx k6; replace k7 := cell_later hbx k7; replace HB := hide (below_on (unhide HB) hbx); clear hb1 hbx)
    | (go_at_call 40; refine (InTriangleS a b c d _).mono ?_; rintro e w5 ⟨rfl, hb1⟩; have hbx := hb1; replace k0 := cell_later hbx k0; replace k1 := cell_later hbx k1; replace k2 := cell_later hbx k2; replace k3 := cell_later hbx k3; replace k4 := cell_later hbx k4; replace k5 := cell_later hbx k5; replace k6 := cell_later hbx k6; replace k7 := cell_later hbx k7; replace HB := hide (below_on (unhide HB) hbx); clear hb1 hbx)
    | fail)
  go_upto_region 2 with fail
  go_region_held3 (fun w' => w'.cell? ⟨w.heap.size, 0, none⟩ = some (.int .i64 a.1) ∧ w'.cell? ⟨w.heap.size, 1, none⟩ = some (.int .i64 a.2) ∧ w'.cell? ⟨w.heap.size + 1, 0, none⟩ = some (.int .i64 b.1) ∧ w'.cell? ⟨w.heap.size + 1, 1, none⟩ = some (.int .i64 b.2) ∧ w'.cell? ⟨w.heap.size + 1 + 1, 0, none⟩ = some (.int .i64 c.1) ∧ w'.cell? ⟨w.heap.size + 1 + 1, 1, none⟩ = some (.int .i64 c.2) ∧ w'.cell? ⟨w.heap.size + 1 + 1 + 1, 0, none⟩ = some (.int .i64 d.1) ∧ w'.cell? ⟨w.heap.size + 1 + 1 + 1, 1, none⟩ = some (.int .i64 d.2))
    (with_reducible (first | exact ⟨k0, k1, k2, k3, k4, k5, k6, k7⟩ | exact ⟨cdP k0, cdP k1, cdP k2, cdP k3, cdP k4, cdP k5, cdP k6, cdP k7⟩ | fail))
    (first
    | (go_at_call_of 41 (Value.agg #[Value.int IntKind.i64 a.1, Value.int IntKind.i64 a.2]); refine (toP a.1 a.2 _).mono ?_; rintro e w11 ⟨rfl, hb1⟩; have hbx := below_of_drew hb1; replace k0 := cell_later hbx k0; replace k1 := cell_later hbx k1; replace k2 := cell_later hbx k2; replace k3 := cell_later hbx k3; replace k4 := cell_later hbx k4; replace k5 := cell_later hbx k5; replace k6 := cell_later hbx k6; replace k7 := cell_later hbx k7; replace HB := hide (below_on (unhide HB) hbx); clear hb1 hbx)
    | (go_at_call_of 41 (Value.agg #[Value.int IntKind.i64 b.1, Value.int IntKind.i64 b.2]); refine (toP b.1 b.2 _).mono ?_; rintro e w12 ⟨rfl, hb1⟩; have hbx := hb1; replace k0 := cell_later hbx k0; replace k1 := cell_later hbx k1; replace k2 := cell_later hbx k2; replace k3 := cell_later hbx k3; replace k4 := cell_later hbx k4; replace k5 := cell_later hbx k5; replace k6 := cell_later hbx k6; replace k7 := cell_later hbx k7; replace HB := hide (below_on (unhide HB) hbx); clear hb1 hbx)
    | (go_at_call_of 41 (Value.agg #[Value.int IntKind.i64 c.1, Value.int IntKind.i64 c.2]); refine (toP c.1 c.2 _).mono ?_; rintro e w13 ⟨rfl, hb1⟩; have hbx := hb1; replace k0 := cell_later hbx k0; replace k1 := cell_later hbx k1; replace k2 := cell_later hbx k2; replace k3 := cell_later hbx k3; replace k4 := cell_later hbx k4; replace k5 := cell_later hbx k5; replace k6 := cell_later hbx k6; replace k7 := cell_later hbx k7; replace HB := hide (below_on (unhide HB) hbx); clear hb1 hbx)
    | (go_at_call_of 41 (Value.agg #[Value.int IntKind.i64 d.1, Value.int IntKind.i64 d.2]); refine (toP d.1 d.2 _).mono ?_; rintro e w14 ⟨rfl, hb1⟩; have hbx := hb1; replace k0 := cell_later hbx k0; replace k1 := cell_later hbx k1; replace k2 := cell_later hbx k2; replace k3 := cell_later hbx k3; replace k4 := cell_later hbx k4; replace k5 := cell_later hbx k5; replace k6 := cell_later hbx k6; replace k7 := cell_later hbx k7; replace HB := hide (below_on (unhide HB) hbx); clear hb1 hbx)
    | (go_at_call 42; refine (InTriangleI a b c d _).mono ?_; rintro e w15 ⟨rfl, hb1⟩; have hbx := hb1; replace k0 := cell_later hbx k0; replace k1 := cell_later hbx k1; replace k2 := cell_later hbx k2; replace k3 := cell_later hbx k3; replace k4 := cell_later hbx k4; replace k5 := cell_later hbx k5; replace k6 := cell_later hbx k6; replace k7 := cell_later hbx k7; replace HB := hide (below_on (unhide HB) hbx); clear hb1 hbx)
    | fail)
  clear k0 k1 k2 k3 k4 k5 k6 k7
  generalize itV a b c d = v0
  have x0 : (v0 != v0) = false := by simp
  generalize itB a b c d = v1
  have x1 : (v1 != v1) = false := by simp
  go_wp2_with fail
  go_ret
  exact ⟨rfl, unhide HB⟩
end Go.Proofs.Ytblhjeepelgdaaa
