/- l8Meet and SegmentsMeet of the specification. No condition beyond those typed. Written by mkmeet8.py. -/
import Derived.Test.YtomekmhonfofkaaGreatSp8
namespace Go.Proofs.YtomekmhonfofkaaGreat
open Go.RowKit
set_option linter.unusedVariables false
set_option maxRecDepth 100000
set_option linter.unusedSimpArgs false

/-- Whether two segments have a point in common, as it is reckoned. -/
def meV (a b c d : Int × Int) : Bool := if onV a b c || onV a b d || onV c d a || onV c d b then true else decide (sgZ (crs a b c) * sgZ (crs a b d) < 0) && decide (sgZ (crs c d a) * sgZ (crs c d b) < 0)
theorem sg_bd (n : Int) : -1 ≤ sgZ n ∧ sgZ n ≤ 1 := by
  unfold sgZ
  split
  · omega
  · split <;> omega
theorem sg_mul {u v : Int} (h : -1 ≤ u ∧ u ≤ 1) (k : -1 ≤ v ∧ v ≤ 1) : IntKind.i64.wrap (u * v) = u * v := by
  have m := @mul_bd u v (by omega) (by omega) (by omega) (by omega)
  rw [IntKind.wrap_i64]; omega
theorem al4 (w : World) (o p q r : Obj) : Below w.heap.size w ((((w.alloc o).alloc p).alloc q).alloc r) := (al3 w o p q).alloc (by simp; omega) _
set_option maxHeartbeats 16000000 in
theorem meetS8 (a b c d : Int × Int) (w : World) (ha : Near a) (hb : Near b) (hc : Near c) (hd : Near d) :
    Calls Tryz.prog 77 #[.agg #[.int .i64 a.1, .int .i64 a.2], .agg #[.int .i64 b.1, .int .i64 b.2], .agg #[.int .i64 c.1, .int .i64 c.2], .agg #[.int .i64 d.1, .int .i64 d.2]] w fun e w' => e = .returned (.bool (meV a b c d)) ∧ Below w.heap.size w w' := by
  have C0 := hide (fun w => onS8 a b c w ha hb hc)
  have C1 := hide (fun w => onS8 a b d w ha hb hd)
  have C2 := hide (fun w => onS8 c d a w hc hd ha)
  have C3 := hide (fun w => onS8 c d b w hc hd hb)
  have D0 := hide (fun w => orientS8 a b c w ha hb hc)
  have b0 := sg_bd (crs a b c)
  have D1 := hide (fun w => orientS8 a b d w ha hb hd)
  have b1 := sg_bd (crs a b d)
  have D2 := hide (fun w => orientS8 c d a w hc hd ha)
  have b2 := sg_bd (crs c d a)
  have D3 := hide (fun w => orientS8 c d b w hc hd hb)
  have b3 := sg_bd (crs c d b)
  have K0 : Hid (((((w.alloc (.cells #[.int .i64 a.1, .int .i64 a.2] 37)).alloc (.cells #[.int .i64 b.1, .int .i64 b.2] 37)).alloc (.cells #[.int .i64 c.1, .int .i64 c.2] 37)).alloc (.cells #[.int .i64 d.1, .int .i64 d.2] 37)).cell? ⟨w.heap.size, 0, none⟩ = some (.int .i64 a.1) ∧ ((((w.alloc (.cells #[.int .i64 a.1, .int .i64 a.2] 37)).alloc (.cells #[.int .i64 b.1, .int .i64 b.2] 37)).alloc (.cells #[.int .i64 c.1, .int .i64 c.2] 37)).alloc (.cells #[.int .i64 d.1, .int .i64 d.2] 37)).cell? ⟨w.heap.size, 1, none⟩ = some (.int .i64 a.2) ∧ ((((w.alloc (.cells #[.int .i64 a.1, .int .i64 a.2] 37)).alloc (.cells #[.int .i64 b.1, .int .i64 b.2] 37)).alloc (.cells #[.int .i64 c.1, .int .i64 c.2] 37)).alloc (.cells #[.int .i64 d.1, .int .i64 d.2] 37)).cell? ⟨w.heap.size + 1, 0, none⟩ = some (.int .i64 b.1) ∧ ((((w.alloc (.cells #[.int .i64 a.1, .int .i64 a.2] 37)).alloc (.cells #[.int .i64 b.1, .int .i64 b.2] 37)).alloc (.cells #[.int .i64 c.1, .int .i64 c.2] 37)).alloc (.cells #[.int .i64 d.1, .int .i64 d.2] 37)).cell? ⟨w.heap.size + 1, 1, none⟩ = some (.int .i64 b.2) ∧ ((((w.alloc (.cells #[.int .i64 a.1, .int .i64 a.2] 37)).alloc (.cells #[.int .i64 b.1, .int .i64 b.2] 37)).alloc (.cells #[.int .i64 c.1, .int .i64 c.2] 37)).alloc (.cells #[.int .i64 d.1, .int .i64 d.2] 37)).cell? ⟨w.heap.size + 1 + 1, 0, none⟩ = some (.int .i64 c.1) ∧ ((((w.alloc (.cells #[.int .i64 a.1, .int .i64 a.2] 37)).alloc (.cells #[.int .i64 b.1, .int .i64 b.2] 37)).alloc (.cells #[.int .i64 c.1, .int .i64 c.2] 37)).alloc (.cells #[.int .i64 d.1, .int .i64 d.2] 37)).cell? ⟨w.heap.size + 1 + 1, 1, none⟩ = some (.int .i64 c.2) ∧ ((((w.alloc (.cells #[.int .i64 a.1, .int .i64 a.2] 37)).alloc (.cells #[.int .i64 b.1, .int .i64 b.2] 37)).alloc (.cells #[.int .i64 c.1, .int .i64 c.2] 37)).alloc (.cells #[.int .i64 d.1, .int .i64 d.2] 37)).cell? ⟨w.heap.size + 1 + 1 + 1, 0, none⟩ = some (.int .i64 d.1) ∧ ((((w.alloc (.cells #[.int .i64 a.1, .int .i64 a.2] 37)).alloc (.cells #[.int .i64 b.1, .int .i64 b.2] 37)).alloc (.cells #[.int .i64 c.1, .int .i64 c.2] 37)).alloc (.cells #[.int .i64 d.1, .int .i64 d.2] 37)).cell? ⟨w.heap.size + 1 + 1 + 1, 1, none⟩ = some (.int .i64 d.2)) := hide (by simp [go_sem])
  have HB : Hid (Below w.heap.size w ((((w.alloc (.cells #[.int .i64 a.1, .int .i64 a.2] 37)).alloc (.cells #[.int .i64 b.1, .int .i64 b.2] 37)).alloc (.cells #[.int .i64 c.1, .int .i64 c.2] 37)).alloc (.cells #[.int .i64 d.1, .int .i64 d.2] 37))) := hide (al4 _ _ _ _ _)
  have k0 := (unhide K0).1
  have k1 := (unhide K0).2.1
  have k2 := (unhide K0).2.2.1
  have k3 := (unhide K0).2.2.2.1
  have k4 := (unhide K0).2.2.2.2.1
  have k5 := (unhide K0).2.2.2.2.2.1
  have k6 := (unhide K0).2.2.2.2.2.2.1
  have k7 := (unhide K0).2.2.2.2.2.2.2
  unfold meV
  clear ha hb hc hd K0
  generalize sgZ (crs a b c) = s0 at *
  generalize sgZ (crs a b d) = s1 at *
  generalize sgZ (crs c d a) = s2 at *
  generalize sgZ (crs c d b) = s3 at *
  cases h0 : onV a b c
  · rw [h0] at C0
    cases h1 : onV a b d
    · rw [h1] at C1
      cases h2 : onV c d a
      · rw [h2] at C2
        cases h3 : onV c d b
        · rw [h3] at C3
          simp only [Bool.or_self, Bool.false_eq_true, if_false]
          have m0 := sg_mul b0 b1
          have m1 := sg_mul b2 b3
          by_cases hp : s0 * s1 < 0
          · have d0 : decide (s0 * s1 < 0) = true := decide_eq_true hp
            rw [d0]
            cases hq : decide (s2 * s3 < 0)
            · skip
              go_enter Tryz.func77, Tryz.ntmps77
              go_wp2_with fail
              refine (unhide C0 _).mono ?_
              rintro e w1 ⟨rfl, hb⟩
              replace k0 := cell_later hb k0
              replace k1 := cell_later hb k1
              replace k2 := cell_later hb k2
              replace k3 := cell_later hb k3
              replace k4 := cell_later hb k4
              replace k5 := cell_later hb k5
              replace k6 := cell_later hb k6
              replace k7 := cell_later hb k7
              replace HB := hide (below_on (unhide HB) hb)
              clear hb
              go_wp2_with fail
              refine (unhide C1 _).mono ?_
              rintro e w2 ⟨rfl, hb⟩
              replace k0 := cell_later hb k0
              replace k1 := cell_later hb k1
              replace k2 := cell_later hb k2
              replace k3 := cell_later hb k3
              replace k4 := cell_later hb k4
              replace k5 := cell_later hb k5
              replace k6 := cell_later hb k6
              replace k7 := cell_later hb k7
              replace HB := hide (below_on (unhide HB) hb)
              clear hb
              go_wp2_with fail
              refine (unhide C2 _).mono ?_
              rintro e w3 ⟨rfl, hb⟩
              replace k0 := cell_later hb k0
              replace k1 := cell_later hb k1
              replace k2 := cell_later hb k2
              replace k3 := cell_later hb k3
              replace k4 := cell_later hb k4
              replace k5 := cell_later hb k5
              replace k6 := cell_later hb k6
              replace k7 := cell_later hb k7
              replace HB := hide (below_on (unhide HB) hb)
              clear hb
              go_wp2_with fail
              refine (unhide C3 _).mono ?_
              rintro e w4 ⟨rfl, hb⟩
              replace k0 := cell_later hb k0
              replace k1 := cell_later hb k1
              replace k2 := cell_later hb k2
              replace k3 := cell_later hb k3
              replace k4 := cell_later hb k4
              replace k5 := cell_later hb k5
              replace k6 := cell_later hb k6
              replace k7 := cell_later hb k7
              replace HB := hide (below_on (unhide HB) hb)
              clear hb
              go_upto_region 3 with fail
              have HX0 : Hid True := hide trivial
              go_region_held3 (fun w' => w'.cell? ⟨w.heap.size, 0, none⟩ = some (.int .i64 a.1) ∧ w'.cell? ⟨w.heap.size, 1, none⟩ = some (.int .i64 a.2) ∧ w'.cell? ⟨w.heap.size + 1, 0, none⟩ = some (.int .i64 b.1) ∧ w'.cell? ⟨w.heap.size + 1, 1, none⟩ = some (.int .i64 b.2) ∧ w'.cell? ⟨w.heap.size + 1 + 1, 0, none⟩ = some (.int .i64 c.1) ∧ w'.cell? ⟨w.heap.size + 1 + 1, 1, none⟩ = some (.int .i64 c.2) ∧ w'.cell? ⟨w.heap.size + 1 + 1 + 1, 0, none⟩ = some (.int .i64 d.1) ∧ w'.cell? ⟨w.heap.size + 1 + 1 + 1, 1, none⟩ = some (.int .i64 d.2))
                (with_reducible (first | exact ⟨k0, k1, k2, k3, k4, k5, k6, k7⟩ | exact ⟨cdP k0, cdP k1, cdP k2, cdP k3, cdP k4, cdP k5, cdP k6, cdP k7⟩ | fail))
                (first
                | (have chk := HX0; go_at_call 42; refine (unhide D0 _).mono ?_; rintro e w11 ⟨rfl, hb1⟩; have hbx := below_of_drew hb1; replace k0 := cell_later hbx k0; replace k1 := cell_later hbx k1; replace k2 := cell_later hbx k2; replace k3 := cell_later hbx k3; replace k4 := cell_later hbx k4; replace k5 := cell_later hbx k5; replace k6 := cell_later hbx k6; replace k7 := cell_later hbx k7; replace HB := hide (below_on (unhide HB) hbx); clear hb1 hbx; clear HX0 chk; have HX1 : Hid True := hide trivial)
                | (have chk := HX1; go_at_call 42; refine (unhide D1 _).mono ?_; rintro e w12 ⟨rfl, hb1⟩; have hbx := hb1; replace k0 := cell_later hbx k0; replace k1 := cell_later hbx k1; replace k2 := cell_later hbx k2; replace k3 := cell_later hbx k3; replace k4 := cell_later hbx k4; replace k5 := cell_later hbx k5; replace k6 := cell_later hbx k6; replace k7 := cell_later hbx k7; replace HB := hide (below_on (unhide HB) hbx); clear hb1 hbx; clear HX1 chk; have HX2 : Hid True := hide trivial)
                | (have chk := HX2; go_at_call 42; refine (unhide D2 _).mono ?_; rintro e w13 ⟨rfl, hb1⟩; have hbx := hb1; replace k0 := cell_later hbx k0; replace k1 := cell_later hbx k1; replace k2 := cell_later hbx k2; replace k3 := cell_later hbx k3; replace k4 := cell_later hbx k4; replace k5 := cell_later hbx k5; replace k6 := cell_later hbx k6; replace k7 := cell_later hbx k7; replace HB := hide (below_on (unhide HB) hbx); clear hb1 hbx; clear HX2 chk; have HX3 : Hid True := hide trivial)
                | (have chk := HX3; go_at_call 42; refine (unhide D3 _).mono ?_; rintro e w14 ⟨rfl, hb1⟩; have hbx := hb1; replace k0 := cell_later hbx k0; replace k1 := cell_later hbx k1; replace k2 := cell_later hbx k2; replace k3 := cell_later hbx k3; replace k4 := cell_later hbx k4; replace k5 := cell_later hbx k5; replace k6 := cell_later hbx k6; replace k7 := cell_later hbx k7; replace HB := hide (below_on (unhide HB) hbx); clear hb1 hbx; clear HX3 chk)
                | fail)
              clear k0 k1 k2 k3 k4 k5 k6 k7
              go_wp2_with fail
              go_ret
              exact ⟨rfl, unhide HB⟩
            · skip
              go_enter Tryz.func77, Tryz.ntmps77
              go_wp2_with fail
              refine (unhide C0 _).mono ?_
              rintro e w1 ⟨rfl, hb⟩
              replace k0 := cell_later hb k0
              replace k1 := cell_later hb k1
              replace k2 := cell_later hb k2
              replace k3 := cell_later hb k3
              replace k4 := cell_later hb k4
              replace k5 := cell_later hb k5
              replace k6 := cell_later hb k6
              replace k7 := cell_later hb k7
              replace HB := hide (below_on (unhide HB) hb)
              clear hb
              go_wp2_with fail
              refine (unhide C1 _).mono ?_
              rintro e w2 ⟨rfl, hb⟩
              replace k0 := cell_later hb k0
              replace k1 := cell_later hb k1
              replace k2 := cell_later hb k2
              replace k3 := cell_later hb k3
              replace k4 := cell_later hb k4
              replace k5 := cell_later hb k5
              replace k6 := cell_later hb k6
              replace k7 := cell_later hb k7
              replace HB := hide (below_on (unhide HB) hb)
              clear hb
              go_wp2_with fail
              refine (unhide C2 _).mono ?_
              rintro e w3 ⟨rfl, hb⟩
              replace k0 := cell_later hb k0
              replace k1 := cell_later hb k1
              replace k2 := cell_later hb k2
              replace k3 := cell_later hb k3
              replace k4 := cell_later hb k4
              replace k5 := cell_later hb k5
              replace k6 := cell_later hb k6
              replace k7 := cell_later hb k7
              replace HB := hide (below_on (unhide HB) hb)
              clear hb
              go_wp2_with fail
              refine (unhide C3 _).mono ?_
              rintro e w4 ⟨rfl, hb⟩
              replace k0 := cell_later hb k0
              replace k1 := cell_later hb k1
              replace k2 := cell_later hb k2
              replace k3 := cell_later hb k3
              replace k4 := cell_later hb k4
              replace k5 := cell_later hb k5
              replace k6 := cell_later hb k6
              replace k7 := cell_later hb k7
              replace HB := hide (below_on (unhide HB) hb)
              clear hb
              go_upto_region 3 with fail
              have HX0 : Hid True := hide trivial
              go_region_held3 (fun w' => w'.cell? ⟨w.heap.size, 0, none⟩ = some (.int .i64 a.1) ∧ w'.cell? ⟨w.heap.size, 1, none⟩ = some (.int .i64 a.2) ∧ w'.cell? ⟨w.heap.size + 1, 0, none⟩ = some (.int .i64 b.1) ∧ w'.cell? ⟨w.heap.size + 1, 1, none⟩ = some (.int .i64 b.2) ∧ w'.cell? ⟨w.heap.size + 1 + 1, 0, none⟩ = some (.int .i64 c.1) ∧ w'.cell? ⟨w.heap.size + 1 + 1, 1, none⟩ = some (.int .i64 c.2) ∧ w'.cell? ⟨w.heap.size + 1 + 1 + 1, 0, none⟩ = some (.int .i64 d.1) ∧ w'.cell? ⟨w.heap.size + 1 + 1 + 1, 1, none⟩ = some (.int .i64 d.2))
                (with_reducible (first | exact ⟨k0, k1, k2, k3, k4, k5, k6, k7⟩ | exact ⟨cdP k0, cdP k1, cdP k2, cdP k3, cdP k4, cdP k5, cdP k6, cdP k7⟩ | fail))
                (first
                | (have chk := HX0; go_at_call 42; refine (unhide D0 _).mono ?_; rintro e w11 ⟨rfl, hb1⟩; have hbx := below_of_drew hb1; replace k0 := cell_later hbx k0; replace k1 := cell_later hbx k1; replace k2 := cell_later hbx k2; replace k3 := cell_later hbx k3; replace k4 := cell_later hbx k4; replace k5 := cell_later hbx k5; replace k6 := cell_later hbx k6; replace k7 := cell_later hbx k7; replace HB := hide (below_on (unhide HB) hbx); clear hb1 hbx; clear HX0 chk; have HX1 : Hid True := hide trivial)
                | (have chk := HX1; go_at_call 42; refine (unhide D1 _).mono ?_; rintro e w12 ⟨rfl, hb1⟩; have hbx := hb1; replace k0 := cell_later hbx k0; replace k1 := cell_later hbx k1; replace k2 := cell_later hbx k2; replace k3 := cell_later hbx k3; replace k4 := cell_later hbx k4; replace k5 := cell_later hbx k5; replace k6 := cell_later hbx k6; replace k7 := cell_later hbx k7; replace HB := hide (below_on (unhide HB) hbx); clear hb1 hbx; clear HX1 chk; have HX2 : Hid True := hide trivial)
                | (have chk := HX2; go_at_call 42; refine (unhide D2 _).mono ?_; rintro e w13 ⟨rfl, hb1⟩; have hbx := hb1; replace k0 := cell_later hbx k0; replace k1 := cell_later hbx k1; replace k2 := cell_later hbx k2; replace k3 := cell_later hbx k3; replace k4 := cell_later hbx k4; replace k5 := cell_later hbx k5; replace k6 := cell_later hbx k6; replace k7 := cell_later hbx k7; replace HB := hide (below_on (unhide HB) hbx); clear hb1 hbx; clear HX2 chk; have HX3 : Hid True := hide trivial)
                | (have chk := HX3; go_at_call 42; refine (unhide D3 _).mono ?_; rintro e w14 ⟨rfl, hb1⟩; have hbx := hb1; replace k0 := cell_later hbx k0; replace k1 := cell_later hbx k1; replace k2 := cell_later hbx k2; replace k3 := cell_later hbx k3; replace k4 := cell_later hbx k4; replace k5 := cell_later hbx k5; replace k6 := cell_later hbx k6; replace k7 := cell_later hbx k7; replace HB := hide (below_on (unhide HB) hbx); clear hb1 hbx; clear HX3 chk)
                | fail)
              clear k0 k1 k2 k3 k4 k5 k6 k7
              go_wp2_with fail
              go_ret
              exact ⟨rfl, unhide HB⟩
          · have d0 : decide (s0 * s1 < 0) = false := decide_eq_false hp
            rw [d0]
            simp only [Bool.false_and]
            go_enter Tryz.func77, Tryz.ntmps77
            go_wp2_with fail
            refine (unhide C0 _).mono ?_
            rintro e w1 ⟨rfl, hb⟩
            replace k0 := cell_later hb k0
            replace k1 := cell_later hb k1
            replace k2 := cell_later hb k2
            replace k3 := cell_later hb k3
            replace k4 := cell_later hb k4
            replace k5 := cell_later hb k5
            replace k6 := cell_later hb k6
            replace k7 := cell_later hb k7
            replace HB := hide (below_on (unhide HB) hb)
            clear hb
            go_wp2_with fail
            refine (unhide C1 _).mono ?_
            rintro e w2 ⟨rfl, hb⟩
            replace k0 := cell_later hb k0
            replace k1 := cell_later hb k1
            replace k2 := cell_later hb k2
            replace k3 := cell_later hb k3
            replace k4 := cell_later hb k4
            replace k5 := cell_later hb k5
            replace k6 := cell_later hb k6
            replace k7 := cell_later hb k7
            replace HB := hide (below_on (unhide HB) hb)
            clear hb
            go_wp2_with fail
            refine (unhide C2 _).mono ?_
            rintro e w3 ⟨rfl, hb⟩
            replace k0 := cell_later hb k0
            replace k1 := cell_later hb k1
            replace k2 := cell_later hb k2
            replace k3 := cell_later hb k3
            replace k4 := cell_later hb k4
            replace k5 := cell_later hb k5
            replace k6 := cell_later hb k6
            replace k7 := cell_later hb k7
            replace HB := hide (below_on (unhide HB) hb)
            clear hb
            go_wp2_with fail
            refine (unhide C3 _).mono ?_
            rintro e w4 ⟨rfl, hb⟩
            replace k0 := cell_later hb k0
            replace k1 := cell_later hb k1
            replace k2 := cell_later hb k2
            replace k3 := cell_later hb k3
            replace k4 := cell_later hb k4
            replace k5 := cell_later hb k5
            replace k6 := cell_later hb k6
            replace k7 := cell_later hb k7
            replace HB := hide (below_on (unhide HB) hb)
            clear hb
            go_upto_region 3 with fail
            refine wp_region_held_drew (S := fun w' => w'.cell? ⟨w.heap.size, 0, none⟩ = some (.int .i64 a.1) ∧ w'.cell? ⟨w.heap.size, 1, none⟩ = some (.int .i64 a.2) ∧ w'.cell? ⟨w.heap.size + 1, 0, none⟩ = some (.int .i64 b.1) ∧ w'.cell? ⟨w.heap.size + 1, 1, none⟩ = some (.int .i64 b.2) ∧ w'.cell? ⟨w.heap.size + 1 + 1, 0, none⟩ = some (.int .i64 c.1) ∧ w'.cell? ⟨w.heap.size + 1 + 1, 1, none⟩ = some (.int .i64 c.2) ∧ w'.cell? ⟨w.heap.size + 1 + 1 + 1, 0, none⟩ = some (.int .i64 d.1) ∧ w'.cell? ⟨w.heap.size + 1 + 1 + 1, 1, none⟩ = some (.int .i64 d.2)) (by kernel_rfl) ⟨k0, k1, k2, k3, k4, k5, k6, k7⟩ (fun hHeld => ?_)
            simp only [List.size_toArray, List.length_cons, List.length_nil, Nat.reduceAdd, Array.replicate_succ, Array.replicate_zero, List.push_toArray, List.nil_append, List.cons_append]
            refine wpAnyH_take (i := 0) (v := .agg #[.int .i64 a.1, .int .i64 a.2]) rfl (by kernel_rfl) (by kernel_rfl) (by kernel_rfl) (fun _ _ _ h => h) (Or.inl ⟨by rfl, by intro w hSw; (try dsimp only at hSw); go_simp⟩) hHeld ?_
            simp only [Act.put, List.setIfInBounds_toArray, List.set_cons_zero, List.set_cons_succ]
            refine wpAnyH_take (i := 1) (v := .agg #[.int .i64 b.1, .int .i64 b.2]) rfl (by kernel_rfl) (by kernel_rfl) (by kernel_rfl) (fun _ _ _ h => h) (Or.inl ⟨by rfl, by intro w hSw; (try dsimp only at hSw); go_simp⟩) hHeld ?_
            simp only [Act.put, List.setIfInBounds_toArray, List.set_cons_zero, List.set_cons_succ]
            refine wpAnyH_take (i := 2) (v := .agg #[.int .i64 c.1, .int .i64 c.2]) rfl (by kernel_rfl) (by kernel_rfl) (by kernel_rfl) (fun _ _ _ h => h) (Or.inl ⟨by rfl, by intro w hSw; (try dsimp only at hSw); go_simp⟩) hHeld ?_
            simp only [Act.put, List.setIfInBounds_toArray, List.set_cons_zero, List.set_cons_succ]
            refine wpAnyH_take (i := 4) (v := .agg #[.int .i64 a.1, .int .i64 a.2]) rfl (by kernel_rfl) (by kernel_rfl) (by kernel_rfl) (fun _ _ _ h => h) (Or.inl ⟨by rfl, by intro w hSw; (try dsimp only at hSw); go_simp⟩) hHeld ?_
            simp only [Act.put, List.setIfInBounds_toArray, List.set_cons_zero, List.set_cons_succ]
            refine wpAnyH_take (i := 5) (v := .agg #[.int .i64 b.1, .int .i64 b.2]) rfl (by kernel_rfl) (by kernel_rfl) (by kernel_rfl) (fun _ _ _ h => h) (Or.inl ⟨by rfl, by intro w hSw; (try dsimp only at hSw); go_simp⟩) hHeld ?_
            simp only [Act.put, List.setIfInBounds_toArray, List.set_cons_zero, List.set_cons_succ]
            refine wpAnyH_take (i := 6) (v := .agg #[.int .i64 d.1, .int .i64 d.2]) rfl (by kernel_rfl) (by kernel_rfl) (by kernel_rfl) (fun _ _ _ h => h) (Or.inl ⟨by rfl, by intro w hSw; (try dsimp only at hSw); go_simp⟩) hHeld ?_
            simp only [Act.put, List.setIfInBounds_toArray, List.set_cons_zero, List.set_cons_succ]
            refine wpAnyH_ready (rs := [3]) (by kernel_rfl) (by simp) (AllReadyH.cons rfl (fun K hK => ?_) AllReadyH.nil)
            go_simp
            refine (unhide D0 _).mono ?_
            rintro e w11 ⟨rfl, hb1⟩
            have hbx := below_of_drew hb1
            replace k0 := cell_later hbx k0
            replace k1 := cell_later hbx k1
            replace k2 := cell_later hbx k2
            replace k3 := cell_later hbx k3
            replace k4 := cell_later hbx k4
            replace k5 := cell_later hbx k5
            replace k6 := cell_later hbx k6
            replace k7 := cell_later hbx k7
            replace HB := hide (below_on (unhide HB) hbx)
            refine hK.out _ _ ⟨k0, k1, k2, k3, k4, k5, k6, k7⟩ (fun hHeld2 => ?_)
            clear hK K hb1 hbx hHeld
            have hHeld := hHeld2
            clear hHeld2
            simp only [Act.put, List.setIfInBounds_toArray, List.set_cons_zero, List.set_cons_succ]
            refine wpAnyH_ready (rs := [7]) (by kernel_rfl) (by simp) (AllReadyH.cons rfl (fun K hK => ?_) AllReadyH.nil)
            go_simp
            refine (unhide D1 _).mono ?_
            rintro e w12 ⟨rfl, hb1⟩
            have hbx := hb1
            replace k0 := cell_later hbx k0
            replace k1 := cell_later hbx k1
            replace k2 := cell_later hbx k2
            replace k3 := cell_later hbx k3
            replace k4 := cell_later hbx k4
            replace k5 := cell_later hbx k5
            replace k6 := cell_later hbx k6
            replace k7 := cell_later hbx k7
            replace HB := hide (below_on (unhide HB) hbx)
            refine hK.out _ _ ⟨k0, k1, k2, k3, k4, k5, k6, k7⟩ (fun hHeld2 => ?_)
            clear hK K hb1 hbx hHeld
            have hHeld := hHeld2
            clear hHeld2
            simp only [Act.put, List.setIfInBounds_toArray, List.set_cons_zero, List.set_cons_succ]
            refine wpAnyH_take (i := 8) (v := .int .i64 (s0 * s1)) rfl (by kernel_rfl) (by kernel_rfl) (by kernel_rfl) (fun _ _ _ h => h) (Or.inl ⟨by rfl, by intro w hSw; (try dsimp only at hSw); go_simp⟩) hHeld ?_
            simp only [Act.put, List.setIfInBounds_toArray, List.set_cons_zero, List.set_cons_succ]
            refine wpAnyH_take (i := 9) (v := .bool false) rfl (by kernel_rfl) (by kernel_rfl) (by kernel_rfl) (fun _ _ _ h => h) (Or.inl ⟨by rfl, by intro w hSw; (try dsimp only at hSw); go_simp⟩) hHeld ?_
            simp only [Act.put, List.setIfInBounds_toArray, List.set_cons_zero, List.set_cons_succ]
            refine wpAnyH_take (i := 10) (v := .bool false) rfl (by kernel_rfl) (by kernel_rfl) (by kernel_rfl) (fun _ _ _ h => h) (Or.inl ⟨by rfl, by intro w hSw; (try dsimp only at hSw); go_simp⟩) hHeld ?_
            simp only [Act.put, List.setIfInBounds_toArray, List.set_cons_zero, List.set_cons_succ]
            refine wpAnyH_take (i := 11) (v := undef) rfl (by kernel_rfl) (by kernel_rfl) (by kernel_rfl) (fun _ _ _ h => h) (Or.inr ⟨by kernel_rfl, rfl⟩) hHeld ?_
            simp only [Act.put, List.setIfInBounds_toArray, List.set_cons_zero, List.set_cons_succ]
            refine wpAnyH_take (i := 12) (v := undef) rfl (by kernel_rfl) (by kernel_rfl) (by kernel_rfl) (fun _ _ _ h => h) (Or.inr ⟨by kernel_rfl, rfl⟩) hHeld ?_
            simp only [Act.put, List.setIfInBounds_toArray, List.set_cons_zero, List.set_cons_succ]
            refine wpAnyH_take (i := 13) (v := undef) rfl (by kernel_rfl) (by kernel_rfl) (by kernel_rfl) (fun _ _ _ h => h) (Or.inr ⟨by kernel_rfl, rfl⟩) hHeld ?_
            simp only [Act.put, List.setIfInBounds_toArray, List.set_cons_zero, List.set_cons_succ]
            refine wpAnyH_take (i := 14) (v := undef) rfl (by kernel_rfl) (by kernel_rfl) (by kernel_rfl) (fun _ _ _ h => h) (Or.inr ⟨by kernel_rfl, rfl⟩) hHeld ?_
            simp only [Act.put, List.setIfInBounds_toArray, List.set_cons_zero, List.set_cons_succ]
            refine wpAnyH_take (i := 15) (v := undef) rfl (by kernel_rfl) (by kernel_rfl) (by kernel_rfl) (fun _ _ _ h => h) (Or.inr ⟨by kernel_rfl, rfl⟩) hHeld ?_
            simp only [Act.put, List.setIfInBounds_toArray, List.set_cons_zero, List.set_cons_succ]
            refine wpAnyH_take (i := 16) (v := undef) rfl (by kernel_rfl) (by kernel_rfl) (by kernel_rfl) (fun _ _ _ h => h) (Or.inr ⟨by kernel_rfl, rfl⟩) hHeld ?_
            simp only [Act.put, List.setIfInBounds_toArray, List.set_cons_zero, List.set_cons_succ]
            refine wpAnyH_take (i := 17) (v := undef) rfl (by kernel_rfl) (by kernel_rfl) (by kernel_rfl) (fun _ _ _ h => h) (Or.inr ⟨by kernel_rfl, rfl⟩) hHeld ?_
            simp only [Act.put, List.setIfInBounds_toArray, List.set_cons_zero, List.set_cons_succ]
            refine wpAnyH_take (i := 18) (v := undef) rfl (by kernel_rfl) (by kernel_rfl) (by kernel_rfl) (fun _ _ _ h => h) (Or.inr ⟨by kernel_rfl, rfl⟩) hHeld ?_
            simp only [Act.put, List.setIfInBounds_toArray, List.set_cons_zero, List.set_cons_succ]
            refine wpAnyH_take (i := 19) (v := undef) rfl (by kernel_rfl) (by kernel_rfl) (by kernel_rfl) (fun _ _ _ h => h) (Or.inr ⟨by kernel_rfl, rfl⟩) hHeld ?_
            simp only [Act.put, List.setIfInBounds_toArray, List.set_cons_zero, List.set_cons_succ]
            refine wpAnyH_take (i := 20) (v := undef) rfl (by kernel_rfl) (by kernel_rfl) (by kernel_rfl) (fun _ _ _ h => h) (Or.inr ⟨by kernel_rfl, rfl⟩) hHeld ?_
            simp only [Act.put, List.setIfInBounds_toArray, List.set_cons_zero, List.set_cons_succ]
            refine wpAnyH_ready (rs := [21]) (by kernel_rfl) (by simp) (AllReadyH.cons rfl (fun K hK => ?_) AllReadyH.nil)
            go_simp
            refine hK.out _ _ ⟨k0, k1, k2, k3, k4, k5, k6, k7⟩ (fun hHeld2 => ?_)
            clear hK K hHeld
            have hHeld := hHeld2
            clear hHeld2
            simp only [Act.put, List.setIfInBounds_toArray, List.set_cons_zero, List.set_cons_succ]
            refine wpAnyH_ready (rs := [22]) (by kernel_rfl) (by simp) (AllReadyH.cons rfl (fun K hK => ?_) AllReadyH.nil)
            go_simp
            refine hK.out _ _ ⟨k0, k1, k2, k3, k4, k5, k6, k7⟩ (fun hHeld2 => ?_)
            clear hK K hHeld
            have hHeld := hHeld2
            clear hHeld2
            simp only [Act.put, List.setIfInBounds_toArray, List.set_cons_zero, List.set_cons_succ]
            refine wpAnyH_done (by kernel_rfl) ?_ _
            clear k0 k1 k2 k3 k4 k5 k6 k7 hHeld
            go_wp2_with fail
            go_ret
            exact ⟨by first | rfl | kernel_rfl | simp, unhide HB⟩
        · rw [h3] at C3
          simp only [Bool.false_or, Bool.true_or, Bool.or_true, Bool.or_false, if_true]
          go_enter Tryz.func77, Tryz.ntmps77
          go_wp2_with fail
          refine (unhide C0 _).mono ?_
          rintro e w1 ⟨rfl, hb⟩
          replace k0 := cell_later hb k0
          replace k1 := cell_later hb k1
          replace k2 := cell_later hb k2
          replace k3 := cell_later hb k3
          replace k4 := cell_later hb k4
          replace k5 := cell_later hb k5
          replace k6 := cell_later hb k6
          replace k7 := cell_later hb k7
          replace HB := hide (below_on (unhide HB) hb)
          clear hb
          go_wp2_with fail
          refine (unhide C1 _).mono ?_
          rintro e w2 ⟨rfl, hb⟩
          replace k0 := cell_later hb k0
          replace k1 := cell_later hb k1
          replace k2 := cell_later hb k2
          replace k3 := cell_later hb k3
          replace k4 := cell_later hb k4
          replace k5 := cell_later hb k5
          replace k6 := cell_later hb k6
          replace k7 := cell_later hb k7
          replace HB := hide (below_on (unhide HB) hb)
          clear hb
          go_wp2_with fail
          refine (unhide C2 _).mono ?_
          rintro e w3 ⟨rfl, hb⟩
          replace k0 := cell_later hb k0
          replace k1 := cell_later hb k1
          replace k2 := cell_later hb k2
          replace k3 := cell_later hb k3
          replace k4 := cell_later hb k4
          replace k5 := cell_later hb k5
          replace k6 := cell_later hb k6
          replace k7 := cell_later hb k7
          replace HB := hide (below_on (unhide HB) hb)
          clear hb
          go_wp2_with fail
          refine (unhide C3 _).mono ?_
          rintro e w4 ⟨rfl, hb⟩
          replace k0 := cell_later hb k0
          replace k1 := cell_later hb k1
          replace k2 := cell_later hb k2
          replace k3 := cell_later hb k3
          replace k4 := cell_later hb k4
          replace k5 := cell_later hb k5
          replace k6 := cell_later hb k6
          replace k7 := cell_later hb k7
          replace HB := hide (below_on (unhide HB) hb)
          clear hb
          go_wp2_with fail
          go_ret
          exact ⟨rfl, unhide HB⟩
      · rw [h2] at C2
        simp only [Bool.false_or, Bool.true_or, Bool.or_true, Bool.or_false, if_true]
        go_enter Tryz.func77, Tryz.ntmps77
        go_wp2_with fail
        refine (unhide C0 _).mono ?_
        rintro e w1 ⟨rfl, hb⟩
        replace k0 := cell_later hb k0
        replace k1 := cell_later hb k1
        replace k2 := cell_later hb k2
        replace k3 := cell_later hb k3
        replace k4 := cell_later hb k4
        replace k5 := cell_later hb k5
        replace k6 := cell_later hb k6
        replace k7 := cell_later hb k7
        replace HB := hide (below_on (unhide HB) hb)
        clear hb
        go_wp2_with fail
        refine (unhide C1 _).mono ?_
        rintro e w2 ⟨rfl, hb⟩
        replace k0 := cell_later hb k0
        replace k1 := cell_later hb k1
        replace k2 := cell_later hb k2
        replace k3 := cell_later hb k3
        replace k4 := cell_later hb k4
        replace k5 := cell_later hb k5
        replace k6 := cell_later hb k6
        replace k7 := cell_later hb k7
        replace HB := hide (below_on (unhide HB) hb)
        clear hb
        go_wp2_with fail
        refine (unhide C2 _).mono ?_
        rintro e w3 ⟨rfl, hb⟩
        replace k0 := cell_later hb k0
        replace k1 := cell_later hb k1
        replace k2 := cell_later hb k2
        replace k3 := cell_later hb k3
        replace k4 := cell_later hb k4
        replace k5 := cell_later hb k5
        replace k6 := cell_later hb k6
        replace k7 := cell_later hb k7
        replace HB := hide (below_on (unhide HB) hb)
        clear hb
        go_wp2_with fail
        go_ret
        exact ⟨rfl, unhide HB⟩
    · rw [h1] at C1
      simp only [Bool.false_or, Bool.true_or, Bool.or_true, Bool.or_false, if_true]
      go_enter Tryz.func77, Tryz.ntmps77
      go_wp2_with fail
      refine (unhide C0 _).mono ?_
      rintro e w1 ⟨rfl, hb⟩
      replace k0 := cell_later hb k0
      replace k1 := cell_later hb k1
      replace k2 := cell_later hb k2
      replace k3 := cell_later hb k3
      replace k4 := cell_later hb k4
      replace k5 := cell_later hb k5
      replace k6 := cell_later hb k6
      replace k7 := cell_later hb k7
      replace HB := hide (below_on (unhide HB) hb)
      clear hb
      go_wp2_with fail
      refine (unhide C1 _).mono ?_
      rintro e w2 ⟨rfl, hb⟩
      replace k0 := cell_later hb k0
      replace k1 := cell_later hb k1
      replace k2 := cell_later hb k2
      replace k3 := cell_later hb k3
      replace k4 := cell_later hb k4
      replace k5 := cell_later hb k5
      replace k6 := cell_later hb k6
      replace k7 := cell_later hb k7
      replace HB := hide (below_on (unhide HB) hb)
      clear hb
      go_wp2_with fail
      go_ret
      exact ⟨rfl, unhide HB⟩
  · rw [h0] at C0
    simp only [Bool.false_or, Bool.true_or, Bool.or_true, Bool.or_false, if_true]
    go_enter Tryz.func77, Tryz.ntmps77
    go_wp2_with fail
    refine (unhide C0 _).mono ?_
    rintro e w1 ⟨rfl, hb⟩
    replace k0 := cell_later hb k0
    replace k1 := cell_later hb k1
    replace k2 := cell_later hb k2
    replace k3 := cell_later hb k3
    replace k4 := cell_later hb k4
    replace k5 := cell_later hb k5
    replace k6 := cell_later hb k6
    replace k7 := cell_later hb k7
    replace HB := hide (below_on (unhide HB) hb)
    clear hb
    go_wp2_with fail
    go_ret
    exact ⟨rfl, unhide HB⟩
theorem cellsP4 (w : World) (a b c d : Int × Int) : SlP (w.alloc (.cells #[.int .i64 a.1, .int .i64 a.2, .int .i64 b.1, .int .i64 b.2, .int .i64 c.1, .int .i64 c.2, .int .i64 d.1, .int .i64 d.2] 37)) (some ⟨w.heap.size, 0, none⟩) [a, b, c, d] := by
  refine .inr ⟨w.heap.size, 0, rfl, by simp, fun i hi => ?_⟩
  match i, hi with
  | 0, _ => exact ⟨by simp [go_sem], by simp [go_sem]⟩
  | 1, _ => exact ⟨by simp [go_sem], by simp [go_sem]⟩
  | 2, _ => exact ⟨by simp [go_sem], by simp [go_sem]⟩
  | 3, _ => exact ⟨by simp [go_sem], by simp [go_sem]⟩
def smV (a b c d : Int × Int) : Bool := if [a, b, c, d].all gPt then meV a b c d else false
end Go.Proofs.YtomekmhonfofkaaGreat
