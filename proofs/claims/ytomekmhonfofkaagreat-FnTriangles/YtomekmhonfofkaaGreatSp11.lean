/- Chapter 11 of the specification: points in triangles, numbers round about. No condition beyond those typed. Written by mksp11.py. -/
import Derived.Test.YtomekmhonfofkaaGreatRw11
import Derived.Test.YtomekmhonfofkaaGreatSp8X
import Derived.Test.YtomekmhonfofkaaGreatDr8
namespace Go.Proofs.YtomekmhonfofkaaGreat
open Go.RowKit
set_option linter.unusedVariables false
set_option maxRecDepth 100000
set_option linter.unusedSimpArgs false

def inK (x y z : Int) : Bool := (decide (0 ≤ x) && decide (0 ≤ y) && decide (0 ≤ z)) || (decide (x ≤ 0) && decide (y ≤ 0) && decide (z ≤ 0))
/-- A point in a triangle or on it. -/
def inT (a b c p : Int × Int) : Bool := inK (sgZ (crs a b p)) (sgZ (crs b c p)) (sgZ (crs c a p))
def itB (a b c p : Int × Int) : Bool := [a, b, c, p].all gPt && !(sgZ (crs a b c) == 0)
def itV (a b c p : Int × Int) : Bool := itB a b c p && inT a b c p
set_option maxHeartbeats 4000000 in
theorem inS11 (a b c p : Int × Int) (w : World) (ha : Near a) (hb : Near b) (hc : Near c) (hp : Near p) :
    Calls Tryz.prog 46 #[.agg #[.int .i64 a.1, .int .i64 a.2], .agg #[.int .i64 b.1, .int .i64 b.2], .agg #[.int .i64 c.1, .int .i64 c.2], .agg #[.int .i64 p.1, .int .i64 p.2]] w fun e w' => e = .returned (.bool (inT a b c p)) ∧ Below w.heap.size w w' := by
  have C0 := hide (fun w => orientS8 a b p w ha hb hp)
  have C1 := hide (fun w => orientS8 b c p w hb hc hp)
  have C2 := hide (fun w => orientS8 c a p w hc ha hp)
  have b0 := sg_bd (crs a b p)
  have b1 := sg_bd (crs b c p)
  have b2 := sg_bd (crs c a p)
  unfold inT
  generalize sgZ (crs a b p) = x at *
  generalize sgZ (crs b c p) = y at *
  generalize sgZ (crs c a p) = z at *
  clear ha hb hc hp
  have BW : Hid (Below w.heap.size w w) := hide (Below.refl _ _)
  have al : Below w.heap.size w ((((w.alloc (.cells #[.int .i64 a.1, .int .i64 a.2] 37)).alloc (.cells #[.int .i64 b.1, .int .i64 b.2] 37)).alloc (.cells #[.int .i64 c.1, .int .i64 c.2] 37)).alloc (.cells #[.int .i64 p.1, .int .i64 p.2] 37)) := (((((Below.refl _ _).alloc (Nat.le_refl _) _).alloc (by simp) _).alloc (by simp; omega) _).alloc (by simp; omega) _)
  replace BW := hide (below_on (unhide BW) al)
  clear al
  have Ka : Hid (BxP ((((w.alloc (.cells #[.int .i64 a.1, .int .i64 a.2] 37)).alloc (.cells #[.int .i64 b.1, .int .i64 b.2] 37)).alloc (.cells #[.int .i64 c.1, .int .i64 c.2] 37)).alloc (.cells #[.int .i64 p.1, .int .i64 p.2] 37)) (w.heap.size) a.1 a.2) := hide (((((BxP.new (w := w) (x := a.1) (y := a.2) (t := 37)).later ((Below.refl _ _).alloc (Nat.le_refl _) _)).later ((Below.refl _ _).alloc (Nat.le_refl _) _)).later ((Below.refl _ _).alloc (Nat.le_refl _) _)))
  have zz : (w.alloc (.cells #[.int .i64 a.1, .int .i64 a.2] 37)).heap.size = w.heap.size + 1 := by simp
  have Kb : Hid (BxP ((((w.alloc (.cells #[.int .i64 a.1, .int .i64 a.2] 37)).alloc (.cells #[.int .i64 b.1, .int .i64 b.2] 37)).alloc (.cells #[.int .i64 c.1, .int .i64 c.2] 37)).alloc (.cells #[.int .i64 p.1, .int .i64 p.2] 37)) (w.heap.size + 1) b.1 b.2) := hide (zz ▸ (((BxP.new (w := (w.alloc (.cells #[.int .i64 a.1, .int .i64 a.2] 37))) (x := b.1) (y := b.2) (t := 37)).later ((Below.refl _ _).alloc (Nat.le_refl _) _)).later ((Below.refl _ _).alloc (Nat.le_refl _) _)))
  clear zz
  have zz : ((w.alloc (.cells #[.int .i64 a.1, .int .i64 a.2] 37)).alloc (.cells #[.int .i64 b.1, .int .i64 b.2] 37)).heap.size = w.heap.size + 1 + 1 := by simp
  have Kc : Hid (BxP ((((w.alloc (.cells #[.int .i64 a.1, .int .i64 a.2] 37)).alloc (.cells #[.int .i64 b.1, .int .i64 b.2] 37)).alloc (.cells #[.int .i64 c.1, .int .i64 c.2] 37)).alloc (.cells #[.int .i64 p.1, .int .i64 p.2] 37)) (w.heap.size + 1 + 1) c.1 c.2) := hide (zz ▸ ((BxP.new (w := ((w.alloc (.cells #[.int .i64 a.1, .int .i64 a.2] 37)).alloc (.cells #[.int .i64 b.1, .int .i64 b.2] 37))) (x := c.1) (y := c.2) (t := 37)).later ((Below.refl _ _).alloc (Nat.le_refl _) _)))
  clear zz
  have zz : (((w.alloc (.cells #[.int .i64 a.1, .int .i64 a.2] 37)).alloc (.cells #[.int .i64 b.1, .int .i64 b.2] 37)).alloc (.cells #[.int .i64 c.1, .int .i64 c.2] 37)).heap.size = w.heap.size + 1 + 1 + 1 := by simp
  have Kp : Hid (BxP ((((w.alloc (.cells #[.int .i64 a.1, .int .i64 a.2] 37)).alloc (.cells #[.int .i64 b.1, .int .i64 b.2] 37)).alloc (.cells #[.int .i64 c.1, .int .i64 c.2] 37)).alloc (.cells #[.int .i64 p.1, .int .i64 p.2] 37)) (w.heap.size + 1 + 1 + 1) p.1 p.2) := hide (zz ▸ (BxP.new (w := (((w.alloc (.cells #[.int .i64 a.1, .int .i64 a.2] 37)).alloc (.cells #[.int .i64 b.1, .int .i64 b.2] 37)).alloc (.cells #[.int .i64 c.1, .int .i64 c.2] 37))) (x := p.1) (y := p.2) (t := 37)))
  clear zz
  go_enter Tryz.func46, Tryz.ntmps46
  go_upto_region 1 with fail
  generalize ((((w.alloc (.cells #[.int .i64 a.1, .int .i64 a.2] 37)).alloc (.cells #[.int .i64 b.1, .int .i64 b.2] 37)).alloc (.cells #[.int .i64 c.1, .int .i64 c.2] 37)).alloc (.cells #[.int .i64 p.1, .int .i64 p.2] 37)) = w1 at *
  have Ka_0 := (unhide Ka).c0
  have Ka_1 := (unhide Ka).c1
  have Kb_0 := (unhide Kb).c0
  have Kb_1 := (unhide Kb).c1
  have Kp_0 := (unhide Kp).c0
  have Kp_1 := (unhide Kp).c1
  go_wp2_with fail
  refine (unhide C0 _).mono ?_
  rintro e w2 ⟨rfl, hb⟩
  clear Ka_0 Ka_1 Kb_0 Kb_1 Kp_0 Kp_1
  replace Ka := hide ((unhide Ka).later hb)
  replace Kb := hide ((unhide Kb).later hb)
  replace Kc := hide ((unhide Kc).later hb)
  replace Kp := hide ((unhide Kp).later hb)
  replace BW := hide (below_on (unhide BW) hb)
  clear hb
  have Kb_0 := (unhide Kb).c0
  have Kb_1 := (unhide Kb).c1
  have Kc_0 := (unhide Kc).c0
  have Kc_1 := (unhide Kc).c1
  have Kp_0 := (unhide Kp).c0
  have Kp_1 := (unhide Kp).c1
  go_wp2_with fail
  refine (unhide C1 _).mono ?_
  rintro e w3 ⟨rfl, hb⟩
  clear Kb_0 Kb_1 Kc_0 Kc_1 Kp_0 Kp_1
  replace Ka := hide ((unhide Ka).later hb)
  replace Kb := hide ((unhide Kb).later hb)
  replace Kc := hide ((unhide Kc).later hb)
  replace Kp := hide ((unhide Kp).later hb)
  replace BW := hide (below_on (unhide BW) hb)
  clear hb
  have Kc_0 := (unhide Kc).c0
  have Kc_1 := (unhide Kc).c1
  have Ka_0 := (unhide Ka).c0
  have Ka_1 := (unhide Ka).c1
  have Kp_0 := (unhide Kp).c0
  have Kp_1 := (unhide Kp).c1
  go_wp2_with fail
  refine (unhide C2 _).mono ?_
  rintro e w4 ⟨rfl, hb⟩
  clear Kc_0 Kc_1 Ka_0 Ka_1 Kp_0 Kp_1
  replace Ka := hide ((unhide Ka).later hb)
  replace Kb := hide ((unhide Kb).later hb)
  replace Kc := hide ((unhide Kc).later hb)
  replace Kp := hide ((unhide Kp).later hb)
  replace BW := hide (below_on (unhide BW) hb)
  clear hb
  clear Ka Kb Kc Kp
  clear C0 C1 C2
  obtain rfl | rfl | rfl : x = -1 ∨ x = 0 ∨ x = 1 := by omega
  all_goals obtain rfl | rfl | rfl : y = -1 ∨ y = 0 ∨ y = 1 := by omega
  all_goals obtain rfl | rfl | rfl : z = -1 ∨ z = 0 ∨ z = 1 := by omega
  all_goals clear b0 b1 b2
  all_goals go_wp2_with fail
  all_goals go_ret
  all_goals exact ⟨rfl, unhide BW⟩
set_option maxHeartbeats 4000000 in
theorem InTriangleS (a b c p : Int × Int) (w : World) :
    Calls Tryz.prog 18 #[.agg #[.int .i64 a.1, .int .i64 a.2], .agg #[.int .i64 b.1, .int .i64 b.2], .agg #[.int .i64 c.1, .int .i64 c.2], .agg #[.int .i64 p.1, .int .i64 p.2]] w fun e w' => e = .returned (.tuple #[.bool (itV a b c p), .bool (itB a b c p)]) ∧ Below w.heap.size w w' := by
  cases hg : [a, b, c, p].all gPt
  · have e0 : itB a b c p = false := by unfold itB; rw [hg]; rfl
    have e1 : itV a b c p = false := by unfold itV; rw [e0]; rfl
    rw [e0, e1]
    clear e0 e1
    have HG := hide hg
    clear hg
    have BW : Hid (Below w.heap.size w w) := hide (Below.refl _ _)
    have al : Below w.heap.size w ((((w.alloc (.cells #[.int .i64 a.1, .int .i64 a.2] 37)).alloc (.cells #[.int .i64 b.1, .int .i64 b.2] 37)).alloc (.cells #[.int .i64 c.1, .int .i64 c.2] 37)).alloc (.cells #[.int .i64 p.1, .int .i64 p.2] 37)) := (((((Below.refl _ _).alloc (Nat.le_refl _) _).alloc (by simp) _).alloc (by simp; omega) _).alloc (by simp; omega) _)
    replace BW := hide (below_on (unhide BW) al)
    clear al
    have Ka : Hid (BxP ((((w.alloc (.cells #[.int .i64 a.1, .int .i64 a.2] 37)).alloc (.cells #[.int .i64 b.1, .int .i64 b.2] 37)).alloc (.cells #[.int .i64 c.1, .int .i64 c.2] 37)).alloc (.cells #[.int .i64 p.1, .int .i64 p.2] 37)) (w.heap.size) a.1 a.2) := hide (((((BxP.new (w := w) (x := a.1) (y := a.2) (t := 37)).later ((Below.refl _ _).alloc (Nat.le_refl _) _)).later ((Below.refl _ _).alloc (Nat.le_refl _) _)).later ((Below.refl _ _).alloc (Nat.le_refl _) _)))
    have zz : (w.alloc (.cells #[.int .i64 a.1, .int .i64 a.2] 37)).heap.size = w.heap.size + 1 := by simp
    have Kb : Hid (BxP ((((w.alloc (.cells #[.int .i64 a.1, .int .i64 a.2] 37)).alloc (.cells #[.int .i64 b.1, .int .i64 b.2] 37)).alloc (.cells #[.int .i64 c.1, .int .i64 c.2] 37)).alloc (.cells #[.int .i64 p.1, .int .i64 p.2] 37)) (w.heap.size + 1) b.1 b.2) := hide (zz ▸ (((BxP.new (w := (w.alloc (.cells #[.int .i64 a.1, .int .i64 a.2] 37))) (x := b.1) (y := b.2) (t := 37)).later ((Below.refl _ _).alloc (Nat.le_refl _) _)).later ((Below.refl _ _).alloc (Nat.le_refl _) _)))
    clear zz
    have zz : ((w.alloc (.cells #[.int .i64 a.1, .int .i64 a.2] 37)).alloc (.cells #[.int .i64 b.1, .int .i64 b.2] 37)).heap.size = w.heap.size + 1 + 1 := by simp
    have Kc : Hid (BxP ((((w.alloc (.cells #[.int .i64 a.1, .int .i64 a.2] 37)).alloc (.cells #[.int .i64 b.1, .int .i64 b.2] 37)).alloc (.cells #[.int .i64 c.1, .int .i64 c.2] 37)).alloc (.cells #[.int .i64 p.1, .int .i64 p.2] 37)) (w.heap.size + 1 + 1) c.1 c.2) := hide (zz ▸ ((BxP.new (w := ((w.alloc (.cells #[.int .i64 a.1, .int .i64 a.2] 37)).alloc (.cells #[.int .i64 b.1, .int .i64 b.2] 37))) (x := c.1) (y := c.2) (t := 37)).later ((Below.refl _ _).alloc (Nat.le_refl _) _)))
    clear zz
    have zz : (((w.alloc (.cells #[.int .i64 a.1, .int .i64 a.2] 37)).alloc (.cells #[.int .i64 b.1, .int .i64 b.2] 37)).alloc (.cells #[.int .i64 c.1, .int .i64 c.2] 37)).heap.size = w.heap.size + 1 + 1 + 1 := by simp
    have Kp : Hid (BxP ((((w.alloc (.cells #[.int .i64 a.1, .int .i64 a.2] 37)).alloc (.cells #[.int .i64 b.1, .int .i64 b.2] 37)).alloc (.cells #[.int .i64 c.1, .int .i64 c.2] 37)).alloc (.cells #[.int .i64 p.1, .int .i64 p.2] 37)) (w.heap.size + 1 + 1 + 1) p.1 p.2) := hide (zz ▸ (BxP.new (w := (((w.alloc (.cells #[.int .i64 a.1, .int .i64 a.2] 37)).alloc (.cells #[.int .i64 b.1, .int .i64 b.2] 37)).alloc (.cells #[.int .i64 c.1, .int .i64 c.2] 37))) (x := p.1) (y := p.2) (t := 37)))
    clear zz
    have C3 : Hid (SlP (((((w.alloc (.cells #[.int .i64 a.1, .int .i64 a.2] 37)).alloc (.cells #[.int .i64 b.1, .int .i64 b.2] 37)).alloc (.cells #[.int .i64 c.1, .int .i64 c.2] 37)).alloc (.cells #[.int .i64 p.1, .int .i64 p.2] 37)).alloc (.cells #[.int .i64 a.1, .int .i64 a.2, .int .i64 b.1, .int .i64 b.2, .int .i64 c.1, .int .i64 c.2, .int .i64 p.1, .int .i64 p.2] 37)) (some ⟨w.heap.size + 1 + 1 + 1 + 1, 0, none⟩) [a, b, c, p]) := hide (by have k := cellsP4 ((((w.alloc (.cells #[.int .i64 a.1, .int .i64 a.2] 37)).alloc (.cells #[.int .i64 b.1, .int .i64 b.2] 37)).alloc (.cells #[.int .i64 c.1, .int .i64 c.2] 37)).alloc (.cells #[.int .i64 p.1, .int .i64 p.2] 37)) a b c p; rw [show ((((w.alloc (.cells #[.int .i64 a.1, .int .i64 a.2] 37)).alloc (.cells #[.int .i64 b.1, .int .i64 b.2] 37)).alloc (.cells #[.int .i64 c.1, .int .i64 c.2] 37)).alloc (.cells #[.int .i64 p.1, .int .i64 p.2] 37)).heap.size = w.heap.size + 1 + 1 + 1 + 1 by simp] at k; exact k)
    have al : Below ((((w.alloc (.cells #[.int .i64 a.1, .int .i64 a.2] 37)).alloc (.cells #[.int .i64 b.1, .int .i64 b.2] 37)).alloc (.cells #[.int .i64 c.1, .int .i64 c.2] 37)).alloc (.cells #[.int .i64 p.1, .int .i64 p.2] 37)).heap.size ((((w.alloc (.cells #[.int .i64 a.1, .int .i64 a.2] 37)).alloc (.cells #[.int .i64 b.1, .int .i64 b.2] 37)).alloc (.cells #[.int .i64 c.1, .int .i64 c.2] 37)).alloc (.cells #[.int .i64 p.1, .int .i64 p.2] 37)) (((((w.alloc (.cells #[.int .i64 a.1, .int .i64 a.2] 37)).alloc (.cells #[.int .i64 b.1, .int .i64 b.2] 37)).alloc (.cells #[.int .i64 c.1, .int .i64 c.2] 37)).alloc (.cells #[.int .i64 p.1, .int .i64 p.2] 37)).alloc (.cells #[.int .i64 a.1, .int .i64 a.2, .int .i64 b.1, .int .i64 b.2, .int .i64 c.1, .int .i64 c.2, .int .i64 p.1, .int .i64 p.2] 37)) := (Below.refl _ _).alloc (Nat.le_refl _) _
    replace Ka := hide ((unhide Ka).later al)
    replace Kb := hide ((unhide Kb).later al)
    replace Kc := hide ((unhide Kc).later al)
    replace Kp := hide ((unhide Kp).later al)
    replace BW := hide (below_on (unhide BW) al)
    clear al
    go_enter Tryz.func18, Tryz.ntmps18
    go_wp2_with fail
    refine (ptsS _ 4 4 [a, b, c, p] _ (unhide C3) rfl (by unfold maxLen; omega)).mono ?_
    rintro e w1 ⟨rfl, hb⟩
    replace Ka := hide ((unhide Ka).later hb)
    replace Kb := hide ((unhide Kb).later hb)
    replace Kc := hide ((unhide Kc).later hb)
    replace Kp := hide ((unhide Kp).later hb)
    replace BW := hide (below_on (unhide BW) hb)
    clear hb
    clear C3
    rw [unhide HG]
    clear Ka Kb Kc Kp
    go_wp2_with fail
    go_ret2
    exact ⟨rfl, unhide BW⟩
  · have na : Near a := near_of (List.all_eq_true.1 hg a (by simp))
    have nb : Near b := near_of (List.all_eq_true.1 hg b (by simp))
    have nc : Near c := near_of (List.all_eq_true.1 hg c (by simp))
    have np : Near p := near_of (List.all_eq_true.1 hg p (by simp))
    have C0 := hide (fun w => orientS8 a b c w na nb nc)
    have C1 := hide (fun w => inS11 a b c p w na nb nc np)
    have e0 : itB a b c p = !(sgZ (crs a b c) == 0) := by unfold itB; rw [hg]; rfl
    have e1 : itV a b c p = (!(sgZ (crs a b c) == 0) && inT a b c p) := by unfold itV; rw [e0]
    rw [e0, e1]
    clear e0 e1 na nb nc np
    generalize sgZ (crs a b c) = k at *
    generalize inT a b c p = v at *
    have HG := hide hg
    clear hg
    have BW : Hid (Below w.heap.size w w) := hide (Below.refl _ _)
    have al : Below w.heap.size w ((((w.alloc (.cells #[.int .i64 a.1, .int .i64 a.2] 37)).alloc (.cells #[.int .i64 b.1, .int .i64 b.2] 37)).alloc (.cells #[.int .i64 c.1, .int .i64 c.2] 37)).alloc (.cells #[.int .i64 p.1, .int .i64 p.2] 37)) := (((((Below.refl _ _).alloc (Nat.le_refl _) _).alloc (by simp) _).alloc (by simp; omega) _).alloc (by simp; omega) _)
    replace BW := hide (below_on (unhide BW) al)
    clear al
    have Ka : Hid (BxP ((((w.alloc (.cells #[.int .i64 a.1, .int .i64 a.2] 37)).alloc (.cells #[.int .i64 b.1, .int .i64 b.2] 37)).alloc (.cells #[.int .i64 c.1, .int .i64 c.2] 37)).alloc (.cells #[.int .i64 p.1, .int .i64 p.2] 37)) (w.heap.size) a.1 a.2) := hide (((((BxP.new (w := w) (x := a.1) (y := a.2) (t := 37)).later ((Below.refl _ _).alloc (Nat.le_refl _) _)).later ((Below.refl _ _).alloc (Nat.le_refl _) _)).later ((Below.refl _ _).alloc (Nat.le_refl _) _)))
    have zz : (w.alloc (.cells #[.int .i64 a.1, .int .i64 a.2] 37)).heap.size = w.heap.size + 1 := by simp
    have Kb : Hid (BxP ((((w.alloc (.cells #[.int .i64 a.1, .int .i64 a.2] 37)).alloc (.cells #[.int .i64 b.1, .int .i64 b.2] 37)).alloc (.cells #[.int .i64 c.1, .int .i64 c.2] 37)).alloc (.cells #[.int .i64 p.1, .int .i64 p.2] 37)) (w.heap.size + 1) b.1 b.2) := hide (zz ▸ (((BxP.new (w := (w.alloc (.cells #[.int .i64 a.1, .int .i64 a.2] 37))) (x := b.1) (y := b.2) (t := 37)).later ((Below.refl _ _).alloc (Nat.le_refl _) _)).later ((Below.refl _ _).alloc (Nat.le_refl _) _)))
    clear zz
    have zz : ((w.alloc (.cells #[.int .i64 a.1, .int .i64 a.2] 37)).alloc (.cells #[.int .i64 b.1, .int .i64 b.2] 37)).heap.size = w.heap.size + 1 + 1 := by simp
    have Kc : Hid (BxP ((((w.alloc (.cells #[.int .i64 a.1, .int .i64 a.2] 37)).alloc (.cells #[.int .i64 b.1, .int .i64 b.2] 37)).alloc (.cells #[.int .i64 c.1, .int .i64 c.2] 37)).alloc (.cells #[.int .i64 p.1, .int .i64 p.2] 37)) (w.heap.size + 1 + 1) c.1 c.2) := hide (zz ▸ ((BxP.new (w := ((w.alloc (.cells #[.int .i64 a.1, .int .i64 a.2] 37)).alloc (.cells #[.int .i64 b.1, .int .i64 b.2] 37))) (x := c.1) (y := c.2) (t := 37)).later ((Below.refl _ _).alloc (Nat.le_refl _) _)))
    clear zz
    have zz : (((w.alloc (.cells #[.int .i64 a.1, .int .i64 a.2] 37)).alloc (.cells #[.int .i64 b.1, .int .i64 b.2] 37)).alloc (.cells #[.int .i64 c.1, .int .i64 c.2] 37)).heap.size = w.heap.size + 1 + 1 + 1 := by simp
    have Kp : Hid (BxP ((((w.alloc (.cells #[.int .i64 a.1, .int .i64 a.2] 37)).alloc (.cells #[.int .i64 b.1, .int .i64 b.2] 37)).alloc (.cells #[.int .i64 c.1, .int .i64 c.2] 37)).alloc (.cells #[.int .i64 p.1, .int .i64 p.2] 37)) (w.heap.size + 1 + 1 + 1) p.1 p.2) := hide (zz ▸ (BxP.new (w := (((w.alloc (.cells #[.int .i64 a.1, .int .i64 a.2] 37)).alloc (.cells #[.int .i64 b.1, .int .i64 b.2] 37)).alloc (.cells #[.int .i64 c.1, .int .i64 c.2] 37))) (x := p.1) (y := p.2) (t := 37)))
    clear zz
    have C3 : Hid (SlP (((((w.alloc (.cells #[.int .i64 a.1, .int .i64 a.2] 37)).alloc (.cells #[.int .i64 b.1, .int .i64 b.2] 37)).alloc (.cells #[.int .i64 c.1, .int .i64 c.2] 37)).alloc (.cells #[.int .i64 p.1, .int .i64 p.2] 37)).alloc (.cells #[.int .i64 a.1, .int .i64 a.2, .int .i64 b.1, .int .i64 b.2, .int .i64 c.1, .int .i64 c.2, .int .i64 p.1, .int .i64 p.2] 37)) (some ⟨w.heap.size + 1 + 1 + 1 + 1, 0, none⟩) [a, b, c, p]) := hide (by have k := cellsP4 ((((w.alloc (.cells #[.int .i64 a.1, .int .i64 a.2] 37)).alloc (.cells #[.int .i64 b.1, .int .i64 b.2] 37)).alloc (.cells #[.int .i64 c.1, .int .i64 c.2] 37)).alloc (.cells #[.int .i64 p.1, .int .i64 p.2] 37)) a b c p; rw [show ((((w.alloc (.cells #[.int .i64 a.1, .int .i64 a.2] 37)).alloc (.cells #[.int .i64 b.1, .int .i64 b.2] 37)).alloc (.cells #[.int .i64 c.1, .int .i64 c.2] 37)).alloc (.cells #[.int .i64 p.1, .int .i64 p.2] 37)).heap.size = w.heap.size + 1 + 1 + 1 + 1 by simp] at k; exact k)
    have al : Below ((((w.alloc (.cells #[.int .i64 a.1, .int .i64 a.2] 37)).alloc (.cells #[.int .i64 b.1, .int .i64 b.2] 37)).alloc (.cells #[.int .i64 c.1, .int .i64 c.2] 37)).alloc (.cells #[.int .i64 p.1, .int .i64 p.2] 37)).heap.size ((((w.alloc (.cells #[.int .i64 a.1, .int .i64 a.2] 37)).alloc (.cells #[.int .i64 b.1, .int .i64 b.2] 37)).alloc (.cells #[.int .i64 c.1, .int .i64 c.2] 37)).alloc (.cells #[.int .i64 p.1, .int .i64 p.2] 37)) (((((w.alloc (.cells #[.int .i64 a.1, .int .i64 a.2] 37)).alloc (.cells #[.int .i64 b.1, .int .i64 b.2] 37)).alloc (.cells #[.int .i64 c.1, .int .i64 c.2] 37)).alloc (.cells #[.int .i64 p.1, .int .i64 p.2] 37)).alloc (.cells #[.int .i64 a.1, .int .i64 a.2, .int .i64 b.1, .int .i64 b.2, .int .i64 c.1, .int .i64 c.2, .int .i64 p.1, .int .i64 p.2] 37)) := (Below.refl _ _).alloc (Nat.le_refl _) _
    replace Ka := hide ((unhide Ka).later al)
    replace Kb := hide ((unhide Kb).later al)
    replace Kc := hide ((unhide Kc).later al)
    replace Kp := hide ((unhide Kp).later al)
    replace BW := hide (below_on (unhide BW) al)
    clear al
    go_enter Tryz.func18, Tryz.ntmps18
    go_wp2_with fail
    refine (ptsS _ 4 4 [a, b, c, p] _ (unhide C3) rfl (by unfold maxLen; omega)).mono ?_
    rintro e w2 ⟨rfl, hb⟩
    replace Ka := hide ((unhide Ka).later hb)
    replace Kb := hide ((unhide Kb).later hb)
    replace Kc := hide ((unhide Kc).later hb)
    replace Kp := hide ((unhide Kp).later hb)
    replace BW := hide (below_on (unhide BW) hb)
    clear hb
    clear C3
    rw [unhide HG]
    have Ka_0 := (unhide Ka).c0
    have Ka_1 := (unhide Ka).c1
    have Kb_0 := (unhide Kb).c0
    have Kb_1 := (unhide Kb).c1
    have Kc_0 := (unhide Kc).c0
    have Kc_1 := (unhide Kc).c1
    go_wp2_with fail
    refine (unhide C0 _).mono ?_
    rintro e w3 ⟨rfl, hb⟩
    clear Ka_0 Ka_1 Kb_0 Kb_1 Kc_0 Kc_1
    replace Ka := hide ((unhide Ka).later hb)
    replace Kb := hide ((unhide Kb).later hb)
    replace Kc := hide ((unhide Kc).later hb)
    replace Kp := hide ((unhide Kp).later hb)
    replace BW := hide (below_on (unhide BW) hb)
    clear hb
    clear C0
    cases hk : (k == 0)
    · skip
      have Ka_0 := (unhide Ka).c0
      have Ka_1 := (unhide Ka).c1
      have Kb_0 := (unhide Kb).c0
      have Kb_1 := (unhide Kb).c1
      have Kc_0 := (unhide Kc).c0
      have Kc_1 := (unhide Kc).c1
      have Kp_0 := (unhide Kp).c0
      have Kp_1 := (unhide Kp).c1
      go_wp2_with fail
      refine (unhide C1 _).mono ?_
      rintro e w4 ⟨rfl, hb⟩
      clear Ka_0 Ka_1 Kb_0 Kb_1 Kc_0 Kc_1 Kp_0 Kp_1
      replace Ka := hide ((unhide Ka).later hb)
      replace Kb := hide ((unhide Kb).later hb)
      replace Kc := hide ((unhide Kc).later hb)
      replace Kp := hide ((unhide Kp).later hb)
      replace BW := hide (below_on (unhide BW) hb)
      clear hb
      clear Ka Kb Kc Kp
      go_wp2_with fail
      go_ret2
      exact ⟨by simp only [hk]; rfl, unhide BW⟩
    · skip
      clear Ka Kb Kc Kp
      go_wp2_with fail
      go_ret2
      exact ⟨by simp only [hk]; rfl, unhide BW⟩
/-- The numbers from 0 on. -/
def upI (n : Nat) : List Int := (List.range n).map (fun k : Nat => (k : Int))
theorem upI_len (n : Nat) : (upI n).length = n := by simp [upI]
theorem upI_succ (n : Nat) : upI (n + 1) = upI n ++ [(n : Int)] := by simp [upI, List.range_succ]
set_option maxHeartbeats 4000000 in
theorem allS (a : Option Addr) (n c : Nat) (w : World) (h1 : n ≤ 1048576) :
    Calls Tryz.prog 27 #[.slice a n c] w fun e w' => ∃ v, e = .returned v ∧ Below w.heap.size w w' ∧ RwI w.heap.size w' v (upI n) := by
  obtain ⟨i0, hi, hz0, hz1, hz2⟩ := info_parts Tryz.info3
  go_enter Tryz.func27, Tryz.ntmps27
  go_wp2
  go_loopw [3, 7] (fun v iv wr => ∃ i : Nat, i ≤ n ∧ iv = .int .i64 i ∧ Hid (RwI w.heap.size wr v (upI i)) ∧ Hid (Below w.heap.size w wr)) (fun _ iv _ => n - (intOf iv).toNat)
  case atStart => exact ⟨0, Nat.zero_le _, rfl, hide (RwI.nil _ _), hide (Below.refl _ _)⟩
  case round =>
    obtain ⟨i, hi', rfl, HR, HB⟩ := hrel
    by_cases hlt : i < n
    · have hlt' : (i : Int) < (n : Int) := by omega
      have LI := upI_len i
      go_wp2_with (at_builtin; refine wpList_append_own _ rfl (.tmp 10) (.tmp 12) 28 rfl w.heap.size 3 i0 (.int .i64 0) 1 8 Tryz.underlying28 hi hz0 hz1 hz2 rfl (by decide) _ _ _ rfl ((unhide HR).row.alloc _) ⟨_, 0, none⟩ 1 1 [.int .i64 (i : Int)] rfl rfl (new_cellI _ _) (fun u hu => by simp at hu; subst hu; rfl) (by unfold maxLen; omega) (by omega) (by have := (unhide HB).size; simp; omega) ?_)
      intro v' w6 hown hgr _
      have RN : Hid (RwI w.heap.size w6 v' (upI (i + 1))) := hide (by rw [upI_succ]; exact RwI.snoc (by rw [LI]; exact hown))
      have HBN := hide (owns_belowR (unhide HB) (unhide HB).size (unhide HR).row hgr)
      clear hown hgr HR
      go_wp2
      go_roundw
      case rel => exact ⟨i + 1, by omega, by go_num, RN, HBN⟩
      case measure => simp [intOf]; omega
    · obtain rfl : i = n := by omega
      go_wp2
      go_ret
      exact ⟨_, rfl, unhide HB, unhide HR⟩
theorem aroundS (a : Option Addr) (n c : Nat) (L : List Int) (i : Nat) (w : World) (h : Sl w a L) (hn : L.length = n) (hi : i < n) (h1 : n ≤ 1048576) :
    Calls Tryz.prog 52 #[.slice a n c, .int .i64 i] w fun e w' => e = .returned (.tuple #[.int .i64 (L.getD ((i + n - 1) % n) 0), .int .i64 (L.getD ((i + 1) % n) 0)]) ∧ Below w.heap.size w w' := by
  rcases h with e | ⟨b, off, rfl, hb, hc⟩
  · subst e; simp at hn; omega
  have np : 0 < n := by omega
  obtain ⟨j, hj⟩ : ∃ j, j = (i + n - 1) % n := ⟨_, rfl⟩
  obtain ⟨k, hk⟩ : ∃ k, k = (i + 1) % n := ⟨_, rfl⟩
  have jl : j < n := by rw [hj]; exact Nat.mod_lt _ np
  have kl : k < n := by rw [hk]; exact Nat.mod_lt _ np
  have E0 := hc j (by omega)
  have E1 := hc k (by omega)
  rw [← hj, ← hk]
  generalize L.getD j 0 = x at *
  generalize L.getD k 0 = y at *
  have d1 : IntKind.i64.wrap ((i : Int) + (n : Int)) = (i : Int) + (n : Int) := by rw [IntKind.wrap_i64]; omega
  have d2 : IntKind.i64.wrap ((i : Int) + (n : Int) - 1) = (i : Int) + (n : Int) - 1 := by rw [IntKind.wrap_i64]; omega
  have d3 : IntKind.i64.wrap ((i : Int) + 1) = (i : Int) + 1 := by rw [IntKind.wrap_i64]; omega
  have j1 : ((i : Int) + (n : Int) - 1).tmod (n : Int) = (j : Int) := by rw [hj, show (i : Int) + (n : Int) - 1 = ((i + n - 1 : Nat) : Int) by omega]; rfl
  have j2 : ((i : Int) + (n : Int) - 1) % (n : Int) = (j : Int) := by rw [hj, show (i : Int) + (n : Int) - 1 = ((i + n - 1 : Nat) : Int) by omega]; rfl
  have k1 : ((i : Int) + 1).tmod (n : Int) = (k : Int) := by rw [hk, ← Int.natCast_one, ← Int.natCast_add]; rfl
  have k2 : ((i : Int) + 1) % (n : Int) = (k : Int) := by rw [hk, ← Int.natCast_one, ← Int.natCast_add]; rfl
  have wj : IntKind.i64.wrap (j : Int) = (j : Int) := by rw [IntKind.wrap_i64]; omega
  have wk : IntKind.i64.wrap (k : Int) = (k : Int) := by rw [IntKind.wrap_i64]; omega
  have jl' : (j : Int) < (n : Int) := by omega
  have kl' : (k : Int) < (n : Int) := by omega
  have j0 : (0 : Int) ≤ (j : Int) := by omega
  have k0 : (0 : Int) ≤ (k : Int) := by omega
  have nz2 : (n : Int) ≠ 0 := by omega
  have nz3 : ¬ (n = 0) := by omega
  have nz4 : ¬ ((n : Int) = -1) := by omega
  clear hj hk hc hn
  go_enter Tryz.func52, Tryz.ntmps52
  go_wp2
  go_region
  go_wp2
  go_ret2
  exact ⟨rfl, (Below.refl _ _).drew⟩
end Go.Proofs.YtomekmhonfofkaaGreat
