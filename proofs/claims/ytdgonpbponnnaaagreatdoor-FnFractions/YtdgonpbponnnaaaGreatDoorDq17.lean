/- What FnFractions draws. No condition beyond those typed. Written by mkdq17.py. -/
import Derived.Test.YtdgonpbponnnaaaGreatDoorQc17
namespace Go.Proofs.YtdgonpbponnnaaaGreatDoor
open Go.RowKit
set_option linter.unusedVariables false
set_option maxRecDepth 100000
set_option linter.unusedSimpArgs false
namespace Aq

/-- Two fractions' cells; all that was there stays. -/
def OutRR (w : World) (e : Ending) (w' : World) : Prop := ∃ (v1 v2 : QV) (d1 d2 : QD), e = .returned (.tuple #[.agg #[.bool v1.num.g, .slice v1.num.a v1.num.n v1.num.c, .bool v1.den.g, .slice v1.den.a v1.den.n v1.den.c], .agg #[.bool v2.num.g, .slice v2.num.a v2.num.n v2.num.c, .bool v2.den.g, .slice v2.den.a v2.den.n v2.den.c]]) ∧ AllOA w.heap.size w'.heap.size w' [(v1.num, d1.num), (v1.den, d1.den)] ∧ AllOA w.heap.size w'.heap.size w' [(v2.num, d2.num), (v2.den, d2.den)] ∧ Below w.heap.size w w'
def OutR1 (w : World) (e : Ending) (w' : World) : Prop := ∃ (v1 : QV) (d1 : QD), e = .returned (.agg #[.bool v1.num.g, .slice v1.num.a v1.num.n v1.num.c, .bool v1.den.g, .slice v1.den.a v1.den.n v1.den.c]) ∧ AllOA w.heap.size w'.heap.size w' [(v1.num, d1.num), (v1.den, d1.den)] ∧ Below w.heap.size w w'
theorem q_set {W : World} {R : Nat} {x0 x1 x2 x3 x4 x5 x6 x7 : Value} : But R (R + 2) W ((((((((W.setCell ⟨R, 0, none⟩ x0).setCell ⟨R, 1, none⟩ x1).setCell ⟨R, 2, none⟩ x2).setCell ⟨R, 3, none⟩ x3).setCell ⟨R + 1, 0, none⟩ x4).setCell ⟨R + 1, 1, none⟩ x5).setCell ⟨R + 1, 2, none⟩ x6).setCell ⟨R + 1, 3, none⟩ x7) :=
  (((((((((But.refl _ _ W).set (p := ⟨R, 0, none⟩) (Nat.le_refl _) (by show R < _; omega) _).set (p := ⟨R, 1, none⟩) (Nat.le_refl _) (by show R < _; omega) _).set (p := ⟨R, 2, none⟩) (Nat.le_refl _) (by show R < _; omega) _).set (p := ⟨R, 3, none⟩) (Nat.le_refl _) (by show R < _; omega) _).set (p := ⟨R + 1, 0, none⟩) (by show R ≤ R + 1; omega) (by show R + 1 < _; omega) _).set (p := ⟨R + 1, 1, none⟩) (by show R ≤ R + 1; omega) (by show R + 1 < _; omega) _).set (p := ⟨R + 1, 2, none⟩) (by show R ≤ R + 1; omega) (by show R + 1 < _; omega) _).set (p := ⟨R + 1, 3, none⟩) (by show R ≤ R + 1; omega) (by show R + 1 < _; omega) _)
theorem rr_fin {w W W' : World} {v1 v2 : QV} {d1 d2 : QD} {h1 h2 : Nat} (hb : But w.heap.size (w.heap.size + 2) W W') (bw : Below w.heap.size w W) (o1 : AllOA (w.heap.size + 2) h1 W [(v1.num, d1.num), (v1.den, d1.den)]) (o2 : AllOA (w.heap.size + 2) h2 W [(v2.num, d2.num), (v2.den, d2.den)]) (q1 : h1 ≤ W.heap.size) (q2 : h2 ≤ W.heap.size) :
    OutRR w (.returned (.tuple #[.agg #[.bool v1.num.g, .slice v1.num.a v1.num.n v1.num.c, .bool v1.den.g, .slice v1.den.a v1.den.n v1.den.c], .agg #[.bool v2.num.g, .slice v2.num.a v2.num.n v2.num.c, .bool v2.den.g, .slice v2.den.a v2.den.n v2.den.c]])) W' :=
  ⟨v1, v2, d1, d2, rfl, (o1.but hb (.inr (Nat.le_refl _))).wide (by omega) (Nat.le_trans q1 hb.size), (o2.but hb (.inr (Nat.le_refl _))).wide (by omega) (Nat.le_trans q2 hb.size), hb.below bw (Nat.le_refl _) bw.size⟩
theorem r1_fin {w W W' : World} {v1 : QV} {d1 : QD} {h1 : Nat} (hb : But w.heap.size (w.heap.size + 1) W W') (bw : Below w.heap.size w W) (o1 : AllOA (w.heap.size + 1) h1 W [(v1.num, d1.num), (v1.den, d1.den)]) (q1 : h1 ≤ W.heap.size) :
    OutR1 w (.returned (.agg #[.bool v1.num.g, .slice v1.num.a v1.num.n v1.num.c, .bool v1.den.g, .slice v1.den.a v1.den.n v1.den.c])) W' :=
  ⟨v1, d1, rfl, (o1.but hb (.inr (Nat.le_refl _))).wide (by omega) (Nat.le_trans q1 hb.size), hb.below bw (Nat.le_refl _) bw.size⟩
set_option maxHeartbeats 8000000 in
theorem drawQ2 (a : Option Addr) (n c : Nat) (w : World) (h : ArY w a n) :
    Calls Tryz.prog 24 #[.slice a n c] w (OutRR w) := by
  have H := hide h
  clear h
  go_enter Tryz.func24, Tryz.ntmps24
  go_wp2_with fail
  have e0 : ((w.alloc (.cells #[.bool false, .slice none 0 0, .bool false, .slice none 0 0] 27)).alloc (.cells #[.bool false, .slice none 0 0, .bool false, .slice none 0 0] 27)).heap.size = w.heap.size + 2 := by simp
  have al : Below w.heap.size w ((w.alloc (.cells #[.bool false, .slice none 0 0, .bool false, .slice none 0 0] 27)).alloc (.cells #[.bool false, .slice none 0 0, .bool false, .slice none 0 0] 27)) := ((Below.refl _ _).alloc (Nat.le_refl _) _).alloc (by simp) _
  have CU : Hid (Cur (w.heap.size + 2) 0 (((w.alloc (.cells #[.bool false, .slice none 0 0, .bool false, .slice none 0 0] 27)).alloc (.cells #[.bool false, .slice none 0 0, .bool false, .slice none 0 0] 27)).alloc (.cells #[.slice a n c, .int .i64 0, .int .u64 0] 57))) := hide (e0 ▸ Cur.new (w := ((w.alloc (.cells #[.bool false, .slice none 0 0, .bool false, .slice none 0 0] 27)).alloc (.cells #[.bool false, .slice none 0 0, .bool false, .slice none 0 0] 27))) (c := c) (t := 57) ((unhide H).later al))
  have al3 : Below ((w.alloc (.cells #[.bool false, .slice none 0 0, .bool false, .slice none 0 0] 27)).alloc (.cells #[.bool false, .slice none 0 0, .bool false, .slice none 0 0] 27)).heap.size ((w.alloc (.cells #[.bool false, .slice none 0 0, .bool false, .slice none 0 0] 27)).alloc (.cells #[.bool false, .slice none 0 0, .bool false, .slice none 0 0] 27)) (((w.alloc (.cells #[.bool false, .slice none 0 0, .bool false, .slice none 0 0] 27)).alloc (.cells #[.bool false, .slice none 0 0, .bool false, .slice none 0 0] 27)).alloc (.cells #[.slice a n c, .int .i64 0, .int .u64 0] 57)) := (Below.refl _ _).alloc (Nat.le_refl _) _
  have Z1 : Hid (Zq (((w.alloc (.cells #[.bool false, .slice none 0 0, .bool false, .slice none 0 0] 27)).alloc (.cells #[.bool false, .slice none 0 0, .bool false, .slice none 0 0] 27)).alloc (.cells #[.slice a n c, .int .i64 0, .int .u64 0] 57)) w.heap.size) := hide ((Zq.new.later ((Below.refl _ _).alloc (Nat.le_refl _) _)).later al3)
  have Z2 : Hid (Zq (((w.alloc (.cells #[.bool false, .slice none 0 0, .bool false, .slice none 0 0] 27)).alloc (.cells #[.bool false, .slice none 0 0, .bool false, .slice none 0 0] 27)).alloc (.cells #[.slice a n c, .int .i64 0, .int .u64 0] 57)) (w.heap.size + 1)) := hide ((by have k := Zq.new (w := (w.alloc (.cells #[.bool false, .slice none 0 0, .bool false, .slice none 0 0] 27))) (t := 27); simpa using k : Zq ((w.alloc (.cells #[.bool false, .slice none 0 0, .bool false, .slice none 0 0] 27)).alloc (.cells #[.bool false, .slice none 0 0, .bool false, .slice none 0 0] 27)) (w.heap.size + 1)).later al3)
  have BW : Hid (Below w.heap.size w (((w.alloc (.cells #[.bool false, .slice none 0 0, .bool false, .slice none 0 0] 27)).alloc (.cells #[.bool false, .slice none 0 0, .bool false, .slice none 0 0] 27)).alloc (.cells #[.slice a n c, .int .i64 0, .int .u64 0] 57))) := hide (al.trans (al3.mono (by omega)))
  have sz3 : (((w.alloc (.cells #[.bool false, .slice none 0 0, .bool false, .slice none 0 0] 27)).alloc (.cells #[.bool false, .slice none 0 0, .bool false, .slice none 0 0] 27)).alloc (.cells #[.slice a n c, .int .i64 0, .int .u64 0] 57)).heap.size = w.heap.size + 3 := by simp
  clear al al3 e0
  refine (rat_v (w.heap.size + 2) 0 _ (unhide CU) (by omega)).mono ?_
  rintro e w1 ⟨v1, d1, rfl, o1, c1, bt⟩
  rw [sz3] at o1
  have CU1 := hide c1
  have ZZ1 := hide ((unhide Z1).keep bt (.inl (by omega)))
  have ZZ2 := hide ((unhide Z2).keep bt (.inl (by omega)))
  have BW1 : Hid (Below w.heap.size w w1) := hide (bt.below (unhide BW) (by omega) (by omega))
  have s1 : w.heap.size + 3 ≤ w1.heap.size := by have := bt.size; omega
  have O1 := hide o1
  clear bt c1 o1 CU Z1 Z2 BW sz3
  have al : Below w1.heap.size w1 (w1.alloc (.cells #[.bool v1.num.g, .slice v1.num.a v1.num.n v1.num.c, .bool v1.den.g, .slice v1.den.a v1.den.n v1.den.c] 27)) := (Below.refl _ _).alloc (Nat.le_refl _) _
  replace CU1 := hide ((unhide CU1).later al)
  replace ZZ1 := hide ((unhide ZZ1).later al)
  replace ZZ2 := hide ((unhide ZZ2).later al)
  replace BW1 := hide ((unhide BW1).trans (al.mono (by omega)))
  replace O1 := hide ((unhide O1).later al)
  have k0 : (w1.alloc (.cells #[.bool v1.num.g, .slice v1.num.a v1.num.n v1.num.c, .bool v1.den.g, .slice v1.den.a v1.den.n v1.den.c] 27)).cell? ⟨w1.heap.size, 0, none⟩ = some (.bool v1.num.g) := by simp [go_sem]
  have k1 : (w1.alloc (.cells #[.bool v1.num.g, .slice v1.num.a v1.num.n v1.num.c, .bool v1.den.g, .slice v1.den.a v1.den.n v1.den.c] 27)).cell? ⟨w1.heap.size, 1, none⟩ = some (.slice v1.num.a v1.num.n v1.num.c) := by simp [go_sem]
  have k2 : (w1.alloc (.cells #[.bool v1.num.g, .slice v1.num.a v1.num.n v1.num.c, .bool v1.den.g, .slice v1.den.a v1.den.n v1.den.c] 27)).cell? ⟨w1.heap.size, 2, none⟩ = some (.bool v1.den.g) := by simp [go_sem]
  have k3 : (w1.alloc (.cells #[.bool v1.num.g, .slice v1.num.a v1.num.n v1.num.c, .bool v1.den.g, .slice v1.den.a v1.den.n v1.den.c] 27)).cell? ⟨w1.heap.size, 3, none⟩ = some (.slice v1.den.a v1.den.n v1.den.c) := by simp [go_sem]
  have sz2 : (w1.alloc (.cells #[.bool v1.num.g, .slice v1.num.a v1.num.n v1.num.c, .bool v1.den.g, .slice v1.den.a v1.den.n v1.den.c] 27)).heap.size = w1.heap.size + 1 := by simp
  clear al
  go_wp2_with fail
  refine (one_v (w.heap.size + 2) (0 + 700) 6 _ (unhide CU1) (by omega) (by omega)).mono ?_
  rintro e w2 ⟨o2, rfl, c1, bt⟩
  replace CU1 := hide c1
  replace ZZ1 := hide ((unhide ZZ1).keep bt (.inl (by omega)))
  replace ZZ2 := hide ((unhide ZZ2).keep bt (.inl (by omega)))
  replace O1 := hide ((unhide O1).but bt (.inr (by omega)))
  replace BW1 := hide (bt.below (unhide BW1) (by omega) (by omega))
  replace k0 := bt.cell k0 (.inr (by omega))
  replace k1 := bt.cell k1 (.inr (by omega))
  replace k2 := bt.cell k2 (.inr (by omega))
  replace k3 := bt.cell k3 (.inr (by omega))
  have s2 : w1.heap.size + 1 ≤ w2.heap.size := by have := bt.size; omega
  clear c1 bt sz2
  have r0 := (unhide ZZ1).c0
  have r1 := (unhide ZZ1).c1
  have r2 := (unhide ZZ1).c2
  have r3 := (unhide ZZ1).c3
  have rf := (unhide ZZ1).fz
  have t0 := (unhide ZZ2).c0
  have t1 := (unhide ZZ2).c1
  have t2 := (unhide ZZ2).c2
  have t3 := (unhide ZZ2).c3
  have tf := (unhide ZZ2).fz
  cases o2
  · have kd0 : w2.drew.cell? ⟨w1.heap.size, 0, none⟩ = some (.bool v1.num.g) := k0
    have kd1 : w2.drew.cell? ⟨w1.heap.size, 1, none⟩ = some (.slice v1.num.a v1.num.n v1.num.c) := k1
    have kd2 : w2.drew.cell? ⟨w1.heap.size, 2, none⟩ = some (.bool v1.den.g) := k2
    have kd3 : w2.drew.cell? ⟨w1.heap.size, 3, none⟩ = some (.slice v1.den.a v1.den.n v1.den.c) := k3
    go_upto_region 5 with fail
    go_region_with
      (first
      | (go_at_call 61; refine (rat_v (w.heap.size + 2) (0 + 700 + 2) _ ((unhide CU1).later (Below.refl _ _).drew) (by omega)).mono ?_; rintro e w3 ⟨v2, d2, rfl, o2, c1, bt⟩; replace bt := (But.of_below (Below.refl w2.heap.size w2).drew).trans bt; have sd : w2.drew.heap.size = w2.heap.size := rfl; rw [sd] at o2; have ZY1 := hide ((unhide ZZ1).keep bt (.inl (by omega))); have ZY2 := hide ((unhide ZZ2).keep bt (.inl (by omega))); have O3 := hide ((unhide O1).but bt (.inr (by omega))); have BW3 := hide (bt.below (unhide BW1) (by omega) (by omega)); have kk0 := bt.cell k0 (.inr (by omega)); have kk1 := bt.cell k1 (.inr (by omega)); have kk2 := bt.cell k2 (.inr (by omega)); have kk3 := bt.cell k3 (.inr (by omega)); have O4 := hide (o2.wide (show w.heap.size + 2 ≤ w2.heap.size by omega) (Nat.le_refl _)); have rr0 := (unhide ZY1).c0; have tt0 := (unhide ZY2).c0; have rr1 := (unhide ZY1).c1; have tt1 := (unhide ZY2).c1; have rr2 := (unhide ZY1).c2; have tt2 := (unhide ZY2).c2; have rr3 := (unhide ZY1).c3; have tt3 := (unhide ZY2).c3; have rrf := (unhide ZY1).fz; have ttf := (unhide ZY2).fz; have s3 := bt.size; clear bt c1 o2 sd)
      | fail)
    all_goals go_wp2_with fail
    all_goals
      refine bodyPost_ret (v := .tuple #[.agg #[.bool v1.num.g, .slice v1.num.a v1.num.n v1.num.c, .bool v1.den.g, .slice v1.den.a v1.den.n v1.den.c], .agg #[.bool v2.num.g, .slice v2.num.a v2.num.n v2.num.c, .bool v2.den.g, .slice v2.den.a v2.den.n v2.den.c]]) (by simp [results, Tryz.results24, go_sem, rr0, rr1, rr2, rr3, tt0, tt1, tt2, tt3]) rfl ?_
      exact rr_fin q_set (unhide BW3) ((unhide O3).wide (by omega) (show w1.heap.size ≤ w3.heap.size by omega)) (unhide O4) (Nat.le_refl _) (Nat.le_refl _)
  · go_upto_region 4 with fail
    go_region
    go_wp2_with fail
    refine bodyPost_ret (v := .tuple #[.agg #[.bool v1.num.g, .slice v1.num.a v1.num.n v1.num.c, .bool v1.den.g, .slice v1.den.a v1.den.n v1.den.c], .agg #[.bool v1.num.g, .slice v1.num.a v1.num.n v1.num.c, .bool v1.den.g, .slice v1.den.a v1.den.n v1.den.c]]) (by simp [results, Tryz.results24, go_sem, r0, r1, r2, r3, t0, t1, t2, t3]) rfl ?_
    exact rr_fin (q_set.trans (But.of_below (Below.refl _ _).drew)) (unhide BW1) ((unhide O1).wide (by omega) (show w1.heap.size ≤ w2.heap.size by omega)) ((unhide O1).wide (by omega) (show w1.heap.size ≤ w2.heap.size by omega)) (Nat.le_refl _) (Nat.le_refl _)
set_option maxHeartbeats 4000000 in
theorem drawAQ (a : Option Addr) (n c : Nat) (w : World) (h : ArY w a n) :
    Calls Tryz.prog 4 #[.slice a n c] w (OutRR w) := by
  have H := hide h
  clear h
  go_enter Tryz.func4, Tryz.ntmps4
  go_wp2_with fail
  have al : Below w.heap.size w ((w.alloc (.cells #[.bool false, .slice none 0 0, .bool false, .slice none 0 0] 27)).alloc (.cells #[.bool false, .slice none 0 0, .bool false, .slice none 0 0] 27)) := ((Below.refl _ _).alloc (Nat.le_refl _) _).alloc (by simp) _
  have Z1 : Zq ((w.alloc (.cells #[.bool false, .slice none 0 0, .bool false, .slice none 0 0] 27)).alloc (.cells #[.bool false, .slice none 0 0, .bool false, .slice none 0 0] 27)) w.heap.size := Zq.new.later ((Below.refl _ _).alloc (Nat.le_refl _) _)
  have Z2 : Zq ((w.alloc (.cells #[.bool false, .slice none 0 0, .bool false, .slice none 0 0] 27)).alloc (.cells #[.bool false, .slice none 0 0, .bool false, .slice none 0 0] 27)) (w.heap.size + 1) := by have k := Zq.new (w := (w.alloc (.cells #[.bool false, .slice none 0 0, .bool false, .slice none 0 0] 27))) (t := 27); simpa using k
  refine (drawQ2 a n c _ ((unhide H).later al)).mono ?_
  rintro e w1 ⟨v1, v2, d1, d2, rfl, o1, o2, hb⟩
  have e0 : ((w.alloc (.cells #[.bool false, .slice none 0 0, .bool false, .slice none 0 0] 27)).alloc (.cells #[.bool false, .slice none 0 0, .bool false, .slice none 0 0] 27)).heap.size = w.heap.size + 2 := by simp
  rw [e0] at o1 o2
  have O1 := hide o1
  have O2 := hide o2
  have r0 := (Z1.later hb).c0
  have r1 := (Z1.later hb).c1
  have r2 := (Z1.later hb).c2
  have r3 := (Z1.later hb).c3
  have rf := (Z1.later hb).fz
  have t0 := (Z2.later hb).c0
  have t1 := (Z2.later hb).c1
  have t2 := (Z2.later hb).c2
  have t3 := (Z2.later hb).c3
  have tf := (Z2.later hb).fz
  have BW := hide (al.trans (hb.mono (by omega)))
  clear hb Z1 Z2 al e0 o1 o2
  go_wp2_with fail
  refine bodyPost_ret (v := .tuple #[.agg #[.bool v1.num.g, .slice v1.num.a v1.num.n v1.num.c, .bool v1.den.g, .slice v1.den.a v1.den.n v1.den.c], .agg #[.bool v2.num.g, .slice v2.num.a v2.num.n v2.num.c, .bool v2.den.g, .slice v2.den.a v2.den.n v2.den.c]]) (by simp [results, Tryz.results4, go_sem, r0, r1, r2, r3, t0, t1, t2, t3]) rfl ?_
  exact rr_fin q_set (unhide BW) (unhide O1) (unhide O2) (Nat.le_refl _) (Nat.le_refl _)
set_option maxHeartbeats 4000000 in
theorem drawGQ (a : Option Addr) (n c : Nat) (w : World) (h : ArY w a n) :
    Calls Tryz.prog 56 #[.slice a n c] w (OutR1 w) := by
  have H := hide h
  clear h
  go_enter Tryz.func56, Tryz.ntmps56
  go_wp2_with fail
  have e0 : (w.alloc (.cells #[.bool false, .slice none 0 0, .bool false, .slice none 0 0] 27)).heap.size = w.heap.size + 1 := by simp
  have al : Below w.heap.size w (w.alloc (.cells #[.bool false, .slice none 0 0, .bool false, .slice none 0 0] 27)) := (Below.refl _ _).alloc (Nat.le_refl _) _
  have CU : Hid (Cur (w.heap.size + 1) 0 ((w.alloc (.cells #[.bool false, .slice none 0 0, .bool false, .slice none 0 0] 27)).alloc (.cells #[.slice a n c, .int .i64 0, .int .u64 0] 57))) := hide (e0 ▸ Cur.new (w := (w.alloc (.cells #[.bool false, .slice none 0 0, .bool false, .slice none 0 0] 27))) (c := c) (t := 57) ((unhide H).later al))
  have al3 : Below (w.alloc (.cells #[.bool false, .slice none 0 0, .bool false, .slice none 0 0] 27)).heap.size (w.alloc (.cells #[.bool false, .slice none 0 0, .bool false, .slice none 0 0] 27)) ((w.alloc (.cells #[.bool false, .slice none 0 0, .bool false, .slice none 0 0] 27)).alloc (.cells #[.slice a n c, .int .i64 0, .int .u64 0] 57)) := (Below.refl _ _).alloc (Nat.le_refl _) _
  have Z1 : Hid (Zq ((w.alloc (.cells #[.bool false, .slice none 0 0, .bool false, .slice none 0 0] 27)).alloc (.cells #[.slice a n c, .int .i64 0, .int .u64 0] 57)) w.heap.size) := hide (Zq.new.later al3)
  have BW : Hid (Below w.heap.size w ((w.alloc (.cells #[.bool false, .slice none 0 0, .bool false, .slice none 0 0] 27)).alloc (.cells #[.slice a n c, .int .i64 0, .int .u64 0] 57))) := hide (al.trans (al3.mono (by omega)))
  have sz3 : ((w.alloc (.cells #[.bool false, .slice none 0 0, .bool false, .slice none 0 0] 27)).alloc (.cells #[.slice a n c, .int .i64 0, .int .u64 0] 57)).heap.size = w.heap.size + 2 := by simp
  clear al al3 e0
  refine (rat_v (w.heap.size + 1) 0 _ (unhide CU) (by omega)).mono ?_
  rintro e w1 ⟨v1, d1, rfl, o1, c1, bt⟩
  rw [sz3] at o1
  have O1 := hide o1
  have r0 := ((unhide Z1).keep bt (.inl (Nat.lt_succ_self _))).c0
  have r1 := ((unhide Z1).keep bt (.inl (Nat.lt_succ_self _))).c1
  have r2 := ((unhide Z1).keep bt (.inl (Nat.lt_succ_self _))).c2
  have r3 := ((unhide Z1).keep bt (.inl (Nat.lt_succ_self _))).c3
  have rf := ((unhide Z1).keep bt (.inl (Nat.lt_succ_self _))).fz
  have BW1 : Hid (Below w.heap.size w w1) := hide (bt.below (unhide BW) (by omega) (by omega))
  clear bt c1 o1 CU Z1 BW sz3
  go_wp2_with fail
  refine bodyPost_ret (v := .agg #[.bool v1.num.g, .slice v1.num.a v1.num.n v1.num.c, .bool v1.den.g, .slice v1.den.a v1.den.n v1.den.c]) (by simp [results, Tryz.results56, go_sem, r0, r1, r2, r3]) rfl ?_
  exact r1_fin (metQ_but (v := v1)) (unhide BW1) ((unhide O1).wide (by omega) (Nat.le_refl _)) (Nat.le_refl _)
set_option maxHeartbeats 4000000 in
theorem drawTQ (a : Option Addr) (n c : Nat) (w : World) (h : ArY w a n) :
    Calls Tryz.prog 21 #[.slice a n c] w (OutR1 w) := by
  have H := hide h
  clear h
  go_enter Tryz.func21, Tryz.ntmps21
  go_wp2_with fail
  have al : Below w.heap.size w (w.alloc (.cells #[.bool false, .slice none 0 0, .bool false, .slice none 0 0] 27)) := (Below.refl _ _).alloc (Nat.le_refl _) _
  have Z1 : Zq (w.alloc (.cells #[.bool false, .slice none 0 0, .bool false, .slice none 0 0] 27)) w.heap.size := Zq.new
  refine (drawGQ a n c _ ((unhide H).later al)).mono ?_
  rintro e w1 ⟨v1, d1, rfl, o1, hb⟩
  have e0 : (w.alloc (.cells #[.bool false, .slice none 0 0, .bool false, .slice none 0 0] 27)).heap.size = w.heap.size + 1 := by simp
  rw [e0] at o1
  have O1 := hide o1
  have r0 := (Z1.later hb).c0
  have r1 := (Z1.later hb).c1
  have r2 := (Z1.later hb).c2
  have r3 := (Z1.later hb).c3
  have rf := (Z1.later hb).fz
  have BW := hide (al.trans (hb.mono (by omega)))
  clear hb Z1 al e0 o1
  go_wp2_with fail
  refine bodyPost_ret (v := .agg #[.bool v1.num.g, .slice v1.num.a v1.num.n v1.num.c, .bool v1.den.g, .slice v1.den.a v1.den.n v1.den.c]) (by simp [results, Tryz.results21, go_sem, r0, r1, r2, r3]) rfl ?_
  exact r1_fin (metQ_but (v := v1)) (unhide BW) (unhide O1) (Nat.le_refl _)
set_option maxHeartbeats 4000000 in
theorem drawRO (a : Option Addr) (n c : Nat) (w : World) (h : ArY w a n) :
    Calls Tryz.prog 18 #[.slice a n c] w fun e w' => ∃ x y : Int, e = .returned (.tuple #[.int .i64 x, .int .i64 y]) ∧ (-9223372036854775808 ≤ x ∧ x ≤ 9223372036854775807) ∧ (-9223372036854775808 ≤ y ∧ y ≤ 9223372036854775807) ∧ Below w.heap.size w w' := by
  have CU : Hid (Cur w.heap.size 0 (w.alloc (.cells #[.slice a n c, .int .i64 0, .int .u64 0] 57))) := hide (Cur.new (c := c) (t := 57) h)
  have al : Hid (Below w.heap.size w (w.alloc (.cells #[.slice a n c, .int .i64 0, .int .u64 0] 57))) := hide ((Below.refl _ _).alloc (Nat.le_refl _) _)
  clear h
  go_enter Tryz.func18, Tryz.ntmps18
  go_wp2_with fail
  refine (anyInt_v w.heap.size 0 _ (unhide CU) (by omega)).mono ?_
  rintro e w2 ⟨x, rfl, x0, x1, c1, bt⟩
  have BW := hide (bt.below (unhide al) (Nat.le_refl _) (unhide al).size)
  have C2 := hide c1
  have X := hide (And.intro x0 x1)
  clear bt c1 x0 x1
  go_wp2_with fail
  refine (anyInt_v w.heap.size _ _ (unhide C2) (by omega)).mono ?_
  rintro e w3 ⟨y, rfl, y0, y1, c1, bt⟩
  replace BW := hide (bt.below (unhide BW) (Nat.le_refl _) (unhide BW).size)
  have Y := hide (And.intro y0 y1)
  clear bt c1 y0 y1
  go_wp2_with fail
  refine bodyPost_ret (v := .tuple #[.int .i64 x, .int .i64 y]) (by simp [results, Tryz.results18, go_sem]) rfl ?_
  exact ⟨x, y, rfl, unhide X, unhide Y, unhide BW⟩
end Aq
end Go.Proofs.YtdgonpbponnnaaaGreatDoor
