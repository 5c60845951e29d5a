/- Chapter 11 of the program: points in triangles. No condition beyond those typed. Written by mkim11.py. -/
import Derived.Test.YtblhjeepelgdaaaSp11
import Derived.Test.YtblhjeepelgdaaaIm8
namespace Go.Proofs.Ytblhjeepelgdaaa
open Go.RowKit
set_option linter.unusedVariables false
set_option maxRecDepth 100000
set_option linter.unusedSimpArgs false

theorem crs_three (a b c p : Int × Int) : crs a b p + crs b c p + crs c a p = crs a b c := by unfold crs; grind
theorem sg_cases (k : Int) : (0 < k ∧ sgZ k = 1) ∨ (k = 0 ∧ sgZ k = 0) ∨ (k < 0 ∧ sgZ k = -1) := by
  unfold sgZ
  rcases Int.lt_trichotomy k 0 with h | h | h
  · exact .inr (.inr ⟨h, by rw [if_neg (by omega), if_pos h]⟩)
  · exact .inr (.inl ⟨h, by rw [if_neg (by omega), if_neg (by omega)]⟩)
  · exact .inl ⟨h, by rw [if_pos h]⟩
/-- Beyond none of the sides. -/
theorem inT_eq {a b c p : Int × Int} (h : sgZ (crs a b c) ≠ 0) :
    inT a b c p = (!(sgZ (crs a b p) == -sgZ (crs a b c)) && !(sgZ (crs b c p) == -sgZ (crs a b c)) && !(sgZ (crs c a p) == -sgZ (crs a b c))) := by
  have s := crs_three a b c p
  unfold inT inK
  generalize crs a b p = x at *
  generalize crs b c p = y at *
  generalize crs c a p = z at *
  generalize crs a b c = t at *
  rcases sg_cases x with ⟨h1, e1⟩ | ⟨h1, e1⟩ | ⟨h1, e1⟩ <;> rcases sg_cases y with ⟨h2, e2⟩ | ⟨h2, e2⟩ | ⟨h2, e2⟩ <;> rcases sg_cases z with ⟨h3, e3⟩ | ⟨h3, e3⟩ | ⟨h3, e3⟩ <;> rcases sg_cases t with ⟨h4, e4⟩ | ⟨h4, e4⟩ | ⟨h4, e4⟩ <;> rw [e1, e2, e3, e4] <;> first | rfl | (exfalso; omega) | exact absurd e4 h
set_option maxHeartbeats 4000000 in
theorem inI11 (a b c p : Int × Int) (w : World) (ha : Near a) (hb : Near b) (hc : Near c) (hp : Near p) (ht : sgZ (crs a b c) ≠ 0) :
    Calls Try.prog 79 #[.agg #[.int .i64 a.1, .int .i64 a.2], .agg #[.int .i64 b.1, .int .i64 b.2], .agg #[.int .i64 c.1, .int .i64 c.2], .agg #[.int .i64 p.1, .int .i64 p.2]] w fun e w' => e = .returned (.bool (inT a b c p)) ∧ Below w.heap.size w w' := by
  have C0 := hide (fun w => turnI a b c w ha hb hc)
  have C1 := hide (fun w => turnI a b p w ha hb hp)
  have C2 := hide (fun w => turnI b c p w hb hc hp)
  have C3 := hide (fun w => turnI c a p w hc ha hp)
  rw [inT_eq ht]
  have bt := sg_bd (crs a b c)
  generalize sgZ (crs a b c) = t at *
  generalize sgZ (crs a b p) = x at *
  generalize sgZ (crs b c p) = y at *
  generalize sgZ (crs c a p) = z at *
  obtain ⟨m, hm⟩ : ∃ m, m = -t := ⟨_, rfl⟩
  have wt : IntKind.i64.wrap (-t) = m := by rw [hm, IntKind.wrap_i64]; omega
  rw [← hm]
  clear hm
  clear ha hb hc hp ht bt
  have BW : Hid (Below w.heap.size w w) := hide (Below.refl _ _)
  have al : Below w.heap.size w ((((w.alloc (.cells #[.int .i64 a.1, .int .i64 a.2] 59)).alloc (.cells #[.int .i64 b.1, .int .i64 b.2] 59)).alloc (.cells #[.int .i64 c.1, .int .i64 c.2] 59)).alloc (.cells #[.int .i64 p.1, .int .i64 p.2] 59)) := (((((Below.refl _ _).alloc (Nat.le_refl _) _).alloc (by simp) _).alloc (by simp; omega) _).alloc (by simp; omega) _)
  replace BW := hide (below_on (unhide BW) al)
  clear al
  have Ka : Hid (BxP ((((w.alloc (.cells #[.int .i64 a.1, .int .i64 a.2] 59)).alloc (.cells #[.int .i64 b.1, .int .i64 b.2] 59)).alloc (.cells #[.int .i64 c.1, .int .i64 c.2] 59)).alloc (.cells #[.int .i64 p.1, .int .i64 p.2] 59)) (w.heap.size) a.1 a.2) := hide (((((BxP.new (w := w) (x := a.1) (y := a.2) (t := 59)).later ((Below.refl _ _).alloc (Nat.le_refl _) _)).later ((Below.refl _ _).alloc (Nat.le_refl _) _)).later ((Below.refl _ _).alloc (Nat.le_refl _) _)))
  have zz : (w.alloc (.cells #[.int .i64 a.1, .int .i64 a.2] 59)).heap.size = w.heap.size + 1 := by simp
  have Kb : Hid (BxP ((((w.alloc (.cells #[.int .i64 a.1, .int .i64 a.2] 59)).alloc (.cells #[.int .i64 b.1, .int .i64 b.2] 59)).alloc (.cells #[.int .i64 c.1, .int .i64 c.2] 59)).alloc (.cells #[.int .i64 p.1, .int .i64 p.2] 59)) (w.heap.size + 1) b.1 b.2) := hide (zz ▸ (((BxP.new (w := (w.alloc (.cells #[.int .i64 a.1, .int .i64 a.2] 59))) (x := b.1) (y := b.2) (t := 59)).later ((Below.refl _ _).alloc (Nat.le_refl _) _)).later ((Below.refl _ _).alloc (Nat.le_refl _) _)))
  clear zz
  have zz : ((w.alloc (.cells #[.int .i64 a.1, .int .i64 a.2] 59)).alloc (.cells #[.int .i64 b.1, .int .i64 b.2] 59)).heap.size = w.heap.size + 1 + 1 := by simp
  have Kc : Hid (BxP ((((w.alloc (.cells #[.int .i64 a.1, .int .i64 a.2] 59)).alloc (.cells #[.int .i64 b.1, .int .i64 b.2] 59)).alloc (.cells #[.int .i64 c.1, .int .i64 c.2] 59)).alloc (.cells #[.int .i64 p.1, .int .i64 p.2] 59)) (w.heap.size + 1 + 1) c.1 c.2) := hide (zz ▸ ((BxP.new (w := ((w.alloc (.cells #[.int .i64 a.1, .int .i64 a.2] 59)).alloc (.cells #[.int .i64 b.1, .int .i64 b.2] 59))) (x := c.1) (y := c.2) (t := 59)).later ((Below.refl _ _).alloc (Nat.le_refl _) _)))
  clear zz
  have zz : (((w.alloc (.cells #[.int .i64 a.1, .int .i64 a.2] 59)).alloc (.cells #[.int .i64 b.1, .int .i64 b.2] 59)).alloc (.cells #[.int .i64 c.1, .int .i64 c.2] 59)).heap.size = w.heap.size + 1 + 1 + 1 := by simp
  have Kp : Hid (BxP ((((w.alloc (.cells #[.int .i64 a.1, .int .i64 a.2] 59)).alloc (.cells #[.int .i64 b.1, .int .i64 b.2] 59)).alloc (.cells #[.int .i64 c.1, .int .i64 c.2] 59)).alloc (.cells #[.int .i64 p.1, .int .i64 p.2] 59)) (w.heap.size + 1 + 1 + 1) p.1 p.2) := hide (zz ▸ (BxP.new (w := (((w.alloc (.cells #[.int .i64 a.1, .int .i64 a.2] 59)).alloc (.cells #[.int .i64 b.1, .int .i64 b.2] 59)).alloc (.cells #[.int .i64 c.1, .int .i64 c.2] 59))) (x := p.1) (y := p.2) (t := 59)))
  clear zz
  cases hx : (x == m)
  · have nx : (x != m) = true := by rw [bne, hx]; rfl
    cases hy : (y == m)
    · have ny : (y != m) = true := by rw [bne, hy]; rfl
      cases hz : (z == m)
      · have nz : (z != m) = true := by rw [bne, hz]; rfl
        go_enter Try.func79, Try.ntmps79
        go_upto_region 1 with fail
        generalize ((((w.alloc (.cells #[.int .i64 a.1, .int .i64 a.2] 59)).alloc (.cells #[.int .i64 b.1, .int .i64 b.2] 59)).alloc (.cells #[.int .i64 c.1, .int .i64 c.2] 59)).alloc (.cells #[.int .i64 p.1, .int .i64 p.2] 59)) = w1 at *
        have Ka_0 := (unhide Ka).c0
        have Ka_1 := (unhide Ka).c1
        have Kb_0 := (unhide Kb).c0
        have Kb_1 := (unhide Kb).c1
        have Kc_0 := (unhide Kc).c0
        have Kc_1 := (unhide Kc).c1
        go_wp2_with fail
        refine (unhide C0 _).mono ?_
        rintro e w2 ⟨rfl, hb⟩
        clear Ka_0 Ka_1 Kb_0 Kb_1 Kc_0 Kc_1
        replace Ka := hide ((unhide Ka).later hb)
        replace Kb := hide ((unhide Kb).later hb)
        replace Kc := hide ((unhide Kc).later hb)
        replace Kp := hide ((unhide Kp).later hb)
        replace BW := hide (below_on (unhide BW) hb)
        clear hb
        go_upto_region 2 with fail
        have Ka_0 := (unhide Ka).c0
        have Ka_1 := (unhide Ka).c1
        have Kb_0 := (unhide Kb).c0
        have Kb_1 := (unhide Kb).c1
        have Kp_0 := (unhide Kp).c0
        have Kp_1 := (unhide Kp).c1
        go_wp2_with fail
        refine (unhide C1 _).mono ?_
        rintro e w3 ⟨rfl, hb⟩
        clear Ka_0 Ka_1 Kb_0 Kb_1 Kp_0 Kp_1
        replace Ka := hide ((unhide Ka).later hb)
        replace Kb := hide ((unhide Kb).later hb)
        replace Kc := hide ((unhide Kc).later hb)
        replace Kp := hide ((unhide Kp).later hb)
        replace BW := hide (below_on (unhide BW) hb)
        clear hb
        have Kb_0 := (unhide Kb).c0
        have Kb_1 := (unhide Kb).c1
        have Kc_0 := (unhide Kc).c0
        have Kc_1 := (unhide Kc).c1
        have Kp_0 := (unhide Kp).c0
        have Kp_1 := (unhide Kp).c1
        go_wp2_with fail
        refine (unhide C2 _).mono ?_
        rintro e w4 ⟨rfl, hb⟩
        clear Kb_0 Kb_1 Kc_0 Kc_1 Kp_0 Kp_1
        replace Ka := hide ((unhide Ka).later hb)
        replace Kb := hide ((unhide Kb).later hb)
        replace Kc := hide ((unhide Kc).later hb)
        replace Kp := hide ((unhide Kp).later hb)
        replace BW := hide (below_on (unhide BW) hb)
        clear hb
        have Kc_0 := (unhide Kc).c0
        have Kc_1 := (unhide Kc).c1
        have Ka_0 := (unhide Ka).c0
        have Ka_1 := (unhide Ka).c1
        have Kp_0 := (unhide Kp).c0
        have Kp_1 := (unhide Kp).c1
        go_wp2_with fail
        refine (unhide C3 _).mono ?_
        rintro e w5 ⟨rfl, hb⟩
        clear Kc_0 Kc_1 Ka_0 Ka_1 Kp_0 Kp_1
        replace Ka := hide ((unhide Ka).later hb)
        replace Kb := hide ((unhide Kb).later hb)
        replace Kc := hide ((unhide Kc).later hb)
        replace Kp := hide ((unhide Kp).later hb)
        replace BW := hide (below_on (unhide BW) hb)
        clear hb
        clear Ka Kb Kc Kp
        go_wp2_with fail
        go_ret
        exact ⟨by simp [*], unhide BW⟩
      · have nz : (z != m) = false := by rw [bne, hz]; rfl
        go_enter Try.func79, Try.ntmps79
        go_upto_region 1 with fail
        generalize ((((w.alloc (.cells #[.int .i64 a.1, .int .i64 a.2] 59)).alloc (.cells #[.int .i64 b.1, .int .i64 b.2] 59)).alloc (.cells #[.int .i64 c.1, .int .i64 c.2] 59)).alloc (.cells #[.int .i64 p.1, .int .i64 p.2] 59)) = w6 at *
        have Ka_0 := (unhide Ka).c0
        have Ka_1 := (unhide Ka).c1
        have Kb_0 := (unhide Kb).c0
        have Kb_1 := (unhide Kb).c1
        have Kc_0 := (unhide Kc).c0
        have Kc_1 := (unhide Kc).c1
        go_wp2_with fail
        refine (unhide C0 _).mono ?_
        rintro e w7 ⟨rfl, hb⟩
        clear Ka_0 Ka_1 Kb_0 Kb_1 Kc_0 Kc_1
        replace Ka := hide ((unhide Ka).later hb)
        replace Kb := hide ((unhide Kb).later hb)
        replace Kc := hide ((unhide Kc).later hb)
        replace Kp := hide ((unhide Kp).later hb)
        replace BW := hide (below_on (unhide BW) hb)
        clear hb
        go_upto_region 2 with fail
        have Ka_0 := (unhide Ka).c0
        have Ka_1 := (unhide Ka).c1
        have Kb_0 := (unhide Kb).c0
        have Kb_1 := (unhide Kb).c1
        have Kp_0 := (unhide Kp).c0
        have Kp_1 := (unhide Kp).c1
        go_wp2_with fail
        refine (unhide C1 _).mono ?_
        rintro e w8 ⟨rfl, hb⟩
        clear Ka_0 Ka_1 Kb_0 Kb_1 Kp_0 Kp_1
        replace Ka := hide ((unhide Ka).later hb)
        replace Kb := hide ((unhide Kb).later hb)
        replace Kc := hide ((unhide Kc).later hb)
        replace Kp := hide ((unhide Kp).later hb)
        replace BW := hide (below_on (unhide BW) hb)
        clear hb
        have Kb_0 := (unhide Kb).c0
        have Kb_1 := (unhide Kb).c1
        have Kc_0 := (unhide Kc).c0
        have Kc_1 := (unhide Kc).c1
        have Kp_0 := (unhide Kp).c0
        have Kp_1 := (unhide Kp).c1
        go_wp2_with fail
        refine (unhide C2 _).mono ?_
        rintro e w9 ⟨rfl, hb⟩
        clear Kb_0 Kb_1 Kc_0 Kc_1 Kp_0 Kp_1
        replace Ka := hide ((unhide Ka).later hb)
        replace Kb := hide ((unhide Kb).later hb)
        replace Kc := hide ((unhide Kc).later hb)
        replace Kp := hide ((unhide Kp).later hb)
        replace BW := hide (below_on (unhide BW) hb)
        clear hb
        have Kc_0 := (unhide Kc).c0
        have Kc_1 := (unhide Kc).c1
        have Ka_0 := (unhide Ka).c0
        have Ka_1 := (unhide Ka).c1
        have Kp_0 := (unhide Kp).c0
        have Kp_1 := (unhide Kp).c1
        go_wp2_with fail
        refine (unhide C3 _).mono ?_
        rintro e w10 ⟨rfl, hb⟩
        clear Kc_0 Kc_1 Ka_0 Ka_1 Kp_0 Kp_1
        replace Ka := hide ((unhide Ka).later hb)
        replace Kb := hide ((unhide Kb).later hb)
        replace Kc := hide ((unhide Kc).later hb)
        replace Kp := hide ((unhide Kp).later hb)
        replace BW := hide (below_on (unhide BW) hb)
        clear hb
        clear Ka Kb Kc Kp
        go_wp2_with fail
        go_ret
        exact ⟨by simp [*], unhide BW⟩
    · have ny : (y != m) = false := by rw [bne, hy]; rfl
      go_enter Try.func79, Try.ntmps79
      go_upto_region 1 with fail
      generalize ((((w.alloc (.cells #[.int .i64 a.1, .int .i64 a.2] 59)).alloc (.cells #[.int .i64 b.1, .int .i64 b.2] 59)).alloc (.cells #[.int .i64 c.1, .int .i64 c.2] 59)).alloc (.cells #[.int .i64 p.1, .int .i64 p.2] 59)) = w11 at *
      have Ka_0 := (unhide Ka).c0
      have Ka_1 := (unhide Ka).c1
      have Kb_0 := (unhide Kb).c0
      have Kb_1 := (unhide Kb).c1
      have Kc_0 := (unhide Kc).c0
      have Kc_1 := (unhide Kc).c1
      go_wp2_with fail
      refine (unhide C0 _).mono ?_
      rintro e w12 ⟨rfl, hb⟩
      clear Ka_0 Ka_1 Kb_0 Kb_1 Kc_0 Kc_1
      replace Ka := hide ((unhide Ka).later hb)
      replace Kb := hide ((unhide Kb).later hb)
      replace Kc := hide ((unhide Kc).later hb)
      replace Kp := hide ((unhide Kp).later hb)
      replace BW := hide (below_on (unhide BW) hb)
      clear hb
      go_upto_region 2 with fail
      have Ka_0 := (unhide Ka).c0
      have Ka_1 := (unhide Ka).c1
      have Kb_0 := (unhide Kb).c0
      have Kb_1 := (unhide Kb).c1
      have Kp_0 := (unhide Kp).c0
      have Kp_1 := (unhide Kp).c1
      go_wp2_with fail
      refine (unhide C1 _).mono ?_
      rintro e w13 ⟨rfl, hb⟩
      clear Ka_0 Ka_1 Kb_0 Kb_1 Kp_0 Kp_1
      replace Ka := hide ((unhide Ka).later hb)
      replace Kb := hide ((unhide Kb).later hb)
      replace Kc := hide ((unhide Kc).later hb)
      replace Kp := hide ((unhide Kp).later hb)
      replace BW := hide (below_on (unhide BW) hb)
      clear hb
      have Kb_0 := (unhide Kb).c0
      have Kb_1 := (unhide Kb).c1
      have Kc_0 := (unhide Kc).c0
      have Kc_1 := (unhide Kc).c1
      have Kp_0 := (unhide Kp).c0
      have Kp_1 := (unhide Kp).c1
      go_wp2_with fail
      refine (unhide C2 _).mono ?_
      rintro e w14 ⟨rfl, hb⟩
      clear Kb_0 Kb_1 Kc_0 Kc_1 Kp_0 Kp_1
      replace Ka := hide ((unhide Ka).later hb)
      replace Kb := hide ((unhide Kb).later hb)
      replace Kc := hide ((unhide Kc).later hb)
      replace Kp := hide ((unhide Kp).later hb)
      replace BW := hide (below_on (unhide BW) hb)
      clear hb
      clear Ka Kb Kc Kp
      go_wp2_with fail
      go_ret
      exact ⟨by simp [*], unhide BW⟩
  · have nx : (x != m) = false := by rw [bne, hx]; rfl
    go_enter Try.func79, Try.ntmps79
    go_upto_region 1 with fail
    generalize ((((w.alloc (.cells #[.int .i64 a.1, .int .i64 a.2] 59)).alloc (.cells #[.int .i64 b.1, .int .i64 b.2] 59)).alloc (.cells #[.int .i64 c.1, .int .i64 c.2] 59)).alloc (.cells #[.int .i64 p.1, .int .i64 p.2] 59)) = w15 at *
    have Ka_0 := (unhide Ka).c0
    have Ka_1 := (unhide Ka).c1
    have Kb_0 := (unhide Kb).c0
    have Kb_1 := (unhide Kb).c1
    have Kc_0 := (unhide Kc).c0
    have Kc_1 := (unhide Kc).c1
    go_wp2_with fail
    refine (unhide C0 _).mono ?_
    rintro e w16 ⟨rfl, hb⟩
    clear Ka_0 Ka_1 Kb_0 Kb_1 Kc_0 Kc_1
    replace Ka := hide ((unhide Ka).later hb)
    replace Kb := hide ((unhide Kb).later hb)
    replace Kc := hide ((unhide Kc).later hb)
    replace Kp := hide ((unhide Kp).later hb)
    replace BW := hide (below_on (unhide BW) hb)
    clear hb
    go_upto_region 2 with fail
    have Ka_0 := (unhide Ka).c0
    have Ka_1 := (unhide Ka).c1
    have Kb_0 := (unhide Kb).c0
    have Kb_1 := (unhide Kb).c1
    have Kp_0 := (unhide Kp).c0
    have Kp_1 := (unhide Kp).c1
    go_wp2_with fail
    refine (unhide C1 _).mono ?_
    rintro e w17 ⟨rfl, hb⟩
    clear Ka_0 Ka_1 Kb_0 Kb_1 Kp_0 Kp_1
    replace Ka := hide ((unhide Ka).later hb)
    replace Kb := hide ((unhide Kb).later hb)
    replace Kc := hide ((unhide Kc).later hb)
    replace Kp := hide ((unhide Kp).later hb)
    replace BW := hide (below_on (unhide BW) hb)
    clear hb
    clear Ka Kb Kc Kp
    go_wp2_with fail
    go_ret
    exact ⟨by simp [*], unhide BW⟩
set_option maxHeartbeats 4000000 in
theorem InTriangleI (a b c p : Int × Int) (w : World) :
    Calls Try.prog 42 #[.agg #[.int .i64 a.1, .int .i64 a.2], .agg #[.int .i64 b.1, .int .i64 b.2], .agg #[.int .i64 c.1, .int .i64 c.2], .agg #[.int .i64 p.1, .int .i64 p.2]] w fun e w' => e = .returned (.tuple #[.bool (itV a b c p), .bool (itB a b c p)]) ∧ Below w.heap.size w w' := by
  cases hg : [a, b, c, p].all gPt
  · have e0 : itB a b c p = false := by unfold itB; rw [hg]; rfl
    have e1 : itV a b c p = false := by unfold itV; rw [e0]; rfl
    rw [e0, e1]
    clear e0 e1
    have HG := hide hg
    clear hg
    have BW : Hid (Below w.heap.size w w) := hide (Below.refl _ _)
    have al : Below w.heap.size w ((((w.alloc (.cells #[.int .i64 a.1, .int .i64 a.2] 59)).alloc (.cells #[.int .i64 b.1, .int .i64 b.2] 59)).alloc (.cells #[.int .i64 c.1, .int .i64 c.2] 59)).alloc (.cells #[.int .i64 p.1, .int .i64 p.2] 59)) := (((((Below.refl _ _).alloc (Nat.le_refl _) _).alloc (by simp) _).alloc (by simp; omega) _).alloc (by simp; omega) _)
    replace BW := hide (below_on (unhide BW) al)
    clear al
    have Ka : Hid (BxP ((((w.alloc (.cells #[.int .i64 a.1, .int .i64 a.2] 59)).alloc (.cells #[.int .i64 b.1, .int .i64 b.2] 59)).alloc (.cells #[.int .i64 c.1, .int .i64 c.2] 59)).alloc (.cells #[.int .i64 p.1, .int .i64 p.2] 59)) (w.heap.size) a.1 a.2) := hide (((((BxP.new (w := w) (x := a.1) (y := a.2) (t := 59)).later ((Below.refl _ _).alloc (Nat.le_refl _) _)).later ((Below.refl _ _).alloc (Nat.le_refl _) _)).later ((Below.refl _ _).alloc (Nat.le_refl _) _)))
    have zz : (w.alloc (.cells #[.int .i64 a.1, .int .i64 a.2] 59)).heap.size = w.heap.size + 1 := by simp
    have Kb : Hid (BxP ((((w.alloc (.cells #[.int .i64 a.1, .int .i64 a.2] 59)).alloc (.cells #[.int .i64 b.1, .int .i64 b.2] 59)).alloc (.cells #[.int .i64 c.1, .int .i64 c.2] 59)).alloc (.cells #[.int .i64 p.1, .int .i64 p.2] 59)) (w.heap.size + 1) b.1 b.2) := hide (zz ▸ (((BxP.new (w := (w.alloc (.cells #[.int .i64 a.1, .int .i64 a.2] 59))) (x := b.1) (y := b.2) (t := 59)).later ((Below.refl _ _).alloc (Nat.le_refl _) _)).later ((Below.refl _ _).alloc (Nat.le_refl _) _)))
    clear zz
    have zz : ((w.alloc (.cells #[.int .i64 a.1, .int .i64 a.2] 59)).alloc (.cells #[.int .i64 b.1, .int .i64 b.2] 59)).heap.size = w.heap.size + 1 + 1 := by simp
    have Kc : Hid (BxP ((((w.alloc (.cells #[.int .i64 a.1, .int .i64 a.2] 59)).alloc (.cells #[.int .i64 b.1, .int .i64 b.2] 59)).alloc (.cells #[.int .i64 c.1, .int .i64 c.2] 59)).alloc (.cells #[.int .i64 p.1, .int .i64 p.2] 59)) (w.heap.size + 1 + 1) c.1 c.2) := hide (zz ▸ ((BxP.new (w := ((w.alloc (.cells #[.int .i64 a.1, .int .i64 a.2] 59)).alloc (.cells #[.int .i64 b.1, .int .i64 b.2] 59))) (x := c.1) (y := c.2) (t := 59)).later ((Below.refl _ _).alloc (Nat.le_refl _) _)))
    clear zz
    have zz : (((w.alloc (.cells #[.int .i64 a.1, .int .i64 a.2] 59)).alloc (.cells #[.int .i64 b.1, .int .i64 b.2] 59)).alloc (.cells #[.int .i64 c.1, .int .i64 c.2] 59)).heap.size = w.heap.size + 1 + 1 + 1 := by simp
    have Kp : Hid (BxP ((((w.alloc (.cells #[.int .i64 a.1, .int .i64 a.2] 59)).alloc (.cells #[.int .i64 b.1, .int .i64 b.2] 59)).alloc (.cells #[.int .i64 c.1, .int .i64 c.2] 59)).alloc (.cells #[.int .i64 p.1, .int .i64 p.2] 59)) (w.heap.size + 1 + 1 + 1) p.1 p.2) := hide (zz ▸ (BxP.new (w := (((w.alloc (.cells #[.int .i64 a.1, .int .i64 a.2] 59)).alloc (.cells #[.int .i64 b.1, .int .i64 b.2] 59)).alloc (.cells #[.int .i64 c.1, .int .i64 c.2] 59))) (x := p.1) (y := p.2) (t := 59)))
    clear zz
    have C3 : Hid (SlP (((((w.alloc (.cells #[.int .i64 a.1, .int .i64 a.2] 59)).alloc (.cells #[.int .i64 b.1, .int .i64 b.2] 59)).alloc (.cells #[.int .i64 c.1, .int .i64 c.2] 59)).alloc (.cells #[.int .i64 p.1, .int .i64 p.2] 59)).alloc (.cells #[.int .i64 a.1, .int .i64 a.2, .int .i64 b.1, .int .i64 b.2, .int .i64 c.1, .int .i64 c.2, .int .i64 p.1, .int .i64 p.2] 59)) (some ⟨w.heap.size + 1 + 1 + 1 + 1, 0, none⟩) [a, b, c, p]) := hide (by have k := cellsP4 ((((w.alloc (.cells #[.int .i64 a.1, .int .i64 a.2] 59)).alloc (.cells #[.int .i64 b.1, .int .i64 b.2] 59)).alloc (.cells #[.int .i64 c.1, .int .i64 c.2] 59)).alloc (.cells #[.int .i64 p.1, .int .i64 p.2] 59)) a b c p; rw [show ((((w.alloc (.cells #[.int .i64 a.1, .int .i64 a.2] 59)).alloc (.cells #[.int .i64 b.1, .int .i64 b.2] 59)).alloc (.cells #[.int .i64 c.1, .int .i64 c.2] 59)).alloc (.cells #[.int .i64 p.1, .int .i64 p.2] 59)).heap.size = w.heap.size + 1 + 1 + 1 + 1 by simp] at k; exact k)
    have al : Below ((((w.alloc (.cells #[.int .i64 a.1, .int .i64 a.2] 59)).alloc (.cells #[.int .i64 b.1, .int .i64 b.2] 59)).alloc (.cells #[.int .i64 c.1, .int .i64 c.2] 59)).alloc (.cells #[.int .i64 p.1, .int .i64 p.2] 59)).heap.size ((((w.alloc (.cells #[.int .i64 a.1, .int .i64 a.2] 59)).alloc (.cells #[.int .i64 b.1, .int .i64 b.2] 59)).alloc (.cells #[.int .i64 c.1, .int .i64 c.2] 59)).alloc (.cells #[.int .i64 p.1, .int .i64 p.2] 59)) (((((w.alloc (.cells #[.int .i64 a.1, .int .i64 a.2] 59)).alloc (.cells #[.int .i64 b.1, .int .i64 b.2] 59)).alloc (.cells #[.int .i64 c.1, .int .i64 c.2] 59)).alloc (.cells #[.int .i64 p.1, .int .i64 p.2] 59)).alloc (.cells #[.int .i64 a.1, .int .i64 a.2, .int .i64 b.1, .int .i64 b.2, .int .i64 c.1, .int .i64 c.2, .int .i64 p.1, .int .i64 p.2] 59)) := (Below.refl _ _).alloc (Nat.le_refl _) _
    replace Ka := hide ((unhide Ka).later al)
    replace Kb := hide ((unhide Kb).later al)
    replace Kc := hide ((unhide Kc).later al)
    replace Kp := hide ((unhide Kp).later al)
    replace BW := hide (below_on (unhide BW) al)
    clear al
    go_enter Try.func42, Try.ntmps42
    go_wp2_with fail
    refine (ptsI _ 4 4 [a, b, c, p] _ (unhide C3) rfl (by unfold maxLen; omega)).mono ?_
    rintro e w1 ⟨rfl, hb⟩
    replace Ka := hide ((unhide Ka).later hb)
    replace Kb := hide ((unhide Kb).later hb)
    replace Kc := hide ((unhide Kc).later hb)
    replace Kp := hide ((unhide Kp).later hb)
    replace BW := hide (below_on (unhide BW) hb)
    clear hb
    clear C3
    rw [unhide HG]
    clear Ka Kb Kc Kp
    go_wp2_with fail
    go_ret2
    exact ⟨rfl, unhide BW⟩
  · have na : Near a := near_of (List.all_eq_true.1 hg a (by simp))
    have nb : Near b := near_of (List.all_eq_true.1 hg b (by simp))
    have nc : Near c := near_of (List.all_eq_true.1 hg c (by simp))
    have np : Near p := near_of (List.all_eq_true.1 hg p (by simp))
    have C0 := hide (fun w => turnI a b c w na nb nc)
    have C1 := hide (fun w ht => inI11 a b c p w na nb nc np ht)
    have e0 : itB a b c p = !(sgZ (crs a b c) == 0) := by unfold itB; rw [hg]; rfl
    have e1 : itV a b c p = (!(sgZ (crs a b c) == 0) && inT a b c p) := by unfold itV; rw [e0]
    rw [e0, e1]
    clear e0 e1 na nb nc np
    generalize sgZ (crs a b c) = k at *
    generalize inT a b c p = v at *
    have HG := hide hg
    clear hg
    have BW : Hid (Below w.heap.size w w) := hide (Below.refl _ _)
    have al : Below w.heap.size w ((((w.alloc (.cells #[.int .i64 a.1, .int .i64 a.2] 59)).alloc (.cells #[.int .i64 b.1, .int .i64 b.2] 59)).alloc (.cells #[.int .i64 c.1, .int .i64 c.2] 59)).alloc (.cells #[.int .i64 p.1, .int .i64 p.2] 59)) := (((((Below.refl _ _).alloc (Nat.le_refl _) _).alloc (by simp) _).alloc (by simp; omega) _).alloc (by simp; omega) _)
    replace BW := hide (below_on (unhide BW) al)
    clear al
    have Ka : Hid (BxP ((((w.alloc (.cells #[.int .i64 a.1, .int .i64 a.2] 59)).alloc (.cells #[.int .i64 b.1, .int .i64 b.2] 59)).alloc (.cells #[.int .i64 c.1, .int .i64 c.2] 59)).alloc (.cells #[.int .i64 p.1, .int .i64 p.2] 59)) (w.heap.size) a.1 a.2) := hide (((((BxP.new (w := w) (x := a.1) (y := a.2) (t := 59)).later ((Below.refl _ _).alloc (Nat.le_refl _) _)).later ((Below.refl _ _).alloc (Nat.le_refl _) _)).later ((Below.refl _ _).alloc (Nat.le_refl _) _)))
    have zz : (w.alloc (.cells #[.int .i64 a.1, .int .i64 a.2] 59)).heap.size = w.heap.size + 1 := by simp
    have Kb : Hid (BxP ((((w.alloc (.cells #[.int .i64 a.1, .int .i64 a.2] 59)).alloc (.cells #[.int .i64 b.1, .int .i64 b.2] 59)).alloc (.cells #[.int .i64 c.1, .int .i64 c.2] 59)).alloc (.cells #[.int .i64 p.1, .int .i64 p.2] 59)) (w.heap.size + 1) b.1 b.2) := hide (zz ▸ (((BxP.new (w := (w.alloc (.cells #[.int .i64 a.1, .int .i64 a.2] 59))) (x := b.1) (y := b.2) (t := 59)).later ((Below.refl _ _).alloc (Nat.le_refl _) _)).later ((Below.refl _ _).alloc (Nat.le_refl _) _)))
    clear zz
    have zz : ((w.alloc (.cells #[.int .i64 a.1, .int .i64 a.2] 59)).alloc (.cells #[.int .i64 b.1, .int .i64 b.2] 59)).heap.size = w.heap.size + 1 + 1 := by simp
    have Kc : Hid (BxP ((((w.alloc (.cells #[.int .i64 a.1, .int .i64 a.2] 59)).alloc (.cells #[.int .i64 b.1, .int .i64 b.2] 59)).alloc (.cells #[.int .i64 c.1, .int .i64 c.2] 59)).alloc (.cells #[.int .i64 p.1, .int .i64 p.2] 59)) (w.heap.size + 1 + 1) c.1 c.2) := hide (zz ▸ ((BxP.new (w := ((w.alloc (.cells #[.int .i64 a.1, .int .i64 a.2] 59)).alloc (.cells #[.int .i64 b.1, .int .i64 b.2] 59))) (x := c.1) (y := c.2) (t := 59)).later ((Below.refl _ _).alloc (Nat.le_refl _) _)))
    clear zz
    have zz : (((w.alloc (.cells #[.int .i64 a.1, .int .i64 a.2] 59)).alloc (.cells #[.int .i64 b.1, .int .i64 b.2] 59)).alloc (.cells #[.int .i64 c.1, .int .i64 c.2] 59)).heap.size = w.heap.size + 1 + 1 + 1 := by simp
    have Kp : Hid (BxP ((((w.alloc (.cells #[.int .i64 a.1, .int .i64 a.2] 59)).alloc (.cells #[.int .i64 b.1, .int .i64 b.2] 59)).alloc (.cells #[.int .i64 c.1, .int .i64 c.2] 59)).alloc (.cells #[.int .i64 p.1, .int .i64 p.2] 59)) (w.heap.size + 1 + 1 + 1) p.1 p.2) := hide (zz ▸ (BxP.new (w := (((w.alloc (.cells #[.int .i64 a.1, .int .i64 a.2] 59)).alloc (.cells #[.int .i64 b.1, .int .i64 b.2] 59)).alloc (.cells #[.int .i64 c.1, .int .i64 c.2] 59))) (x := p.1) (y := p.2) (t := 59)))
    clear zz
    have C3 : Hid (SlP (((((w.alloc (.cells #[.int .i64 a.1, .int .i64 a.2] 59)).alloc (.cells #[.int .i64 b.1, .int .i64 b.2] 59)).alloc (.cells #[.int .i64 c.1, .int .i64 c.2] 59)).alloc (.cells #[.int .i64 p.1, .int .i64 p.2] 59)).alloc (.cells #[.int .i64 a.1, .int .i64 a.2, .int .i64 b.1, .int .i64 b.2, .int .i64 c.1, .int .i64 c.2, .int .i64 p.1, .int .i64 p.2] 59)) (some ⟨w.heap.size + 1 + 1 + 1 + 1, 0, none⟩) [a, b, c, p]) := hide (by have k := cellsP4 ((((w.alloc (.cells #[.int .i64 a.1, .int .i64 a.2] 59)).alloc (.cells #[.int .i64 b.1, .int .i64 b.2] 59)).alloc (.cells #[.int .i64 c.1, .int .i64 c.2] 59)).alloc (.cells #[.int .i64 p.1, .int .i64 p.2] 59)) a b c p; rw [show ((((w.alloc (.cells #[.int .i64 a.1, .int .i64 a.2] 59)).alloc (.cells #[.int .i64 b.1, .int .i64 b.2] 59)).alloc (.cells #[.int .i64 c.1, .int .i64 c.2] 59)).alloc (.cells #[.int .i64 p.1, .int .i64 p.2] 59)).heap.size = w.heap.size + 1 + 1 + 1 + 1 by simp] at k; exact k)
    have al : Below ((((w.alloc (.cells #[.int .i64 a.1, .int .i64 a.2] 59)).alloc (.cells #[.int .i64 b.1, .int .i64 b.2] 59)).alloc (.cells #[.int .i64 c.1, .int .i64 c.2] 59)).alloc (.cells #[.int .i64 p.1, .int .i64 p.2] 59)).heap.size ((((w.alloc (.cells #[.int .i64 a.1, .int .i64 a.2] 59)).alloc (.cells #[.int .i64 b.1, .int .i64 b.2] 59)).alloc (.cells #[.int .i64 c.1, .int .i64 c.2] 59)).alloc (.cells #[.int .i64 p.1, .int .i64 p.2] 59)) (((((w.alloc (.cells #[.int .i64 a.1, .int .i64 a.2] 59)).alloc (.cells #[.int .i64 b.1, .int .i64 b.2] 59)).alloc (.cells #[.int .i64 c.1, .int .i64 c.2] 59)).alloc (.cells #[.int .i64 p.1, .int .i64 p.2] 59)).alloc (.cells #[.int .i64 a.1, .int .i64 a.2, .int .i64 b.1, .int .i64 b.2, .int .i64 c.1, .int .i64 c.2, .int .i64 p.1, .int .i64 p.2] 59)) := (Below.refl _ _).alloc (Nat.le_refl _) _
    replace Ka := hide ((unhide Ka).later al)
    replace Kb := hide ((unhide Kb).later al)
    replace Kc := hide ((unhide Kc).later al)
    replace Kp := hide ((unhide Kp).later al)
    replace BW := hide (below_on (unhide BW) al)
    clear al
    go_enter Try.func42, Try.ntmps42
    go_wp2_with fail
    refine (ptsI _ 4 4 [a, b, c, p] _ (unhide C3) rfl (by unfold maxLen; omega)).mono ?_
    rintro e w2 ⟨rfl, hb⟩
    replace Ka := hide ((unhide Ka).later hb)
    replace Kb := hide ((unhide Kb).later hb)
    replace Kc := hide ((unhide Kc).later hb)
    replace Kp := hide ((unhide Kp).later hb)
    replace BW := hide (below_on (unhide BW) hb)
    clear hb
    clear C3
    rw [unhide HG]
    have Ka_0 := (unhide Ka).c0
    have Ka_1 := (unhide Ka).c1
    have Kb_0 := (unhide Kb).c0
    have Kb_1 := (unhide Kb).c1
    have Kc_0 := (unhide Kc).c0
    have Kc_1 := (unhide Kc).c1
    go_wp2_with fail
    refine (unhide C0 _).mono ?_
    rintro e w3 ⟨rfl, hb⟩
    clear Ka_0 Ka_1 Kb_0 Kb_1 Kc_0 Kc_1
    replace Ka := hide ((unhide Ka).later hb)
    replace Kb := hide ((unhide Kb).later hb)
    replace Kc := hide ((unhide Kc).later hb)
    replace Kp := hide ((unhide Kp).later hb)
    replace BW := hide (below_on (unhide BW) hb)
    clear hb
    clear C0
    cases hk : (k == 0)
    · skip
      have Ka_0 := (unhide Ka).c0
      have Ka_1 := (unhide Ka).c1
      have Kb_0 := (unhide Kb).c0
      have Kb_1 := (unhide Kb).c1
      have Kc_0 := (unhide Kc).c0
      have Kc_1 := (unhide Kc).c1
      have Kp_0 := (unhide Kp).c0
      have Kp_1 := (unhide Kp).c1
      go_wp2_with fail
      refine (unhide C1 _ (by intro e; rw [e] at hk; exact absurd hk (by decide))).mono ?_
      rintro e w4 ⟨rfl, hb⟩
      clear Ka_0 Ka_1 Kb_0 Kb_1 Kc_0 Kc_1 Kp_0 Kp_1
      replace Ka := hide ((unhide Ka).later hb)
      replace Kb := hide ((unhide Kb).later hb)
      replace Kc := hide ((unhide Kc).later hb)
      replace Kp := hide ((unhide Kp).later hb)
      replace BW := hide (below_on (unhide BW) hb)
      clear hb
      clear Ka Kb Kc Kp
      go_wp2_with fail
      go_ret2
      exact ⟨by simp only [hk]; rfl, unhide BW⟩
    · skip
      clear Ka Kb Kc Kp
      go_wp2_with fail
      go_ret2
      exact ⟨by simp only [hk]; rfl, unhide BW⟩
end Go.Proofs.Ytblhjeepelgdaaa
