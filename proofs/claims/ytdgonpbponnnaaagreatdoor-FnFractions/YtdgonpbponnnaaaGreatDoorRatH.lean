/- Good fractions: the specification's GoodRat. No condition beyond those typed. -/
import Derived.Test.YtdgonpbponnnaaaGreatDoorRatG
namespace Go.Proofs.YtdgonpbponnnaaaGreatDoor
open Go.RowKit
set_option linter.unusedVariables false
set_option maxRecDepth 100000
set_option linter.unusedSimpArgs false

theorem cmp_one {zs : List Int} {V : Int} (h : Nm zs V) : (cmpL zs [1] == 0) = decide (V = 1) := by
  have hv := cmpL_val h.ok nm_one.ok h.tr nm_one.tr
  rw [h.v, nm_one.v] at hv
  by_cases e : V = 1
  · have : cmpL zs [1] = 0 := by omega
    rw [this]; simp [e]
  · have : cmpL zs [1] ≠ 0 := by omega
    simp [this, e]

set_option maxHeartbeats 4000000 in
theorem goodRS_any (r : RV) (xs us : List Int) (w : World) (hx : Arg w r.a r.n r.c xs) (hu : Arg w r.b r.p r.d us) :
    Calls Tryz.prog 17 #[.agg #[.bool r.g, .slice r.a r.n r.c, .bool r.h, .slice r.b r.p r.d]] w fun e w' => e = .returned (.bool (goodR r.g xs r.h us)) ∧ Below w.heap.size w w' := by
  obtain ⟨g, a, n, c, h, b, p, d⟩ := r
  simp only at hx hu ⊢
  have HX := hide hx
  have HU := hide hu
  have hm : p ≤ maxLen := Nat.le_trans hu.cap hu.top
  have hmn : n ≤ maxLen := Nat.le_trans hx.cap hx.top
  clear hx hu
  have B0 := hide (show Below w.heap.size w (w.alloc (.cells #[.bool g, .slice a n c, .bool h, .slice b p d] 27)) from (Below.refl _ _).alloc (Nat.le_refl _) _)
  have HP1 := hide (fun w1 (k : Below w.heap.size w w1) => goodS_any g a n c xs w1 ((unhide HX).later k).sl (unhide HX).len hmn)
  have HP2 := hide (fun w1 (k : Below w.heap.size w w1) => goodS_any h b p d us w1 ((unhide HU).later k).sl (unhide HU).len hm)
  cases hg1 : goodB g xs
  · have e0 : goodR g xs h us = false := by simp [goodR, hg1]
    rw [e0]
    rw [hg1] at HP1
    clear hg1 e0
    go_enter Tryz.func17, Tryz.ntmps17
    go_wp2_with fail
    refine (unhide HP1 _ (unhide B0)).mono ?_
    rintro e w1 ⟨rfl, hb1⟩
    have HB := hide (ba hb1)
    clear hb1
    go_wp2
    go_ret
    exact ⟨rfl, unhide HB⟩
  · rw [hg1] at HP1
    cases hg2 : goodB h us
    · have e0 : goodR g xs h us = false := by simp [goodR, hg2]
      rw [e0]
      rw [hg2] at HP2
      clear hg1 hg2 e0
      go_enter Tryz.func17, Tryz.ntmps17
      go_wp2_with fail
      refine (unhide HP1 _ (unhide B0)).mono ?_
      rintro e w1 ⟨rfl, hb1⟩
      have x2 : w1.cell? ⟨w.heap.size, 2, none⟩ = some (.bool h) := cell_later hb1 (by simp [go_sem])
      have x3 : w1.cell? ⟨w.heap.size, 3, none⟩ = some (.slice b p d) := cell_later hb1 (by simp [go_sem])
      have HB := hide (ba hb1)
      clear hb1
      go_wp2_with fail
      refine (unhide HP2 _ (unhide HB)).mono ?_
      rintro e w2 ⟨rfl, hb2⟩
      have HB2 := hide (below_on (unhide HB) hb2)
      clear hb2
      go_wp2
      go_ret
      exact ⟨rfl, unhide HB2⟩
    · rw [hg2] at HP2
      have e0 : goodR g xs h us = (!h && (decide (us.length ≠ 0) && decide (Nat.gcd (val xs).toNat (val us).toNat = 1))) := by simp [goodR, hg1, hg2]
      rw [e0]
      obtain ⟨ox, tx, lx, _⟩ := good_parts hg1
      obtain ⟨ou, tu, lu, _⟩ := good_parts hg2
      have CG := hide (fun w1 (k : Below w.heap.size w w1) => gcdS_any a b n p c d xs us w1 ((unhide HX).later k) ((unhide HU).later k) ox tx ou tu (by rw [← (unhide HX).len]; omega) (by rw [← (unhide HU).len]; omega))
      obtain ⟨V, HV⟩ : ∃ V : Nat, Hid (V = Nat.gcd (val xs).toNat (val us).toNat) := ⟨_, hide rfl⟩
      have hve : decide (Nat.gcd (val xs).toNat (val us).toNat = 1) = decide ((V : Int) = 1) := by rw [unhide HV]; apply decide_eq_decide.2; omega
      rw [hve]
      rw [← unhide HV] at CG
      clear e0 hg1 hg2 ox tx lx ou tu lu hve
      cases h
      · by_cases hz : p = 0
        · have hl : decide (us.length ≠ 0) = false := by rw [(unhide HU).len]; simp [hz]
          rw [hl]
          clear hl
          subst hz
          go_enter Tryz.func17, Tryz.ntmps17
          go_wp2_with fail
          refine (unhide HP1 _ (unhide B0)).mono ?_
          rintro e w1 ⟨rfl, hb1⟩
          have x2 : w1.cell? ⟨w.heap.size, 2, none⟩ = some (.bool false) := cell_later hb1 (by simp [go_sem])
          have x3 : w1.cell? ⟨w.heap.size, 3, none⟩ = some (.slice b 0 d) := cell_later hb1 (by simp [go_sem])
          have HB := hide (ba hb1)
          clear hb1
          go_wp2_with fail
          refine (unhide HP2 _ (unhide HB)).mono ?_
          rintro e w2 ⟨rfl, hb2⟩
          replace x2 := cell_later hb2 x2
          replace x3 := cell_later hb2 x3
          have HB2 := hide (below_on (unhide HB) hb2)
          clear hb2
          go_wp2
          go_ret
          exact ⟨rfl, unhide HB2⟩
        · have hl : decide (us.length ≠ 0) = true := by rw [(unhide HU).len]; simp [hz]
          rw [hl]
          clear hl
          have hz' : ((p : Int) == 0) = false := by simp; omega
          go_enter Tryz.func17, Tryz.ntmps17
          go_wp2_with fail
          refine (unhide HP1 _ (unhide B0)).mono ?_
          rintro e w1 ⟨rfl, hb1⟩
          have x1 : w1.cell? ⟨w.heap.size, 1, none⟩ = some (.slice a n c) := cell_later hb1 (by simp [go_sem])
          have x2 : w1.cell? ⟨w.heap.size, 2, none⟩ = some (.bool false) := cell_later hb1 (by simp [go_sem])
          have x3 : w1.cell? ⟨w.heap.size, 3, none⟩ = some (.slice b p d) := cell_later hb1 (by simp [go_sem])
          have HB := hide (ba hb1)
          clear hb1
          go_wp2_with fail
          refine (unhide HP2 _ (unhide HB)).mono ?_
          rintro e w2 ⟨rfl, hb2⟩
          replace x1 := cell_later hb2 x1
          replace x2 := cell_later hb2 x2
          replace x3 := cell_later hb2 x3
          have HB2 := hide (below_on (unhide HB) hb2)
          clear hb2
          go_wp2_with fail
          refine (unhide CG _ (unhide HB2)).mono ?_
          rintro e w3 ⟨a3, n3, c3, zs, rfl, hb3, _, ha3, hn3⟩
          have HB3 := hide (below_on (unhide HB2) hb3)
          have H3 := hide (And.intro ha3 hn3)
          have hal : Below w3.heap.size w3 (w3.alloc (.cells #[.int .i64 1] 3)) := (Below.refl _ _).alloc (Nat.le_refl _) _
          have CC := hide (cmpS_any a3 (some ⟨w3.heap.size, 0, none⟩) n3 1 c3 1 zs [1] _ (ha3.later hal).sl (one_arg w3 1).1.sl ha3.len rfl (Nat.le_trans ha3.cap ha3.top) (by unfold maxLen; omega))
          have hce := cmp_one hn3
          have HAL := hide (below_on (unhide HB3) hal)
          clear hb3 ha3 hn3 x1 x2 x3 hal
          go_wp2_with fail
          refine (unhide CC).mono ?_
          rintro e w4 ⟨rfl, hb4⟩
          have HB4 := hide (below_on (unhide HAL) hb4)
          clear hb4
          go_wp2
          go_ret
          exact ⟨by simp <;> rfl, unhide HB4⟩
      · go_enter Tryz.func17, Tryz.ntmps17
        go_wp2_with fail
        refine (unhide HP1 _ (unhide B0)).mono ?_
        rintro e w1 ⟨rfl, hb1⟩
        have x2 : w1.cell? ⟨w.heap.size, 2, none⟩ = some (.bool true) := cell_later hb1 (by simp [go_sem])
        have x3 : w1.cell? ⟨w.heap.size, 3, none⟩ = some (.slice b p d) := cell_later hb1 (by simp [go_sem])
        have HB := hide (ba hb1)
        clear hb1
        go_wp2_with fail
        refine (unhide HP2 _ (unhide HB)).mono ?_
        rintro e w2 ⟨rfl, hb2⟩
        replace x2 := cell_later hb2 x2
        have HB2 := hide (below_on (unhide HB) hb2)
        clear hb2
        go_wp2
        go_ret
        exact ⟨rfl, unhide HB2⟩
end Go.Proofs.YtdgonpbponnnaaaGreatDoor
