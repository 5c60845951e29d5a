/- Good fractions: the program's and the specification's GoodRat answer the same at every fraction. No condition beyond those typed. -/
import Derived.Test.YtdgonpbponnnaaaGreatDoorRatL
import Derived.Test.YtdgonpbponnnaaaGreatDoorDivJ
namespace Go.Proofs.YtdgonpbponnnaaaGreatDoor
open Go.RowKit
set_option linter.unusedVariables false
set_option maxRecDepth 100000
set_option linter.unusedSimpArgs false

/-- Whether a fraction is good. -/
def goodR (g : Bool) (xs : List Int) (h : Bool) (us : List Int) : Bool := (goodB g xs && goodB h us) && (!h && (decide (us.length ≠ 0) && decide (Nat.gcd (val xs).toNat (val us).toNat = 1)))

theorem nought_any (g : Bool) (a : Option Addr) (n c : Nat) (w : World) (hm : n ≤ maxLen) :
    Calls Tryz.prog 35 #[.agg #[.bool g, .slice a n c]] w fun e w' => e = .returned (.bool (decide (n = 0))) ∧ Below w.heap.size w w' := by
  unfold maxLen at hm
  by_cases h : n = 0
  · subst h
    go_enter Tryz.func35, Tryz.ntmps35
    go_wp2
    go_ret
    exact ⟨rfl, (Below.refl _ _).alloc (Nat.le_refl _) _⟩
  · have hz : ((n : Int) == 0) = false := by simp; omega
    have hd : decide (n = 0) = false := by simp [h]
    rw [hd]
    go_enter Tryz.func35, Tryz.ntmps35
    go_wp2
    go_ret
    exact ⟨rfl, (Below.refl _ _).alloc (Nat.le_refl _) _⟩
theorem nm_one : Nm [1] 1 := ⟨okL_one (by omega) (by omega), trim_snoc_ne [] (by omega), by simp [val]⟩
theorem one_iff {zs : List Int} {V : Int} (h : Nm zs V) : (zs.length = 1 ∧ zs.getD 0 0 = 1) ↔ V = 1 := by
  constructor
  · rintro ⟨h1, h2⟩
    rw [← h.v, val_one h1, h2]
  · intro e
    subst e
    rw [h.same nm_one]
    exact ⟨rfl, rfl⟩
set_option maxHeartbeats 1000000 in
theorem one_any (a : Option Addr) (n c : Nat) (zs : List Int) (V : Int) (w : World) (ha : Arg w a n c zs) (hn : Nm zs V) :
    Calls Tryz.prog 44 #[.slice a n c] w fun e w' => e = .returned (.bool (decide (V = 1))) ∧ Below w.heap.size w w' := by
  have hi := one_iff hn
  have hm : n ≤ maxLen := Nat.le_trans ha.cap ha.top
  unfold maxLen at hm
  by_cases h : n = 1
  · subst h
    obtain ⟨b, off, rfl, hc⟩ := ha.sl.at (k := 0) (by rw [ha.len]; omega)
    rw [Nat.add_zero] at hc
    have hi2 : (zs.getD 0 0 = 1) ↔ V = 1 := ⟨fun e => hi.1 ⟨ha.len, e⟩, fun e => (hi.2 e).2⟩
    clear hi ha hn
    generalize zs.getD 0 0 = z at *
    by_cases hz : z = 1
    · have hv : decide (V = 1) = true := decide_eq_true (hi2.1 hz)
      rw [hv]
      subst hz
      clear hi2
      go_enter Tryz.func44, Tryz.ntmps44
      go_wp2
      go_ret
      exact ⟨rfl, Below.refl _ _⟩
    · have hv : decide (V = 1) = false := decide_eq_false (fun e => hz (hi2.2 e))
      rw [hv]
      have hz' : (z == 1) = false := by simp [hz]
      clear hi2
      go_enter Tryz.func44, Tryz.ntmps44
      go_wp2
      go_ret
      exact ⟨rfl, Below.refl _ _⟩
  · have hv : decide (V = 1) = false := decide_eq_false (fun e => h (by rw [← ha.len]; exact (hi.2 e).1))
    rw [hv]
    have hz : ((n : Int) == 1) = false := by simp; omega
    clear hi ha hn
    go_enter Tryz.func44, Tryz.ntmps44
    go_wp2
    go_ret
    exact ⟨rfl, Below.refl _ _⟩

set_option maxHeartbeats 4000000 in
theorem goodRI_any (r : RV) (xs us : List Int) (w : World) (hx : Arg w r.a r.n r.c xs) (hu : Arg w r.b r.p r.d us) :
    Calls Tryz.prog 16 #[.agg #[.bool r.g, .slice r.a r.n r.c, .bool r.h, .slice r.b r.p r.d]] w fun e w' => e = .returned (.bool (goodR r.g xs r.h us)) ∧ Below w.heap.size w w' := by
  obtain ⟨g, a, n, c, h, b, p, d⟩ := r
  simp only at hx hu ⊢
  have HX := hide hx
  have HU := hide hu
  have hm : p ≤ maxLen := Nat.le_trans hu.cap hu.top
  clear hx hu
  have B0 := hide (show Below w.heap.size w (w.alloc (.cells #[.bool g, .slice a n c, .bool h, .slice b p d] 27)) from (Below.refl _ _).alloc (Nat.le_refl _) _)
  have HP := hide (fun w1 (k : Below w.heap.size w w1) => pair_any g h a b n p c d xs us w1 ((unhide HX).later k).sl ((unhide HU).later k).sl (unhide HX).len (unhide HU).len (Nat.le_trans (unhide HX).cap (unhide HX).top) hm)
  cases hP : (goodB g xs && goodB h us)
  · have e0 : goodR g xs h us = false := by simp [goodR, hP]
    rw [e0]
    rw [hP] at HP
    clear hP e0
    go_enter Tryz.func16, Tryz.ntmps16
    go_wp2_with fail
    refine (unhide HP _ (unhide B0)).mono ?_
    rintro e w1 ⟨rfl, hb1⟩
    have HB := hide (ba hb1)
    clear hb1
    go_wp2
    go_ret
    exact ⟨rfl, unhide HB⟩
  · have hg1 : goodB g xs = true := by revert hP; cases goodB g xs <;> simp
    have hg2 : goodB h us = true := by revert hP; cases goodB h us <;> simp
    rw [hP] at HP
    have e0 : goodR g xs h us = (!h && (decide (us.length ≠ 0) && decide (Nat.gcd (val xs).toNat (val us).toNat = 1))) := by simp [goodR, hg1, hg2]
    rw [e0]
    cases h
    · by_cases hz : p = 0
      · have hl : decide (us.length ≠ 0) = false := by rw [(unhide HU).len]; simp [hz]
        rw [hl]
        have NO := hide (fun w1 => nought_any false b p d w1 hm)
        have hpz : decide (p = 0) = true := decide_eq_true hz
        rw [hpz] at NO
        clear hP e0 hg1 hg2 hl hpz
        subst hz
        go_enter Tryz.func16, Tryz.ntmps16
        go_wp2_with fail
        refine (unhide HP _ (unhide B0)).mono ?_
        rintro e w1 ⟨rfl, hb1⟩
        have x2 : w1.cell? ⟨w.heap.size, 2, none⟩ = some (.bool false) := cell_later hb1 (by simp [go_sem])
        have x3 : w1.cell? ⟨w.heap.size, 3, none⟩ = some (.slice b 0 d) := cell_later hb1 (by simp [go_sem])
        have HB := hide (ba hb1)
        clear hb1
        go_wp2_with fail
        refine (unhide NO _).mono ?_
        rintro e w2 ⟨rfl, hb2⟩
        have HB2 := hide (below_on (unhide HB) hb2)
        clear hb2
        go_wp2
        go_ret
        exact ⟨rfl, unhide HB2⟩
      · have hl : decide (us.length ≠ 0) = true := by rw [(unhide HU).len]; simp [hz]
        rw [hl]
        have NO := hide (fun w1 => nought_any false b p d w1 hm)
        have hpz : decide (p = 0) = false := decide_eq_false hz
        rw [hpz] at NO
        obtain ⟨ox, tx, lx, _⟩ := good_parts hg1
        obtain ⟨ou, tu, lu, _⟩ := good_parts hg2
        have CG := hide (fun w1 (k : Below w.heap.size w w1) => gcdI_any a b n p c d xs us w1 ((unhide HX).later k) ((unhide HU).later k) ox tx ou tu (by rw [← (unhide HX).len]; omega) (by rw [← (unhide HU).len]; omega))
        obtain ⟨V, HV⟩ : ∃ V : Nat, Hid (V = Nat.gcd (val xs).toNat (val us).toNat) := ⟨_, hide rfl⟩
        have hve : decide (Nat.gcd (val xs).toNat (val us).toNat = 1) = decide ((V : Int) = 1) := by rw [unhide HV]; apply decide_eq_decide.2; omega
        rw [hve]
        rw [← unhide HV] at CG
        clear hP e0 hg1 hg2 hl hpz ox tx lx ou tu lu hve
        go_enter Tryz.func16, Tryz.ntmps16
        go_wp2_with fail
        refine (unhide HP _ (unhide B0)).mono ?_
        rintro e w1 ⟨rfl, hb1⟩
        have x1 : w1.cell? ⟨w.heap.size, 1, none⟩ = some (.slice a n c) := cell_later hb1 (by simp [go_sem])
        have x2 : w1.cell? ⟨w.heap.size, 2, none⟩ = some (.bool false) := cell_later hb1 (by simp [go_sem])
        have x3 : w1.cell? ⟨w.heap.size, 3, none⟩ = some (.slice b p d) := cell_later hb1 (by simp [go_sem])
        have HB := hide (ba hb1)
        clear hb1
        go_wp2_with fail
        refine (unhide NO _).mono ?_
        rintro e w2 ⟨rfl, hb2⟩
        replace x1 := cell_later hb2 x1
        replace x3 := cell_later hb2 x3
        have HB2 := hide (below_on (unhide HB) hb2)
        clear hb2 x2
        go_wp2_with fail
        refine (unhide CG _ (unhide HB2)).mono ?_
        rintro e w3 ⟨a3, n3, c3, zs, rfl, hb3, _, ha3, hn3⟩
        have HB3 := hide (below_on (unhide HB2) hb3)
        have H3 := hide (And.intro ha3 hn3)
        clear hb3 ha3 hn3 x1 x3
        go_wp2_with fail
        refine (one_any a3 n3 c3 zs _ w3 (unhide H3).1 (unhide H3).2).mono ?_
        rintro e w4 ⟨rfl, hb4⟩
        have HB4 := hide (below_on (unhide HB3) hb4)
        clear hb4
        go_wp2
        go_ret
        exact ⟨by simp <;> rfl, unhide HB4⟩
    · clear e0 hg1 hg2 hP
      go_enter Tryz.func16, Tryz.ntmps16
      go_wp2_with fail
      refine (unhide HP _ (unhide B0)).mono ?_
      rintro e w1 ⟨rfl, hb1⟩
      have x2 : w1.cell? ⟨w.heap.size, 2, none⟩ = some (.bool true) := cell_later hb1 (by simp [go_sem])
      have HB := hide (ba hb1)
      clear hb1
      go_wp2
      go_ret
      exact ⟨rfl, unhide HB⟩
end Go.Proofs.YtdgonpbponnnaaaGreatDoor
