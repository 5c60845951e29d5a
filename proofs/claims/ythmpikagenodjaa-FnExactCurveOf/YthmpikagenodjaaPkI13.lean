/- MixPt: the program's and the specification's, at every two points and fraction. No condition beyond those typed. Written by mkmp12.py. -/
import Derived.Test.YthmpikagenodjaaPkH13
import Derived.Test.YthmpikagenodjaaPkF13
namespace Go.Proofs.Ythmpikagenodjaa
open Go.RowKit
set_option linter.unusedVariables false
set_option maxRecDepth 100000
set_option linter.unusedSimpArgs false

/-- A call answers the span from N / D to N' / D' in memory of its own. -/
def OutS (w : World) (N D N' D' : Int) (e : Ending) (w' : World) : Prop := ∃ (v : SV) (xs us ys vs : List Int), e = .returned (.agg #[.bool v.lo.num.g, .slice v.lo.num.a v.lo.num.n v.lo.num.c, .bool v.lo.den.g, .slice v.lo.den.a v.lo.den.n v.lo.den.c, .bool v.hi.num.g, .slice v.hi.num.a v.hi.num.n v.hi.num.c, .bool v.hi.den.g, .slice v.hi.den.a v.hi.den.n v.hi.den.c]) ∧ Below w.heap.size w w' ∧ AllOwn w.heap.size w'.heap.size w' [(v.lo.num, ⟨decide (N < 0), xs⟩), (v.lo.den, ⟨decide (D < 0), us⟩), (v.hi.num, ⟨decide (N' < 0), ys⟩), (v.hi.den, ⟨decide (D' < 0), vs⟩)] ∧ AllAr w' [(v.lo.num, ⟨decide (N < 0), xs⟩), (v.lo.den, ⟨decide (D < 0), us⟩), (v.hi.num, ⟨decide (N' < 0), ys⟩), (v.hi.den, ⟨decide (D' < 0), vs⟩)] ∧ Nm xs N.natAbs ∧ Nm us D.natAbs ∧ Nm ys N'.natAbs ∧ Nm vs D'.natAbs
theorem outS_fin {w wN W : World} {R : Nat} {v : SV} {xs us ys vs : List Int} {N D N' D' : Int} (hR : w.heap.size ≤ R) (hb : Below w.heap.size w wN) (bt : But R (R + 1) wN W) (ho : AllOwn (R + 1) wN.heap.size wN [(v.lo.num, ⟨decide (N < 0), xs⟩), (v.lo.den, ⟨decide (D < 0), us⟩), (v.hi.num, ⟨decide (N' < 0), ys⟩), (v.hi.den, ⟨decide (D' < 0), vs⟩)]) (ha : AllAr wN [(v.lo.num, ⟨decide (N < 0), xs⟩), (v.lo.den, ⟨decide (D < 0), us⟩), (v.hi.num, ⟨decide (N' < 0), ys⟩), (v.hi.den, ⟨decide (D' < 0), vs⟩)]) (h1 : Nm xs N.natAbs) (h2 : Nm us D.natAbs) (h3 : Nm ys N'.natAbs) (h4 : Nm vs D'.natAbs) : OutS w N D N' D' (.returned (.agg #[.bool v.lo.num.g, .slice v.lo.num.a v.lo.num.n v.lo.num.c, .bool v.lo.den.g, .slice v.lo.den.a v.lo.den.n v.lo.den.c, .bool v.hi.num.g, .slice v.hi.num.a v.hi.num.n v.hi.num.c, .bool v.hi.den.g, .slice v.hi.den.a v.hi.den.n v.hi.den.c])) W :=
  ⟨v, xs, us, ys, vs, rfl, bt.below hb hR hb.size, (own_fin bt ho (Nat.le_refl _)).wide (by omega) bt.size, ar_fin bt ho ha (Nat.le_refl _), h1, h2, h3, h4⟩
end Go.Proofs.Ythmpikagenodjaa
namespace Go.Proofs.Ythmpikagenodjaa
open Go.RowKit
set_option linter.unusedVariables false
set_option maxRecDepth 100000
set_option linter.unusedSimpArgs false

end Go.Proofs.Ythmpikagenodjaa
namespace Go.Proofs.Ythmpikagenodjaa
open Go.RowKit
set_option linter.unusedVariables false
set_option maxRecDepth 100000
set_option linter.unusedSimpArgs false

def AnsS (P : Bool) (N D N' D' : Int) (d : SD) (ok : Bool) : Prop :=
  (P = true ∧ ∃ xs us ys vs, Nm xs N.natAbs ∧ Nm us D.natAbs ∧ Nm ys N'.natAbs ∧ Nm vs D'.natAbs ∧ (((xs.length ≤ 40 ∧ us.length ≤ 40) ∧ (ys.length ≤ 40 ∧ vs.length ≤ 40) ∧ ok = true ∧ d = (⟨⟨⟨decide (N < 0), xs⟩, ⟨decide (D < 0), us⟩⟩, ⟨⟨decide (N' < 0), ys⟩, ⟨decide (D' < 0), vs⟩⟩⟩ : SD)) ∨ (¬ ((xs.length ≤ 40 ∧ us.length ≤ 40) ∧ (ys.length ≤ 40 ∧ vs.length ≤ 40)) ∧ ok = false ∧ d = (⟨⟨⟨false, []⟩, ⟨false, []⟩⟩, ⟨⟨false, []⟩, ⟨false, []⟩⟩⟩ : SD)))) ∨ (P = false ∧ ok = false ∧ d = (⟨⟨⟨false, []⟩, ⟨false, []⟩⟩, ⟨⟨false, []⟩, ⟨false, []⟩⟩⟩ : SD))
theorem AnsS.same {P : Bool} {N D N' D' : Int} {d d' : SD} {ok ok' : Bool} (h : AnsS P N D N' D' d ok) (k : AnsS P N D N' D' d' ok') : d = d' ∧ ok = ok' := by
  rcases h with ⟨p, xs, us, ys, vs, h1, h2, h3, h4, h5⟩ | ⟨p, h1, h2⟩ <;> rcases k with ⟨p', xs', us', ys', vs', k1, k2, k3, k4, k5⟩ | ⟨p', k1, k2⟩
  · obtain rfl := h1.same k1
    obtain rfl := h2.same k2
    obtain rfl := h3.same k3
    obtain rfl := h4.same k4
    rcases h5 with ⟨a, b, c, e⟩ | ⟨a, c, e⟩ <;> rcases k5 with ⟨a', b', c', e'⟩ | ⟨a', c', e'⟩
    · exact ⟨e.trans e'.symm, c.trans c'.symm⟩
    · exact absurd ⟨a, b⟩ a'
    · exact absurd ⟨a', b'⟩ a
    · exact ⟨e.trans e'.symm, c.trans c'.symm⟩
  · rw [p] at p'; cases p'
  · rw [p] at p'; cases p'
  · exact ⟨h2.trans k2.symm, h1.trans k1.symm⟩
theorem AnsS.lens {P : Bool} {N D N' D' : Int} {d : SD} {ok : Bool} (h : AnsS P N D N' D' d ok) : d.lo.num.xs.length ≤ 40 ∧ d.lo.den.xs.length ≤ 40 ∧ d.hi.num.xs.length ≤ 40 ∧ d.hi.den.xs.length ≤ 40 := by
  rcases h with ⟨p, xs, us, ys, vs, h1, h2, h3, h4, ⟨a, b, c, rfl⟩ | ⟨a, c, rfl⟩⟩ | ⟨p, h1, rfl⟩
  · exact ⟨a.1, a.2, b.1, b.2⟩
  · simp
  · simp
end Go.Proofs.Ythmpikagenodjaa
namespace Go.Proofs.Ythmpikagenodjaa
open Go.RowKit
set_option linter.unusedVariables false
set_option maxRecDepth 100000
set_option linter.unusedSimpArgs false

end Go.Proofs.Ythmpikagenodjaa
namespace Go.Proofs.Ythmpikagenodjaa
open Go.RowKit
set_option linter.unusedVariables false
set_option maxRecDepth 100000
set_option linter.unusedSimpArgs false

/-- The boxes of the least and the greatest so far. -/
structure Lst (w wr : World) (G1 G2 : Nat) (q1 q2 : QV) : Prop where
  a0 : wr.cell? ⟨G1, 0, none⟩ = some (.bool q1.num.g)
  a1 : wr.cell? ⟨G1, 1, none⟩ = some (.slice q1.num.a q1.num.n q1.num.c)
  a2 : wr.cell? ⟨G1, 2, none⟩ = some (.bool q1.den.g)
  a3 : wr.cell? ⟨G1, 3, none⟩ = some (.slice q1.den.a q1.den.n q1.den.c)
  b0 : wr.cell? ⟨G2, 0, none⟩ = some (.bool q2.num.g)
  b1 : wr.cell? ⟨G2, 1, none⟩ = some (.slice q2.num.a q2.num.n q2.num.c)
  b2 : wr.cell? ⟨G2, 2, none⟩ = some (.bool q2.den.g)
  b3 : wr.cell? ⟨G2, 3, none⟩ = some (.slice q2.den.a q2.den.n q2.den.c)
  f1 : ∀ o, wr.frozen? ⟨G1, o, none⟩ = false
  f2 : ∀ o, wr.frozen? ⟨G2, o, none⟩ = false
  r0 : wr.cell? ⟨w.heap.size + 1, 0, none⟩ = some (.bool false)
  r1 : wr.cell? ⟨w.heap.size + 1, 1, none⟩ = some (.slice none 0 0)
  r2 : wr.cell? ⟨w.heap.size + 1, 2, none⟩ = some (.bool false)
  r3 : wr.cell? ⟨w.heap.size + 1, 3, none⟩ = some (.slice none 0 0)
  r4 : wr.cell? ⟨w.heap.size + 1, 4, none⟩ = some (.bool false)
  r5 : wr.cell? ⟨w.heap.size + 1, 5, none⟩ = some (.slice none 0 0)
  r6 : wr.cell? ⟨w.heap.size + 1, 6, none⟩ = some (.bool false)
  r7 : wr.cell? ⟨w.heap.size + 1, 7, none⟩ = some (.slice none 0 0)
  fr : ∀ o, wr.frozen? ⟨w.heap.size + 1, o, none⟩ = false
  bel : Below w.heap.size w wr
theorem Lst.later {w wr wy : World} {G1 G2 : Nat} {q1 q2 : QV} (h : Lst w wr G1 G2 q1 q2) (hb : Below wr.heap.size wr wy) : Lst w wy G1 G2 q1 q2 :=
  ⟨cell_later hb h.a0, cell_later hb h.a1, cell_later hb h.a2, cell_later hb h.a3, cell_later hb h.b0, cell_later hb h.b1, cell_later hb h.b2, cell_later hb h.b3, fun o => frozen_later hb (World.block_lt_of_cell? _ _ h.a0) (h.f1 o), fun o => frozen_later hb (World.block_lt_of_cell? _ _ h.b0) (h.f2 o), cell_later hb h.r0, cell_later hb h.r1, cell_later hb h.r2, cell_later hb h.r3, cell_later hb h.r4, cell_later hb h.r5, cell_later hb h.r6, cell_later hb h.r7, fun o => frozen_later hb (World.block_lt_of_cell? _ _ h.r0) (h.fr o), below_on h.bel hb⟩
end Go.Proofs.Ythmpikagenodjaa
namespace Go.Proofs.Ythmpikagenodjaa
open Go.RowKit
set_option linter.unusedVariables false
set_option maxRecDepth 100000
set_option linter.unusedSimpArgs false

/-- In lowest terms, the denominator above 0. -/
structure Low (N D : Int) : Prop where
  pos : 0 < D
  co : Nat.gcd N.natAbs D.natAbs = 1
theorem Low.same {N D N' D' : Int} (h : Low N D) (k : Low N' D') (e : N * D' = N' * D) : N = N' ∧ D = D' := by
  have h1 : D.natAbs ∣ D'.natAbs := by
    have : D.natAbs ∣ N.natAbs * D'.natAbs := by rw [← Int.natAbs_mul, e, Int.natAbs_mul]; exact Nat.dvd_mul_left _ _
    exact Nat.Coprime.dvd_of_dvd_mul_left (by rw [Nat.Coprime, Nat.gcd_comm]; exact h.co) this
  have h2 : D'.natAbs ∣ D.natAbs := by
    have : D'.natAbs ∣ N'.natAbs * D.natAbs := by rw [← Int.natAbs_mul, ← e, Int.natAbs_mul]; exact Nat.dvd_mul_left _ _
    exact Nat.Coprime.dvd_of_dvd_mul_left (by rw [Nat.Coprime, Nat.gcd_comm]; exact k.co) this
  have h3 : D.natAbs = D'.natAbs := Nat.dvd_antisymm h1 h2
  have hp := h.pos
  have kp := k.pos
  have h4 : D = D' := by omega
  subst h4
  exact ⟨Int.eq_of_mul_eq_mul_right (by omega) e, rfl⟩
theorem low_low {N D : Int} (h : D ≠ 0) : Low (lowN N D) (lowD N D) := by
  refine ⟨lowD_pos h, ?_⟩
  have hg := gcd_pos_right (N := N) h
  have e1 : (lowN N D).natAbs = N.natAbs / Nat.gcd N.natAbs D.natAbs := by
    have h1 := lowN_abs N D
    unfold lowU at h1
    rw [← Int.natCast_ediv] at h1
    exact_mod_cast h1
  have e2 : (lowD N D).natAbs = D.natAbs / Nat.gcd N.natAbs D.natAbs := by
    have h1 := lowD_abs N D
    unfold lowD at h1 ⊢
    rw [← Int.natCast_ediv, Int.natAbs_natCast]
  rw [e1, e2]
  exact Nat.gcd_div_gcd_div_gcd_of_pos_right (by omega)
theorem low_cross {N D : Int} (h : 0 < D) : lowN N D * D = N * lowD N D := by
  have hg := gcd_pos_right (N := N) (show D ≠ 0 by omega)
  have d1 : ((Nat.gcd N.natAbs D.natAbs : Nat) : Int) ∣ (N.natAbs : Int) := by exact_mod_cast Nat.gcd_dvd_left _ _
  have d2 : ((Nat.gcd N.natAbs D.natAbs : Nat) : Int) ∣ (D.natAbs : Int) := by exact_mod_cast Nat.gcd_dvd_right _ _
  have m1 := Int.ediv_mul_cancel d1
  have m2 := Int.ediv_mul_cancel d2
  unfold lowN lowD lowU sU
  generalize (N.natAbs : Int) / ((Nat.gcd N.natAbs D.natAbs : Nat) : Int) = a at *
  generalize (D.natAbs : Int) / ((Nat.gcd N.natAbs D.natAbs : Nat) : Int) = b at *
  generalize ((Nat.gcd N.natAbs D.natAbs : Nat) : Int) = g at *
  rw [decide_eq_false (show ¬ D < 0 by omega)]
  have hD : D = b * g := by omega
  by_cases c : N < 0
  · have hN : N = -(a * g) := by omega
    rw [decide_eq_true c, if_pos (by rfl), hN, hD]
    simp only [Int.neg_mul, Int.mul_neg, Int.mul_comm, Int.mul_left_comm]
  · have hN : N = a * g := by omega
    rw [decide_eq_false c, if_neg (by simp), hN, hD]
    simp only [Int.mul_comm, Int.mul_left_comm]
end Go.Proofs.Ythmpikagenodjaa
namespace Go.Proofs.Ythmpikagenodjaa
open Go.RowKit
set_option linter.unusedVariables false
set_option maxRecDepth 100000
set_option linter.unusedSimpArgs false

set_option maxHeartbeats 4000000 in
theorem wholeI (n : Int) (w : World) (h0 : -9223372036854775808 ≤ n) (h1 : n ≤ 9223372036854775807) : Calls Try.prog 38 #[.int .i64 n] w (OutQ w n 1) := by
  have B0 := hide (show Below w.heap.size w (w.alloc (.cells #[.bool false, .slice none 0 0, .bool false, .slice none 0 0] 50)) from ((Below.refl _ _).alloc (by simp) _))
  go_enter Try.func38, Try.ntmps38
  go_wp2_with fail
  refine (ofI_v n _ h0 h1).mono ?_
  rintro e w1 ⟨x1, l1, rfl, hb, o1, a1, n1⟩
  have s1 : w.heap.size + 1 ≤ w1.heap.size := by have := hb.size; simp at this; omega
  replace o1 := o1.wide (lo' := w.heap.size + 1) (by simp) (Nat.le_refl _)
  have k0_0 : w1.cell? ⟨w.heap.size, 0, none⟩ = some (.bool false) := cell_later hb (by simp [go_sem])
  have k0_1 : w1.cell? ⟨w.heap.size, 1, none⟩ = some (.slice none 0 0) := cell_later hb (by simp [go_sem])
  have k0_2 : w1.cell? ⟨w.heap.size, 2, none⟩ = some (.bool false) := cell_later hb (by simp [go_sem])
  have k0_3 : w1.cell? ⟨w.heap.size, 3, none⟩ = some (.slice none 0 0) := cell_later hb (by simp [go_sem])
  have z0 : ∀ o, w1.frozen? ⟨w.heap.size, o, none⟩ = false := fun o => frozen_later hb (by simp) (by simp [go_sem])
  have P1 := hide (outN_ow o1 a1 n1)
  have HB := hide (below_on (unhide B0) hb)
  clear hb
  clear o1 a1 n1
  go_wp2_with fail
  refine (ofI_v 1 _ (by omega) (by omega)).mono ?_
  rintro e w2 ⟨x2, l2, rfl, hb, o2, a2, n2⟩
  have s2 := hb.size
  replace z0 := fun o => frozen_later hb (World.block_lt_of_cell? _ _ k0_0) (z0 o)
  replace k0_0 := cell_later hb k0_0
  replace k0_1 := cell_later hb k0_1
  replace k0_2 := cell_later hb k0_2
  replace k0_3 := cell_later hb k0_3
  replace P1 := hide ((unhide P1).later hb)
  have P2 := hide (outN_ow o2 a2 n2)
  replace HB := hide (below_on (unhide HB) hb)
  clear hb
  clear o2 a2 n2
  go_wp2
  refine bodyPost_ret (v := .agg #[.bool x1.g, .slice x1.a x1.n x1.c, .bool x2.g, .slice x2.a x2.n x2.c]) (by simp [results, Try.results38, go_sem, k0_0, k0_1, k0_2, k0_3]) rfl ?_
  obtain ⟨zs, us, oo, aa, m1, m2⟩ := (unhide P1).two (unhide P2) s1 s2
  exact outQ_fin (q := ⟨x1, x2⟩) (R := w.heap.size) (Nat.le_refl _) (unhide HB) (metQ_but (w5 := w2) (v := ⟨x1, x2⟩) (G := w.heap.size)) oo aa m1 m2

set_option maxHeartbeats 4000000 in
theorem wholeS (n : Int) (w : World) (h0 : -9223372036854775808 ≤ n) (h1 : n ≤ 9223372036854775807) : Calls Try.prog 50 #[.int .i64 n] w (OutQ w n 1) := by
  have B0 := hide (show Below w.heap.size w (w.alloc (.cells #[.bool false, .slice none 0 0, .bool false, .slice none 0 0] 50)) from ((Below.refl _ _).alloc (by simp) _))
  go_enter Try.func50, Try.ntmps50
  go_wp2_with fail
  refine (ofS_v n _ h0 h1).mono ?_
  rintro e w1 ⟨x1, l1, rfl, hb, o1, a1, n1⟩
  have s1 : w.heap.size + 1 ≤ w1.heap.size := by have := hb.size; simp at this; omega
  replace o1 := o1.wide (lo' := w.heap.size + 1) (by simp) (Nat.le_refl _)
  have k0_0 : w1.cell? ⟨w.heap.size, 0, none⟩ = some (.bool false) := cell_later hb (by simp [go_sem])
  have k0_1 : w1.cell? ⟨w.heap.size, 1, none⟩ = some (.slice none 0 0) := cell_later hb (by simp [go_sem])
  have k0_2 : w1.cell? ⟨w.heap.size, 2, none⟩ = some (.bool false) := cell_later hb (by simp [go_sem])
  have k0_3 : w1.cell? ⟨w.heap.size, 3, none⟩ = some (.slice none 0 0) := cell_later hb (by simp [go_sem])
  have z0 : ∀ o, w1.frozen? ⟨w.heap.size, o, none⟩ = false := fun o => frozen_later hb (by simp) (by simp [go_sem])
  have P1 := hide (outN_ow o1 a1 n1)
  have HB := hide (below_on (unhide B0) hb)
  clear hb
  clear o1 a1 n1
  go_wp2_with fail
  refine (ofS_v 1 _ (by omega) (by omega)).mono ?_
  rintro e w2 ⟨x2, l2, rfl, hb, o2, a2, n2⟩
  have s2 := hb.size
  replace z0 := fun o => frozen_later hb (World.block_lt_of_cell? _ _ k0_0) (z0 o)
  replace k0_0 := cell_later hb k0_0
  replace k0_1 := cell_later hb k0_1
  replace k0_2 := cell_later hb k0_2
  replace k0_3 := cell_later hb k0_3
  replace P1 := hide ((unhide P1).later hb)
  have P2 := hide (outN_ow o2 a2 n2)
  replace HB := hide (below_on (unhide HB) hb)
  clear hb
  clear o2 a2 n2
  go_wp2
  refine bodyPost_ret (v := .agg #[.bool x1.g, .slice x1.a x1.n x1.c, .bool x2.g, .slice x2.a x2.n x2.c]) (by simp [results, Try.results50, go_sem, k0_0, k0_1, k0_2, k0_3]) rfl ?_
  obtain ⟨zs, us, oo, aa, m1, m2⟩ := (unhide P1).two (unhide P2) s1 s2
  exact outQ_fin (q := ⟨x1, x2⟩) (R := w.heap.size) (Nat.le_refl _) (unhide HB) (metQ_but (w5 := w2) (v := ⟨x1, x2⟩) (G := w.heap.size)) oo aa m1 m2

/-- Whether a span has 0 within, as the program asks. -/
def hN (d : SD) : Bool := (d.lo.num.g || decide (d.lo.num.xs.length = 0)) && !d.hi.num.g
end Go.Proofs.Ythmpikagenodjaa
namespace Go.Proofs.Ythmpikagenodjaa
open Go.RowKit
set_option linter.unusedVariables false
set_option maxRecDepth 100000
set_option linter.unusedSimpArgs false


end Go.Proofs.Ythmpikagenodjaa
namespace Go.Proofs.Ythmpikagenodjaa
open Go.RowKit
set_option linter.unusedVariables false
set_option maxRecDepth 100000
set_option linter.unusedSimpArgs false

/-- A rational number's numerator and denominator. -/
def nR (x : Rat) : Int := x.num
def dR (x : Rat) : Int := (x.den : Int)
theorem dR_pos (x : Rat) : 0 < dR x := by have := x.den_nz; show (0 : Int) < (x.den : Int); omega
theorem dR_ne (x : Rat) : dR x ≠ 0 := Int.ne_of_gt (dR_pos x)
theorem nR_low (x : Rat) : Low (nR x) (dR x) := ⟨dR_pos x, by show Nat.gcd x.num.natAbs ((x.den : Int)).natAbs = 1; rw [Int.natAbs_natCast]; exact x.reduced⟩
theorem nR_self (x : Rat) : Rat.divInt (nR x) (dR x) = x := Rat.num_divInt_den x
theorem low_x2 {N D : Int} (h : D ≠ 0) : lowN N D * D = N * lowD N D := by
  rcases Int.lt_or_gt_of_ne h with h0 | h0
  · have e1 := low_neg (N := N) h0
    have e2 := low_cross (N := -N) (D := -D) (by omega)
    have e3 : lowN (-N) (-D) = lowN N D ∧ lowD (-N) (-D) = lowD N D := by
      have l1 := low_low (N := N) h
      have l2 := low_low (N := -N) (D := -D) (by omega)
      have u1 : lowU (-N) (-D) = lowU N D := by unfold lowU; simp
      constructor
      · have a1 := low_pos (N := -N) (D := -D) (by omega)
        have a2 := low_neg (N := N) h0
        rw [← a1.1, ← a2.1, u1]
        unfold sU
        by_cases c : N < 0
        · rw [decide_eq_true c, decide_eq_false (show ¬ (-N < 0) by omega)]; simp
        · by_cases c0 : N = 0
          · subst c0
            have : lowU 0 D = 0 := by unfold lowU; simp
            rw [this]
            simp
          · rw [decide_eq_false c, decide_eq_true (show -N < 0 by omega)]; simp
      · have a1 := low_pos (N := -N) (D := -D) (by omega)
        have a2 := low_neg (N := N) h0
        have v1 : lowD (-N) (-D) = lowD N D := by unfold lowD; simp
        exact v1
    rw [e3.1, e3.2] at e2
    generalize lowN N D = a at *
    generalize lowD N D = b at *
    grind
  · exact low_cross h0
theorem lowR {N D : Int} (h : D ≠ 0) : lowN N D = nR (Rat.divInt N D) ∧ lowD N D = dR (Rat.divInt N D) := by
  have h1 := nR_self (Rat.divInt N D)
  have h2 := (Rat.divInt_eq_divInt_iff (dR_ne _) h).1 h1
  have h3 := low_x2 (N := N) h
  exact (low_low (N := N) h).same (nR_low (Rat.divInt N D)) (by
    generalize nR (Rat.divInt N D) = a at *
    generalize dR (Rat.divInt N D) = b at *
    refine Int.eq_of_mul_eq_mul_right h ?_
    grind)
theorem addR (x y : Rat) : lowN (nR x * dR y + nR y * dR x) (dR x * dR y) = nR (x + y) ∧ lowD (nR x * dR y + nR y * dR x) (dR x * dR y) = dR (x + y) := by
  have h := lowR (N := nR x * dR y + nR y * dR x) (Int.mul_ne_zero (dR_ne x) (dR_ne y))
  rw [← Rat.divInt_add_divInt _ _ (dR_ne x) (dR_ne y), nR_self, nR_self] at h
  exact h
theorem mulR (x y : Rat) : lowN (nR x * nR y) (dR x * dR y) = nR (x * y) ∧ lowD (nR x * nR y) (dR x * dR y) = dR (x * y) := by
  have h := lowR (N := nR x * nR y) (Int.mul_ne_zero (dR_ne x) (dR_ne y))
  rw [← Rat.divInt_mul_divInt, nR_self, nR_self] at h
  exact h
theorem intR (n : Int) : nR (n : Rat) = n ∧ dR (n : Rat) = 1 := ⟨rfl, rfl⟩
/-- A rational number of few limbs. -/
structure BdR (x : Rat) (L : Nat) : Prop where
  n : Bd (nR x) L
  d : Bd (dR x) L
theorem BdR.mono {x : Rat} {L L' : Nat} (h : BdR x L) (k : L ≤ L') : BdR x L' := ⟨h.n.mono k, h.d.mono k⟩
theorem BdR.add {x y : Rat} {L K : Nat} (h : BdR x L) (k : BdR y K) : BdR (x + y) (L + K + 1) := by
  have e := addR x y
  constructor
  · rw [← e.1]
    exact lowN_bd ((((h.n.mul k.d).mono (Nat.le_refl _)).add ((k.n.mul h.d).mono (by omega))))
  · rw [← e.2]
    exact lowD_bd ((h.d.mul k.d).mono (by omega))
theorem BdR.mul {x y : Rat} {L K : Nat} (h : BdR x L) (k : BdR y K) : BdR (x * y) (L + K) := by
  have e := mulR x y
  constructor
  · rw [← e.1]
    exact lowN_bd (h.n.mul k.n)
  · rw [← e.2]
    exact lowD_bd (h.d.mul k.d)
theorem bdR_int {n : Int} (h0 : -1000 ≤ n) (h1 : n ≤ 1000) : BdR (n : Rat) 1 := ⟨⟨by rw [(intR n).1]; omega⟩, ⟨by rw [(intR n).2]; decide⟩⟩
/-- What is read is this rational number. -/
def IsR (w : World) (q : QV) (x : Rat) : Prop := IsQ w q (nR x) (dR x)
theorem IsR.later {w w' : World} {q : QV} {x : Rat} (h : IsR w q x) (hb : Below w.heap.size w w') : IsR w' q x := IsQ.later h hb
def OuR (w : World) (x : Rat) (e : Ending) (w' : World) : Prop := OutQ w (nR x) (dR x) e w'
theorem wholeRI (n : Int) (w : World) (h0 : -9223372036854775808 ≤ n) (h1 : n ≤ 9223372036854775807) : Calls Try.prog 38 #[.int .i64 n] w (OuR w (n : Rat)) := wholeI n w h0 h1
theorem wholeRS (n : Int) (w : World) (h0 : -9223372036854775808 ≤ n) (h1 : n ≤ 9223372036854775807) : Calls Try.prog 50 #[.int .i64 n] w (OuR w (n : Rat)) := wholeS n w h0 h1
theorem isR_of {w : World} {q : QV} {x : Rat} {xs us : List Int} (h : AllAr w [(q.num, ⟨decide (nR x < 0), xs⟩), (q.den, ⟨decide (dR x < 0), us⟩)]) (h1 : Nm xs (nR x).natAbs) (h2 : Nm us (dR x).natAbs) : IsR w q x := isQ_of h h1 h2
/-- A point of fractions by value. -/
structure IsPt (w : World) (v : SV) (p : Rat × Rat) : Prop where
  x : IsR w v.lo p.1
  y : IsR w v.hi p.2
theorem IsPt.later {w w' : World} {v : SV} {p : Rat × Rat} (h : IsPt w v p) (hb : Below w.heap.size w w') : IsPt w' v p := ⟨h.x.later hb, h.y.later hb⟩
structure BdP (p : Rat × Rat) (L : Nat) : Prop where
  x : BdR p.1 L
  y : BdR p.2 L
theorem BdP.mono {p : Rat × Rat} {L L' : Nat} (h : BdP p L) (k : L ≤ L') : BdP p L' := ⟨h.x.mono k, h.y.mono k⟩
def OutPt (w : World) (p : Rat × Rat) (e : Ending) (w' : World) : Prop := OutS w (nR p.1) (dR p.1) (nR p.2) (dR p.2) e w'
end Go.Proofs.Ythmpikagenodjaa
namespace Go.Proofs.Ythmpikagenodjaa
open Go.RowKit
set_option linter.unusedVariables false
set_option maxRecDepth 100000
set_option linter.unusedSimpArgs false

/-- q is the rational number x, in memory at blocks from lo to below hi, numerator and denominator apart. -/
def OwR (lo hi : Nat) (w : World) (q : QV) (x : Rat) : Prop := ∃ xs us, AllOwn lo hi w [(q.num, ⟨decide (nR x < 0), xs⟩), (q.den, ⟨decide (dR x < 0), us⟩)] ∧ AllAr w [(q.num, ⟨decide (nR x < 0), xs⟩), (q.den, ⟨decide (dR x < 0), us⟩)] ∧ Nm xs (nR x).natAbs ∧ Nm us (dR x).natAbs
theorem OwR.later {lo hi : Nat} {w w' : World} {q : QV} {x : Rat} (h : OwR lo hi w q x) (hb : Below w.heap.size w w') : OwR lo hi w' q x := by
  obtain ⟨xs, us, h1, h2, h3, h4⟩ := h
  exact ⟨xs, us, h1.later hb, h2.later hb, h3, h4⟩
theorem OwR.is {lo hi : Nat} {w : World} {q : QV} {x : Rat} (h : OwR lo hi w q x) : IsR w q x := by
  obtain ⟨xs, us, h1, h2, h3, h4⟩ := h
  exact isR_of h2 h3 h4
theorem OwR.wide {lo hi lo' hi' : Nat} {w : World} {q : QV} {x : Rat} (h : OwR lo hi w q x) (h1 : lo' ≤ lo) (h2 : hi ≤ hi') : OwR lo' hi' w q x := by
  obtain ⟨xs, us, k1, k2, k3, k4⟩ := h
  exact ⟨xs, us, k1.wide h1 h2, k2, k3, k4⟩
theorem owR_of {lo hi : Nat} {w : World} {q : QV} {x : Rat} {xs us : List Int} (ho : AllOwn lo hi w [(q.num, ⟨decide (nR x < 0), xs⟩), (q.den, ⟨decide (dR x < 0), us⟩)]) (ha : AllAr w [(q.num, ⟨decide (nR x < 0), xs⟩), (q.den, ⟨decide (dR x < 0), us⟩)]) (h1 : Nm xs (nR x).natAbs) (h2 : Nm us (dR x).natAbs) : OwR lo hi w q x := ⟨xs, us, ho, ha, h1, h2⟩
/-- .. where numerator and denominator may share memory. -/
structure OwV (lo hi : Nat) (w : World) (q : QV) (x : Rat) : Prop where
  n : Ow lo hi w q.num (nR x)
  d : Ow lo hi w q.den (dR x)
theorem OwV.later {lo hi : Nat} {w w' : World} {q : QV} {x : Rat} (h : OwV lo hi w q x) (hb : Below w.heap.size w w') : OwV lo hi w' q x := ⟨h.n.later hb, h.d.later hb⟩
theorem OwV.is {lo hi : Nat} {w : World} {q : QV} {x : Rat} (h : OwV lo hi w q x) : IsR w q x := ⟨h.n.is, h.d.is⟩
theorem OwV.wide {lo hi lo' hi' : Nat} {w : World} {q : QV} {x : Rat} (h : OwV lo hi w q x) (h1 : lo' ≤ lo) (h2 : hi ≤ hi') : OwV lo' hi' w q x := ⟨h.n.wide h1 h2, h.d.wide h1 h2⟩
theorem OwV.but {lo hi lo' hi' : Nat} {w w' : World} {q : QV} {x : Rat} (h : OwV lo hi w q x) (bt : But lo' hi' w w') (hd : hi ≤ lo' ∨ hi' ≤ lo) : OwV lo hi w' q x := ⟨h.n.but bt hd, h.d.but bt hd⟩
theorem OwR.v {lo hi : Nat} {w : World} {q : QV} {x : Rat} (h : OwR lo hi w q x) : OwV lo hi w q x := by
  obtain ⟨xs, us, ho, ha, h1, h2⟩ := h
  exact ⟨⟨xs, ⟨fun p hp => ho.own p (by simp at hp ⊢; exact .inl hp), List.pairwise_singleton _ _⟩, fun p hp => ha p (by simp at hp ⊢; exact .inl hp), h1⟩, ⟨us, ⟨fun p hp => ho.own p (by simp at hp ⊢; exact .inr hp), List.pairwise_singleton _ _⟩, fun p hp => ha p (by simp at hp ⊢; exact .inr hp), h2⟩⟩
theorem outPt_fin {w wN W : World} {R lo mid hi : Nat} {v : SV} {x y : Rat} (hR : w.heap.size ≤ R) (hb : Below w.heap.size w wN) (bt : But R (R + 1) wN W) (h : OwR lo mid wN v.lo x) (k : OwR mid hi wN v.hi y) (h1 : R + 1 ≤ lo) (h2 : lo ≤ mid) (h3 : mid ≤ hi) (h4 : hi ≤ wN.heap.size) :
    OutPt w (x, y) (.returned (.agg #[.bool v.lo.num.g, .slice v.lo.num.a v.lo.num.n v.lo.num.c, .bool v.lo.den.g, .slice v.lo.den.a v.lo.den.n v.lo.den.c, .bool v.hi.num.g, .slice v.hi.num.a v.hi.num.n v.hi.num.c, .bool v.hi.den.g, .slice v.hi.den.a v.hi.den.n v.hi.den.c])) W := by
  obtain ⟨xs, us, a1, a2, a3, a4⟩ := h
  obtain ⟨ys, vs, b1, b2, b3, b4⟩ := k
  exact outS_fin hR hb bt ((a1.join b1 h2 h3).wide h1 h4) (a2.append b2) a3 a4 b3 b4
end Go.Proofs.Ythmpikagenodjaa
namespace Go.Proofs.Ythmpikagenodjaa
open Go.RowKit
set_option linter.unusedVariables false
set_option maxRecDepth 100000
set_option linter.unusedSimpArgs false


end Go.Proofs.Ythmpikagenodjaa
namespace Go.Proofs.Ythmpikagenodjaa
open Go.RowKit
set_option linter.unusedVariables false
set_option maxRecDepth 100000
set_option linter.unusedSimpArgs false

def many (n : Nat) : Bool := decide (1 ≤ n) && decide (n ≤ 5)
theorem manyI (n : Nat) (w : World) (hm : n ≤ maxLen) : Calls Try.prog 36 #[.int .i64 (n : Int)] w fun e w' => e = .returned (.bool (many n)) ∧ w' = w := by
  unfold maxLen at hm
  unfold many
  by_cases c1 : 1 ≤ n
  · have b1 : (1 : Int) ≤ (n : Int) := by omega
    by_cases c2 : n ≤ 5
    · have b2 : (n : Int) ≤ 5 := by omega
      rw [decide_eq_true c1, decide_eq_true c2]
      go_enter Try.func36, Try.ntmps36
      go_wp2
      go_ret
      exact ⟨rfl, rfl⟩
    · have b2 : ¬ ((n : Int) ≤ 5) := by omega
      have b3 : (5 : Int) < (n : Int) := by omega
      rw [decide_eq_true c1, decide_eq_false c2]
      go_enter Try.func36, Try.ntmps36
      go_wp2
      go_ret
      exact ⟨rfl, rfl⟩
  · have b1 : ¬ ((1 : Int) ≤ (n : Int)) := by omega
    have b3 : (n : Int) < 1 := by omega
    rw [decide_eq_false c1]
    go_enter Try.func36, Try.ntmps36
    go_wp2
    go_ret
    exact ⟨rfl, rfl⟩

end Go.Proofs.Ythmpikagenodjaa
namespace Go.Proofs.Ythmpikagenodjaa
open Go.RowKit
set_option linter.unusedVariables false
set_option maxRecDepth 100000
set_option linter.unusedSimpArgs false

end Go.Proofs.Ythmpikagenodjaa
namespace Go.Proofs.Ythmpikagenodjaa
open Go.RowKit
set_option linter.unusedVariables false
set_option maxRecDepth 100000
set_option linter.unusedSimpArgs false

end Go.Proofs.Ythmpikagenodjaa
