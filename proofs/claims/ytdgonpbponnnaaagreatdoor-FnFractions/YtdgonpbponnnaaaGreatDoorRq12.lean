/- Fractions of the program and of the specification as Lean's rational numbers: sums, differences, products, whole ones. No condition beyond those typed. -/
import Derived.Test.YtdgonpbponnnaaaGreatDoorWhole
import Derived.Test.YtdgonpbponnnaaaGreatDoorMake3
namespace Go.Proofs.YtdgonpbponnnaaaGreatDoor
open Go.RowKit
set_option linter.unusedVariables false
set_option maxRecDepth 100000
set_option linter.unusedSimpArgs false

/-- A rational number's numerator and denominator. -/
def nR (x : Rat) : Int := x.num
def dR (x : Rat) : Int := (x.den : Int)
theorem dR_pos (x : Rat) : 0 < dR x := by have := x.den_nz; show (0 : Int) < (x.den : Int); omega
theorem dR_ne (x : Rat) : dR x ≠ 0 := Int.ne_of_gt (dR_pos x)
theorem nR_low (x : Rat) : Low (nR x) (dR x) := ⟨dR_pos x, by show Nat.gcd x.num.natAbs ((x.den : Int)).natAbs = 1; rw [Int.natAbs_natCast]; exact x.reduced⟩
theorem nR_self (x : Rat) : Rat.divInt (nR x) (dR x) = x := Rat.num_divInt_den x
theorem low_x2 {N D : Int} (h : D ≠ 0) : lowN N D * D = N * lowD N D := by
  rcases Int.lt_or_gt_of_ne h with h0 | h0
  · have e1 := low_neg (N := N) h0
    have e2 := low_cross (N := -N) (D := -D) (by omega)
    have e3 : lowN (-N) (-D) = lowN N D ∧ lowD (-N) (-D) = lowD N D := by
      have l1 := low_low (N := N) h
      have l2 := low_low (N := -N) (D := -D) (by omega)
      have u1 : lowU (-N) (-D) = lowU N D := by unfold lowU; simp
      constructor
      · have a1 := low_pos (N := -N) (D := -D) (by omega)
        have a2 := low_neg (N := N) h0
        rw [← a1.1, ← a2.1, u1]
        unfold sU
        by_cases c : N < 0
        · rw [decide_eq_true c, decide_eq_false (show ¬ (-N < 0) by omega)]; simp
        · by_cases c0 : N = 0
          · subst c0
            have : lowU 0 D = 0 := by unfold lowU; simp
            rw [this]
            simp
          · rw [decide_eq_false c, decide_eq_true (show -N < 0 by omega)]; simp
      · have a1 := low_pos (N := -N) (D := -D) (by omega)
        have a2 := low_neg (N := N) h0
        have v1 : lowD (-N) (-D) = lowD N D := by unfold lowD; simp
        exact v1
    rw [e3.1, e3.2] at e2
    generalize lowN N D = a at *
    generalize lowD N D = b at *
    grind
  · exact low_cross h0
theorem lowR {N D : Int} (h : D ≠ 0) : lowN N D = nR (Rat.divInt N D) ∧ lowD N D = dR (Rat.divInt N D) := by
  have h1 := nR_self (Rat.divInt N D)
  have h2 := (Rat.divInt_eq_divInt_iff (dR_ne _) h).1 h1
  have h3 := low_x2 (N := N) h
  exact (low_low (N := N) h).same (nR_low (Rat.divInt N D)) (by
    generalize nR (Rat.divInt N D) = a at *
    generalize dR (Rat.divInt N D) = b at *
    refine Int.eq_of_mul_eq_mul_right h ?_
    grind)
theorem lowR_is {N D : Int} (h : Low N D) : N = nR (Rat.divInt N D) ∧ D = dR (Rat.divInt N D) := by
  have h1 := lowR (N := N) (Int.ne_of_gt h.pos)
  have h2 := (low_low (N := N) (Int.ne_of_gt h.pos)).same h (low_cross h.pos)
  rw [← h1.1, ← h1.2, h2.1, h2.2]
  exact ⟨rfl, rfl⟩
theorem addR (x y : Rat) : lowN (nR x * dR y + nR y * dR x) (dR x * dR y) = nR (x + y) ∧ lowD (nR x * dR y + nR y * dR x) (dR x * dR y) = dR (x + y) := by
  have h := lowR (N := nR x * dR y + nR y * dR x) (Int.mul_ne_zero (dR_ne x) (dR_ne y))
  rw [← Rat.divInt_add_divInt _ _ (dR_ne x) (dR_ne y), nR_self, nR_self] at h
  exact h
theorem subR (x y : Rat) : lowN (nR x * dR y - nR y * dR x) (dR x * dR y) = nR (x - y) ∧ lowD (nR x * dR y - nR y * dR x) (dR x * dR y) = dR (x - y) := by
  have h := lowR (N := nR x * dR y - nR y * dR x) (Int.mul_ne_zero (dR_ne x) (dR_ne y))
  rw [← Rat.divInt_sub_divInt _ _ (dR_ne x) (dR_ne y), nR_self, nR_self] at h
  exact h
theorem mulR (x y : Rat) : lowN (nR x * nR y) (dR x * dR y) = nR (x * y) ∧ lowD (nR x * nR y) (dR x * dR y) = dR (x * y) := by
  have h := lowR (N := nR x * nR y) (Int.mul_ne_zero (dR_ne x) (dR_ne y))
  rw [← Rat.divInt_mul_divInt, nR_self, nR_self] at h
  exact h
theorem intR (n : Int) : nR (n : Rat) = n ∧ dR (n : Rat) = 1 := ⟨rfl, rfl⟩
/-- A rational number of few limbs. -/
structure BdR (x : Rat) (L : Nat) : Prop where
  n : Bd (nR x) L
  d : Bd (dR x) L
theorem BdR.mono {x : Rat} {L L' : Nat} (h : BdR x L) (k : L ≤ L') : BdR x L' := ⟨h.n.mono k, h.d.mono k⟩
theorem BdR.add {x y : Rat} {L K : Nat} (h : BdR x L) (k : BdR y K) : BdR (x + y) (L + K + 1) := by
  have e := addR x y
  constructor
  · rw [← e.1]
    exact lowN_bd ((((h.n.mul k.d).mono (Nat.le_refl _)).add ((k.n.mul h.d).mono (by omega))))
  · rw [← e.2]
    exact lowD_bd ((h.d.mul k.d).mono (by omega))
theorem BdR.sub {x y : Rat} {L K : Nat} (h : BdR x L) (k : BdR y K) : BdR (x - y) (L + K + 1) := by
  have e := subR x y
  constructor
  · rw [← e.1]
    refine lowN_bd ?_
    rw [Int.sub_eq_add_neg]
    exact ((h.n.mul k.d).mono (Nat.le_refl _)).add (((k.n.mul h.d).neg).mono (by omega))
  · rw [← e.2]
    exact lowD_bd ((h.d.mul k.d).mono (by omega))
theorem BdR.mul {x y : Rat} {L K : Nat} (h : BdR x L) (k : BdR y K) : BdR (x * y) (L + K) := by
  have e := mulR x y
  constructor
  · rw [← e.1]
    exact lowN_bd (h.n.mul k.n)
  · rw [← e.2]
    exact lowD_bd (h.d.mul k.d)
theorem bdR_int {n : Int} (h0 : -1000 ≤ n) (h1 : n ≤ 1000) : BdR (n : Rat) 1 := ⟨⟨by rw [(intR n).1]; omega⟩, ⟨by rw [(intR n).2]; decide⟩⟩
theorem bdR_div {a b : Int} (h0 : -1000 ≤ a) (h1 : a ≤ 1000) (h2 : b ≠ 0) (h3 : -1000 ≤ b) (h4 : b ≤ 1000) : BdR (Rat.divInt a b) 1 := by
  have e := lowR (N := a) h2
  constructor
  · rw [← e.1]; exact lowN_bd ⟨by omega⟩
  · rw [← e.2]; exact lowD_bd ⟨by omega⟩
/-- What is read is this rational number. -/
def IsR (w : World) (q : QV) (x : Rat) : Prop := IsQ w q (nR x) (dR x)
theorem IsR.later {w w' : World} {q : QV} {x : Rat} (h : IsR w q x) (hb : Below w.heap.size w w') : IsR w' q x := IsQ.later h hb
def OuR (w : World) (x : Rat) (e : Ending) (w' : World) : Prop := OutQ w (nR x) (dR x) e w'
def OuRv (w : World) (x : Rat) (e : Ending) (w' : World) : Prop := OutQv w (nR x) (dR x) e w'
theorem mulRI (q q' : QV) (x y : Rat) (w : World) (h : IsR w q x) (h' : IsR w q' y) (k : BdR x 50000) (k' : BdR y 50000) :
    Calls Tryz.prog 33 #[.agg #[.bool q.num.g, .slice q.num.a q.num.n q.num.c, .bool q.den.g, .slice q.den.a q.den.n q.den.c], .agg #[.bool q'.num.g, .slice q'.num.a q'.num.n q'.num.c, .bool q'.den.g, .slice q'.den.a q'.den.n q'.den.c]] w (OuR w (x * y)) := by
  have := mulQI q q' _ _ _ _ w h h' (Int.mul_ne_zero (dR_ne x) (dR_ne y)) (k.n.mono (by omega)) (k.d.mono (by omega)) (k'.n.mono (by omega)) (k'.d.mono (by omega))
  rw [(mulR x y).1, (mulR x y).2] at this
  exact this
theorem addRI (q q' : QV) (x y : Rat) (w : World) (h : IsR w q x) (h' : IsR w q' y) (k : BdR x 50000) (k' : BdR y 50000) :
    Calls Tryz.prog 26 #[.agg #[.bool q.num.g, .slice q.num.a q.num.n q.num.c, .bool q.den.g, .slice q.den.a q.den.n q.den.c], .agg #[.bool q'.num.g, .slice q'.num.a q'.num.n q'.num.c, .bool q'.den.g, .slice q'.den.a q'.den.n q'.den.c]] w (OuR w (x + y)) := by
  have := addQI q q' _ _ _ _ w h h' (Int.mul_ne_zero (dR_ne x) (dR_ne y)) (k.n.mono (by omega)) (k.d.mono (by omega)) (k'.n.mono (by omega)) (k'.d.mono (by omega))
  rw [(addR x y).1, (addR x y).2] at this
  exact this
theorem subRI (q q' : QV) (x y : Rat) (w : World) (h : IsR w q x) (h' : IsR w q' y) (k : BdR x 50000) (k' : BdR y 50000) :
    Calls Tryz.prog 31 #[.agg #[.bool q.num.g, .slice q.num.a q.num.n q.num.c, .bool q.den.g, .slice q.den.a q.den.n q.den.c], .agg #[.bool q'.num.g, .slice q'.num.a q'.num.n q'.num.c, .bool q'.den.g, .slice q'.den.a q'.den.n q'.den.c]] w (OuR w (x - y)) := by
  have := subQI q q' _ _ _ _ w h h' (Int.mul_ne_zero (dR_ne x) (dR_ne y)) (k.n.mono (by omega)) (k.d.mono (by omega)) (k'.n.mono (by omega)) (k'.d.mono (by omega))
  rw [(subR x y).1, (subR x y).2] at this
  exact this
theorem mulRS (q q' : QV) (x y : Rat) (w : World) (h : IsR w q x) (h' : IsR w q' y) (k : BdR x 50000) (k' : BdR y 50000) :
    Calls Tryz.prog 34 #[.agg #[.bool q.num.g, .slice q.num.a q.num.n q.num.c, .bool q.den.g, .slice q.den.a q.den.n q.den.c], .agg #[.bool q'.num.g, .slice q'.num.a q'.num.n q'.num.c, .bool q'.den.g, .slice q'.den.a q'.den.n q'.den.c]] w (OuRv w (x * y)) := by
  have := mulQS q q' _ _ _ _ w h h' (Int.mul_ne_zero (dR_ne x) (dR_ne y)) (k.n.mono (by omega)) (k.d.mono (by omega)) (k'.n.mono (by omega)) (k'.d.mono (by omega))
  rw [(mulR x y).1, (mulR x y).2] at this
  exact this
theorem addRS (q q' : QV) (x y : Rat) (w : World) (h : IsR w q x) (h' : IsR w q' y) (k : BdR x 50000) (k' : BdR y 50000) :
    Calls Tryz.prog 30 #[.agg #[.bool q.num.g, .slice q.num.a q.num.n q.num.c, .bool q.den.g, .slice q.den.a q.den.n q.den.c], .agg #[.bool q'.num.g, .slice q'.num.a q'.num.n q'.num.c, .bool q'.den.g, .slice q'.den.a q'.den.n q'.den.c]] w (OuRv w (x + y)) := by
  have := addQS q q' _ _ _ _ w h h' (Int.mul_ne_zero (dR_ne x) (dR_ne y)) (k.n.mono (by omega)) (k.d.mono (by omega)) (k'.n.mono (by omega)) (k'.d.mono (by omega))
  rw [(addR x y).1, (addR x y).2] at this
  exact this
theorem subRS (q q' : QV) (x y : Rat) (w : World) (h : IsR w q x) (h' : IsR w q' y) (k : BdR x 50000) (k' : BdR y 50000) :
    Calls Tryz.prog 32 #[.agg #[.bool q.num.g, .slice q.num.a q.num.n q.num.c, .bool q.den.g, .slice q.den.a q.den.n q.den.c], .agg #[.bool q'.num.g, .slice q'.num.a q'.num.n q'.num.c, .bool q'.den.g, .slice q'.den.a q'.den.n q'.den.c]] w (OuRv w (x - y)) := by
  have := subQS q q' _ _ _ _ w h h' (Int.mul_ne_zero (dR_ne x) (dR_ne y)) (k.n.mono (by omega)) (k.d.mono (by omega)) (k'.n.mono (by omega)) (k'.d.mono (by omega))
  rw [(subR x y).1, (subR x y).2] at this
  exact this
theorem isR_of {w : World} {q : QV} {x : Rat} {xs us : List Int} (h : AllAr w [(q.num, ⟨decide (nR x < 0), xs⟩), (q.den, ⟨decide (dR x < 0), us⟩)]) (h1 : Nm xs (nR x).natAbs) (h2 : Nm us (dR x).natAbs) : IsR w q x := isQ_of h h1 h2
/-- A point of fractions by value. -/
structure IsPt (w : World) (v : SV) (p : Rat × Rat) : Prop where
  x : IsR w v.lo p.1
  y : IsR w v.hi p.2
theorem IsPt.later {w w' : World} {v : SV} {p : Rat × Rat} (h : IsPt w v p) (hb : Below w.heap.size w w') : IsPt w' v p := ⟨h.x.later hb, h.y.later hb⟩
structure BdP (p : Rat × Rat) (L : Nat) : Prop where
  x : BdR p.1 L
  y : BdR p.2 L
theorem BdP.mono {p : Rat × Rat} {L L' : Nat} (h : BdP p L) (k : L ≤ L') : BdP p L' := ⟨h.x.mono k, h.y.mono k⟩
def OutPt (w : World) (p : Rat × Rat) (e : Ending) (w' : World) : Prop := OutS w (nR p.1) (dR p.1) (nR p.2) (dR p.2) e w'
/-- A good fraction's value. -/
def vQ (d : QD) : Rat := Rat.divInt (nQ d) (dQ d)
theorem vQ_good {w : World} {q : QV} {d : QD} (j : IsGood w q d) : nQ d = nR (vQ d) ∧ dQ d = dR (vQ d) := lowR_is ⟨j.pos, j.low⟩
theorem isR_good {w : World} {q : QV} {d : QD} (j : IsGood w q d) : IsR w q (vQ d) := by
  have h := vQ_good j
  have := j.is
  rw [h.1, h.2] at this
  exact this
end Go.Proofs.YtdgonpbponnnaaaGreatDoor
