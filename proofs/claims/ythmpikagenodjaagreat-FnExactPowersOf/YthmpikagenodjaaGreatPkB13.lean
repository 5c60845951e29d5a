/- What fits of a span, and two good spans: the parts of SpanA that other laws want, too. No condition beyond those typed. Written by mkspana.py. -/
import Derived.Test.YthmpikagenodjaaGreatPkA13
import Derived.Test.YthmpikagenodjaaGreatPkH13
namespace Go.Proofs.YthmpikagenodjaaGreat
open Go.RowKit
set_option linter.unusedVariables false
set_option maxRecDepth 100000
set_option linter.unusedSimpArgs false

/-- A rational number's numerator and denominator. -/
def nR (x : Rat) : Int := x.num
def dR (x : Rat) : Int := (x.den : Int)
theorem dR_pos (x : Rat) : 0 < dR x := by have := x.den_nz; show (0 : Int) < (x.den : Int); omega
theorem dR_ne (x : Rat) : dR x ≠ 0 := Int.ne_of_gt (dR_pos x)
theorem nR_low (x : Rat) : Low (nR x) (dR x) := ⟨dR_pos x, by show Nat.gcd x.num.natAbs ((x.den : Int)).natAbs = 1; rw [Int.natAbs_natCast]; exact x.reduced⟩
theorem nR_self (x : Rat) : Rat.divInt (nR x) (dR x) = x := Rat.num_divInt_den x
theorem low_x2 {N D : Int} (h : D ≠ 0) : lowN N D * D = N * lowD N D := by
  rcases Int.lt_or_gt_of_ne h with h0 | h0
  · have e1 := low_neg (N := N) h0
    have e2 := low_cross (N := -N) (D := -D) (by omega)
    have e3 : lowN (-N) (-D) = lowN N D ∧ lowD (-N) (-D) = lowD N D := by
      have l1 := low_low (N := N) h
      have l2 := low_low (N := -N) (D := -D) (by omega)
      have u1 : lowU (-N) (-D) = lowU N D := by unfold lowU; simp
      constructor
      · have a1 := low_pos (N := -N) (D := -D) (by omega)
        have a2 := low_neg (N := N) h0
        rw [← a1.1, ← a2.1, u1]
        unfold sU
        by_cases c : N < 0
        · rw [decide_eq_true c, decide_eq_false (show ¬ (-N < 0) by omega)]; simp
        · by_cases c0 : N = 0
          · subst c0
            have : lowU 0 D = 0 := by unfold lowU; simp
            rw [this]
            simp
          · rw [decide_eq_false c, decide_eq_true (show -N < 0 by omega)]; simp
      · have a1 := low_pos (N := -N) (D := -D) (by omega)
        have a2 := low_neg (N := N) h0
        have v1 : lowD (-N) (-D) = lowD N D := by unfold lowD; simp
        exact v1
    rw [e3.1, e3.2] at e2
    generalize lowN N D = a at *
    generalize lowD N D = b at *
    grind
  · exact low_cross h0
theorem lowR {N D : Int} (h : D ≠ 0) : lowN N D = nR (Rat.divInt N D) ∧ lowD N D = dR (Rat.divInt N D) := by
  have h1 := nR_self (Rat.divInt N D)
  have h2 := (Rat.divInt_eq_divInt_iff (dR_ne _) h).1 h1
  have h3 := low_x2 (N := N) h
  exact (low_low (N := N) h).same (nR_low (Rat.divInt N D)) (by
    generalize nR (Rat.divInt N D) = a at *
    generalize dR (Rat.divInt N D) = b at *
    refine Int.eq_of_mul_eq_mul_right h ?_
    grind)
theorem lowR_is {N D : Int} (h : Low N D) : N = nR (Rat.divInt N D) ∧ D = dR (Rat.divInt N D) := by
  have h1 := lowR (N := N) (Int.ne_of_gt h.pos)
  have h2 := (low_low (N := N) (Int.ne_of_gt h.pos)).same h (low_cross h.pos)
  rw [← h1.1, ← h1.2, h2.1, h2.2]
  exact ⟨rfl, rfl⟩
theorem addR (x y : Rat) : lowN (nR x * dR y + nR y * dR x) (dR x * dR y) = nR (x + y) ∧ lowD (nR x * dR y + nR y * dR x) (dR x * dR y) = dR (x + y) := by
  have h := lowR (N := nR x * dR y + nR y * dR x) (Int.mul_ne_zero (dR_ne x) (dR_ne y))
  rw [← Rat.divInt_add_divInt _ _ (dR_ne x) (dR_ne y), nR_self, nR_self] at h
  exact h
theorem subR (x y : Rat) : lowN (nR x * dR y - nR y * dR x) (dR x * dR y) = nR (x - y) ∧ lowD (nR x * dR y - nR y * dR x) (dR x * dR y) = dR (x - y) := by
  have h := lowR (N := nR x * dR y - nR y * dR x) (Int.mul_ne_zero (dR_ne x) (dR_ne y))
  rw [← Rat.divInt_sub_divInt _ _ (dR_ne x) (dR_ne y), nR_self, nR_self] at h
  exact h
theorem mulR (x y : Rat) : lowN (nR x * nR y) (dR x * dR y) = nR (x * y) ∧ lowD (nR x * nR y) (dR x * dR y) = dR (x * y) := by
  have h := lowR (N := nR x * nR y) (Int.mul_ne_zero (dR_ne x) (dR_ne y))
  rw [← Rat.divInt_mul_divInt, nR_self, nR_self] at h
  exact h
theorem intR (n : Int) : nR (n : Rat) = n ∧ dR (n : Rat) = 1 := ⟨rfl, rfl⟩
/-- A rational number of few limbs. -/
structure BdR (x : Rat) (L : Nat) : Prop where
  n : Bd (nR x) L
  d : Bd (dR x) L
theorem BdR.mono {x : Rat} {L L' : Nat} (h : BdR x L) (k : L ≤ L') : BdR x L' := ⟨h.n.mono k, h.d.mono k⟩
theorem BdR.add {x y : Rat} {L K : Nat} (h : BdR x L) (k : BdR y K) : BdR (x + y) (L + K + 1) := by
  have e := addR x y
  constructor
  · rw [← e.1]
    exact lowN_bd ((((h.n.mul k.d).mono (Nat.le_refl _)).add ((k.n.mul h.d).mono (by omega))))
  · rw [← e.2]
    exact lowD_bd ((h.d.mul k.d).mono (by omega))
theorem BdR.sub {x y : Rat} {L K : Nat} (h : BdR x L) (k : BdR y K) : BdR (x - y) (L + K + 1) := by
  have e := subR x y
  constructor
  · rw [← e.1]
    refine lowN_bd ?_
    rw [Int.sub_eq_add_neg]
    exact ((h.n.mul k.d).mono (Nat.le_refl _)).add (((k.n.mul h.d).neg).mono (by omega))
  · rw [← e.2]
    exact lowD_bd ((h.d.mul k.d).mono (by omega))
theorem BdR.mul {x y : Rat} {L K : Nat} (h : BdR x L) (k : BdR y K) : BdR (x * y) (L + K) := by
  have e := mulR x y
  constructor
  · rw [← e.1]
    exact lowN_bd (h.n.mul k.n)
  · rw [← e.2]
    exact lowD_bd (h.d.mul k.d)
theorem bdR_int {n : Int} (h0 : -1000 ≤ n) (h1 : n ≤ 1000) : BdR (n : Rat) 1 := ⟨⟨by rw [(intR n).1]; omega⟩, ⟨by rw [(intR n).2]; decide⟩⟩
/-- What is read is this rational number. -/
def IsR (w : World) (q : QV) (x : Rat) : Prop := IsQ w q (nR x) (dR x)
theorem IsR.later {w w' : World} {q : QV} {x : Rat} (h : IsR w q x) (hb : Below w.heap.size w w') : IsR w' q x := IsQ.later h hb
def OuR (w : World) (x : Rat) (e : Ending) (w' : World) : Prop := OutQ w (nR x) (dR x) e w'
def OuRv (w : World) (x : Rat) (e : Ending) (w' : World) : Prop := OutQv w (nR x) (dR x) e w'
theorem mulRI (q q' : QV) (x y : Rat) (w : World) (h : IsR w q x) (h' : IsR w q' y) (k : BdR x 50000) (k' : BdR y 50000) :
    Calls Tryz.prog 108 #[.agg #[.bool q.num.g, .slice q.num.a q.num.n q.num.c, .bool q.den.g, .slice q.den.a q.den.n q.den.c], .agg #[.bool q'.num.g, .slice q'.num.a q'.num.n q'.num.c, .bool q'.den.g, .slice q'.den.a q'.den.n q'.den.c]] w (OuR w (x * y)) := by
  have := mulQI q q' _ _ _ _ w h h' (Int.mul_ne_zero (dR_ne x) (dR_ne y)) (k.n.mono (by omega)) (k.d.mono (by omega)) (k'.n.mono (by omega)) (k'.d.mono (by omega))
  rw [(mulR x y).1, (mulR x y).2] at this
  exact this
theorem subRI (q q' : QV) (x y : Rat) (w : World) (h : IsR w q x) (h' : IsR w q' y) (k : BdR x 50000) (k' : BdR y 50000) :
    Calls Tryz.prog 151 #[.agg #[.bool q.num.g, .slice q.num.a q.num.n q.num.c, .bool q.den.g, .slice q.den.a q.den.n q.den.c], .agg #[.bool q'.num.g, .slice q'.num.a q'.num.n q'.num.c, .bool q'.den.g, .slice q'.den.a q'.den.n q'.den.c]] w (OuR w (x - y)) := by
  have := subQI q q' _ _ _ _ w h h' (Int.mul_ne_zero (dR_ne x) (dR_ne y)) (k.n.mono (by omega)) (k.d.mono (by omega)) (k'.n.mono (by omega)) (k'.d.mono (by omega))
  rw [(subR x y).1, (subR x y).2] at this
  exact this
theorem mulRS (q q' : QV) (x y : Rat) (w : World) (h : IsR w q x) (h' : IsR w q' y) (k : BdR x 50000) (k' : BdR y 50000) :
    Calls Tryz.prog 117 #[.agg #[.bool q.num.g, .slice q.num.a q.num.n q.num.c, .bool q.den.g, .slice q.den.a q.den.n q.den.c], .agg #[.bool q'.num.g, .slice q'.num.a q'.num.n q'.num.c, .bool q'.den.g, .slice q'.den.a q'.den.n q'.den.c]] w (OuRv w (x * y)) := by
  have := mulQS q q' _ _ _ _ w h h' (Int.mul_ne_zero (dR_ne x) (dR_ne y)) (k.n.mono (by omega)) (k.d.mono (by omega)) (k'.n.mono (by omega)) (k'.d.mono (by omega))
  rw [(mulR x y).1, (mulR x y).2] at this
  exact this
theorem addRS (q q' : QV) (x y : Rat) (w : World) (h : IsR w q x) (h' : IsR w q' y) (k : BdR x 50000) (k' : BdR y 50000) :
    Calls Tryz.prog 118 #[.agg #[.bool q.num.g, .slice q.num.a q.num.n q.num.c, .bool q.den.g, .slice q.den.a q.den.n q.den.c], .agg #[.bool q'.num.g, .slice q'.num.a q'.num.n q'.num.c, .bool q'.den.g, .slice q'.den.a q'.den.n q'.den.c]] w (OuRv w (x + y)) := by
  have := addQS q q' _ _ _ _ w h h' (Int.mul_ne_zero (dR_ne x) (dR_ne y)) (k.n.mono (by omega)) (k.d.mono (by omega)) (k'.n.mono (by omega)) (k'.d.mono (by omega))
  rw [(addR x y).1, (addR x y).2] at this
  exact this
theorem wholeRI (n : Int) (w : World) (h0 : -9223372036854775808 ≤ n) (h1 : n ≤ 9223372036854775807) : Calls Tryz.prog 88 #[.int .i64 n] w (OuR w (n : Rat)) := wholeI n w h0 h1
theorem wholeRS (n : Int) (w : World) (h0 : -9223372036854775808 ≤ n) (h1 : n ≤ 9223372036854775807) : Calls Tryz.prog 115 #[.int .i64 n] w (OuR w (n : Rat)) := wholeS n w h0 h1
theorem isR_of {w : World} {q : QV} {x : Rat} {xs us : List Int} (h : AllAr w [(q.num, ⟨decide (nR x < 0), xs⟩), (q.den, ⟨decide (dR x < 0), us⟩)]) (h1 : Nm xs (nR x).natAbs) (h2 : Nm us (dR x).natAbs) : IsR w q x := isQ_of h h1 h2
/-- A point of fractions by value. -/
structure IsPt (w : World) (v : SV) (p : Rat × Rat) : Prop where
  x : IsR w v.lo p.1
  y : IsR w v.hi p.2
theorem IsPt.later {w w' : World} {v : SV} {p : Rat × Rat} (h : IsPt w v p) (hb : Below w.heap.size w w') : IsPt w' v p := ⟨h.x.later hb, h.y.later hb⟩
structure BdP (p : Rat × Rat) (L : Nat) : Prop where
  x : BdR p.1 L
  y : BdR p.2 L
theorem BdP.mono {p : Rat × Rat} {L L' : Nat} (h : BdP p L) (k : L ≤ L') : BdP p L' := ⟨h.x.mono k, h.y.mono k⟩
def OutPt (w : World) (p : Rat × Rat) (e : Ending) (w' : World) : Prop := OutS w (nR p.1) (dR p.1) (nR p.2) (dR p.2) e w'
/-- A good fraction's value. -/
def vQ (d : QD) : Rat := Rat.divInt (nQ d) (dQ d)
end Go.Proofs.YthmpikagenodjaaGreat
namespace Go.Proofs.YthmpikagenodjaaGreat
open Go.RowKit
set_option linter.unusedVariables false
set_option maxRecDepth 100000
set_option linter.unusedSimpArgs false

/-- q is the rational number x, in memory at blocks from lo to below hi, numerator and denominator apart. -/
def OwR (lo hi : Nat) (w : World) (q : QV) (x : Rat) : Prop := ∃ xs us, AllOwn lo hi w [(q.num, ⟨decide (nR x < 0), xs⟩), (q.den, ⟨decide (dR x < 0), us⟩)] ∧ AllAr w [(q.num, ⟨decide (nR x < 0), xs⟩), (q.den, ⟨decide (dR x < 0), us⟩)] ∧ Nm xs (nR x).natAbs ∧ Nm us (dR x).natAbs
theorem OwR.later {lo hi : Nat} {w w' : World} {q : QV} {x : Rat} (h : OwR lo hi w q x) (hb : Below w.heap.size w w') : OwR lo hi w' q x := by
  obtain ⟨xs, us, h1, h2, h3, h4⟩ := h
  exact ⟨xs, us, h1.later hb, h2.later hb, h3, h4⟩
theorem OwR.is {lo hi : Nat} {w : World} {q : QV} {x : Rat} (h : OwR lo hi w q x) : IsR w q x := by
  obtain ⟨xs, us, h1, h2, h3, h4⟩ := h
  exact isR_of h2 h3 h4
theorem OwR.wide {lo hi lo' hi' : Nat} {w : World} {q : QV} {x : Rat} (h : OwR lo hi w q x) (h1 : lo' ≤ lo) (h2 : hi ≤ hi') : OwR lo' hi' w q x := by
  obtain ⟨xs, us, k1, k2, k3, k4⟩ := h
  exact ⟨xs, us, k1.wide h1 h2, k2, k3, k4⟩
theorem owR_of {lo hi : Nat} {w : World} {q : QV} {x : Rat} {xs us : List Int} (ho : AllOwn lo hi w [(q.num, ⟨decide (nR x < 0), xs⟩), (q.den, ⟨decide (dR x < 0), us⟩)]) (ha : AllAr w [(q.num, ⟨decide (nR x < 0), xs⟩), (q.den, ⟨decide (dR x < 0), us⟩)]) (h1 : Nm xs (nR x).natAbs) (h2 : Nm us (dR x).natAbs) : OwR lo hi w q x := ⟨xs, us, ho, ha, h1, h2⟩
/-- .. where numerator and denominator may share memory. -/
structure OwV (lo hi : Nat) (w : World) (q : QV) (x : Rat) : Prop where
  n : Ow lo hi w q.num (nR x)
  d : Ow lo hi w q.den (dR x)
theorem OwV.later {lo hi : Nat} {w w' : World} {q : QV} {x : Rat} (h : OwV lo hi w q x) (hb : Below w.heap.size w w') : OwV lo hi w' q x := ⟨h.n.later hb, h.d.later hb⟩
theorem OwV.is {lo hi : Nat} {w : World} {q : QV} {x : Rat} (h : OwV lo hi w q x) : IsR w q x := ⟨h.n.is, h.d.is⟩
theorem OwV.wide {lo hi lo' hi' : Nat} {w : World} {q : QV} {x : Rat} (h : OwV lo hi w q x) (h1 : lo' ≤ lo) (h2 : hi ≤ hi') : OwV lo' hi' w q x := ⟨h.n.wide h1 h2, h.d.wide h1 h2⟩
theorem OwV.but {lo hi lo' hi' : Nat} {w w' : World} {q : QV} {x : Rat} (h : OwV lo hi w q x) (bt : But lo' hi' w w') (hd : hi ≤ lo' ∨ hi' ≤ lo) : OwV lo hi w' q x := ⟨h.n.but bt hd, h.d.but bt hd⟩
theorem OwR.v {lo hi : Nat} {w : World} {q : QV} {x : Rat} (h : OwR lo hi w q x) : OwV lo hi w q x := by
  obtain ⟨xs, us, ho, ha, h1, h2⟩ := h
  exact ⟨⟨xs, ⟨fun p hp => ho.own p (by simp at hp ⊢; exact .inl hp), List.pairwise_singleton _ _⟩, fun p hp => ha p (by simp at hp ⊢; exact .inl hp), h1⟩, ⟨us, ⟨fun p hp => ho.own p (by simp at hp ⊢; exact .inr hp), List.pairwise_singleton _ _⟩, fun p hp => ha p (by simp at hp ⊢; exact .inr hp), h2⟩⟩
/-- A call answers what reads as the point p, in memory of its own, parts of which may be shared. -/
def OutPv (w : World) (p : Rat × Rat) (e : Ending) (w' : World) : Prop := ∃ v : SV, e = .returned (.agg #[.bool v.lo.num.g, .slice v.lo.num.a v.lo.num.n v.lo.num.c, .bool v.lo.den.g, .slice v.lo.den.a v.lo.den.n v.lo.den.c, .bool v.hi.num.g, .slice v.hi.num.a v.hi.num.n v.hi.num.c, .bool v.hi.den.g, .slice v.hi.den.a v.hi.den.n v.hi.den.c]) ∧ Below w.heap.size w w' ∧ OwV w.heap.size w'.heap.size w' v.lo p.1 ∧ OwV w.heap.size w'.heap.size w' v.hi p.2
theorem outPv_fin {w wN W : World} {R lo hi lo' hi' : Nat} {v : SV} {x y : Rat} (hR : w.heap.size ≤ R) (hb : Below w.heap.size w wN) (bt : But R (R + 1) wN W) (h : OwV lo hi wN v.lo x) (k : OwV lo' hi' wN v.hi y) (h1 : R + 1 ≤ lo) (h2 : hi ≤ wN.heap.size) (h3 : R + 1 ≤ lo') (h4 : hi' ≤ wN.heap.size) :
    OutPv w (x, y) (.returned (.agg #[.bool v.lo.num.g, .slice v.lo.num.a v.lo.num.n v.lo.num.c, .bool v.lo.den.g, .slice v.lo.den.a v.lo.den.n v.lo.den.c, .bool v.hi.num.g, .slice v.hi.num.a v.hi.num.n v.hi.num.c, .bool v.hi.den.g, .slice v.hi.den.a v.hi.den.n v.hi.den.c])) W :=
  ⟨v, rfl, bt.below hb hR hb.size, (h.but bt (.inr h1)).wide (by omega) (Nat.le_trans h2 bt.size), (k.but bt (.inr h3)).wide (by omega) (Nat.le_trans h4 bt.size)⟩
theorem outPt_fin {w wN W : World} {R lo mid hi : Nat} {v : SV} {x y : Rat} (hR : w.heap.size ≤ R) (hb : Below w.heap.size w wN) (bt : But R (R + 1) wN W) (h : OwR lo mid wN v.lo x) (k : OwR mid hi wN v.hi y) (h1 : R + 1 ≤ lo) (h2 : lo ≤ mid) (h3 : mid ≤ hi) (h4 : hi ≤ wN.heap.size) :
    OutPt w (x, y) (.returned (.agg #[.bool v.lo.num.g, .slice v.lo.num.a v.lo.num.n v.lo.num.c, .bool v.lo.den.g, .slice v.lo.den.a v.lo.den.n v.lo.den.c, .bool v.hi.num.g, .slice v.hi.num.a v.hi.num.n v.hi.num.c, .bool v.hi.den.g, .slice v.hi.den.a v.hi.den.n v.hi.den.c])) W := by
  obtain ⟨xs, us, a1, a2, a3, a4⟩ := h
  obtain ⟨ys, vs, b1, b2, b3, b4⟩ := k
  exact outS_fin hR hb bt ((a1.join b1 h2 h3).wide h1 h4) (a2.append b2) a3 a4 b3 b4
end Go.Proofs.YthmpikagenodjaaGreat
namespace Go.Proofs.YthmpikagenodjaaGreat
open Go.RowKit
set_option linter.unusedVariables false
set_option maxRecDepth 100000
set_option linter.unusedSimpArgs false

/-- At most 2 limbs each; a good fraction of so few. -/
def sm2 (d : QD) : Bool := decide (d.num.xs.length ≤ 2) && decide (d.den.xs.length ≤ 2)
def gF (d : QD) : Bool := sm2 d && gQ d
def gPt2 (d : SD) : Bool := gF d.lo && gF d.hi
def many (n : Nat) : Bool := decide (1 ≤ n) && decide (n ≤ 5)
def gCv (l : List SD) : Bool := many l.length && l.all gPt2
def lgP (d : SD) : Bool := !sm2 d.lo || !sm2 d.hi
def bdP (d : SD) : Bool := !gQ d.lo || !gQ d.hi
theorem gCv_parts (l : List SD) : gCv l = ((many l.length && !l.any lgP) && !l.any bdP) := by
  unfold gCv
  have h : l.all gPt2 = (!l.any lgP && !l.any bdP) := by
    induction l with
    | nil => rfl
    | cons d l ih =>
      simp only [List.all_cons, List.any_cons, ih]
      unfold gPt2 gF lgP bdP
      cases sm2 d.lo <;> cases sm2 d.hi <;> cases gQ d.lo <;> cases gQ d.hi <;> simp
  rw [h, Bool.and_assoc]

theorem inL2 (q : QV) (d : QD) (w : World) (h : AllAr w [(q.num, d.num), (q.den, d.den)]) : Calls Tryz.prog 113 #[.agg #[.bool q.num.g, .slice q.num.a q.num.n q.num.c, .bool q.den.g, .slice q.den.a q.den.n q.den.c], .int .i64 2] w fun e w' => e = .returned (.bool (sm2 d)) ∧ Below w.heap.size w w' := by
  unfold sm2
  rw [h.head.ar.len, h.tail.head.ar.len]
  exact inL q 2 w
theorem badI2 (q : QV) (d : QD) (w : World) (h : AllAr w [(q.num, d.num), (q.den, d.den)]) : Calls Tryz.prog 150 #[.agg #[.bool q.num.g, .slice q.num.a q.num.n q.num.c, .bool q.den.g, .slice q.den.a q.den.n q.den.c]] w fun e w' => e = .returned (.bool (!gQ d)) ∧ Below w.heap.size w w' := by
  have H1 := hide h
  clear h
  have B0 := hide (show Below w.heap.size w (w.alloc (.cells #[.bool q.num.g, .slice q.num.a q.num.n q.num.c, .bool q.den.g, .slice q.den.a q.den.n q.den.c] 29)) from ((Below.refl _ _).alloc (by simp) _))
  go_enter Tryz.func150, Tryz.ntmps150
  go_wp2_with fail
  refine (goodQI q d _ ((unhide H1).later (unhide B0))).mono ?_
  rintro e w1 ⟨rfl, hb⟩
  have HB := hide (below_on (unhide B0) hb)
  clear hb
  go_wp2
  go_ret
  exact ⟨rfl, unhide HB⟩

set_option maxHeartbeats 2000000 in
theorem longP (v : SV) (d : SD) (w : World) (h : AllAr w [(v.lo.num, d.lo.num), (v.lo.den, d.lo.den), (v.hi.num, d.hi.num), (v.hi.den, d.hi.den)]) : Calls Tryz.prog 133 #[.agg #[.bool v.lo.num.g, .slice v.lo.num.a v.lo.num.n v.lo.num.c, .bool v.lo.den.g, .slice v.lo.den.a v.lo.den.n v.lo.den.c, .bool v.hi.num.g, .slice v.hi.num.a v.hi.num.n v.hi.num.c, .bool v.hi.den.g, .slice v.hi.den.a v.hi.den.n v.hi.den.c]] w fun e w' => e = .returned (.bool (lgP d)) ∧ Below w.heap.size w w' := by
  have HA := hide (show AllAr w [(v.lo.num, d.lo.num), (v.lo.den, d.lo.den)] from AllAr.cons h.head (AllAr.cons h.tail.head (AllAr.nil _)))
  have HC := hide (show AllAr w [(v.hi.num, d.hi.num), (v.hi.den, d.hi.den)] from AllAr.cons h.tail.tail.head (AllAr.cons h.tail.tail.tail.head (AllAr.nil _)))
  clear h
  have C1 := hide (fun w1 (k : AllAr w1 [(v.lo.num, d.lo.num), (v.lo.den, d.lo.den)]) => inL2 v.lo d.lo w1 k)
  have C2 := hide (fun w1 (k : AllAr w1 [(v.hi.num, d.hi.num), (v.hi.den, d.hi.den)]) => inL2 v.hi d.hi w1 k)
  unfold lgP
  cases hp : sm2 d.lo
  · rw [hp] at C1
    have B0 := hide (show Below w.heap.size w (w.alloc (.cells #[.bool v.lo.num.g, .slice v.lo.num.a v.lo.num.n v.lo.num.c, .bool v.lo.den.g, .slice v.lo.den.a v.lo.den.n v.lo.den.c, .bool v.hi.num.g, .slice v.hi.num.a v.hi.num.n v.hi.num.c, .bool v.hi.den.g, .slice v.hi.den.a v.hi.den.n v.hi.den.c] 43)) from ((Below.refl _ _).alloc (by simp) _))
    go_enter Tryz.func133, Tryz.ntmps133
    go_wp2_with fail
    refine (unhide C1 _ ((unhide HA).later (unhide B0))).mono ?_
    rintro e w1 ⟨rfl, hb⟩
    have HB := hide (below_on (unhide B0) hb)
    clear hb
    go_wp2
    go_ret
    exact ⟨rfl, unhide HB⟩
  · rw [hp] at C1
    have B0 := hide (show Below w.heap.size w (w.alloc (.cells #[.bool v.lo.num.g, .slice v.lo.num.a v.lo.num.n v.lo.num.c, .bool v.lo.den.g, .slice v.lo.den.a v.lo.den.n v.lo.den.c, .bool v.hi.num.g, .slice v.hi.num.a v.hi.num.n v.hi.num.c, .bool v.hi.den.g, .slice v.hi.den.a v.hi.den.n v.hi.den.c] 43)) from ((Below.refl _ _).alloc (by simp) _))
    go_enter Tryz.func133, Tryz.ntmps133
    go_wp2_with fail
    refine (unhide C1 _ ((unhide HA).later (unhide B0))).mono ?_
    rintro e w1 ⟨rfl, hb⟩
    have k0_4 : w1.cell? ⟨w.heap.size, 4, none⟩ = some (.bool v.hi.num.g) := cell_later hb (by simp [go_sem])
    have k0_5 : w1.cell? ⟨w.heap.size, 5, none⟩ = some (.slice v.hi.num.a v.hi.num.n v.hi.num.c) := cell_later hb (by simp [go_sem])
    have k0_6 : w1.cell? ⟨w.heap.size, 6, none⟩ = some (.bool v.hi.den.g) := cell_later hb (by simp [go_sem])
    have k0_7 : w1.cell? ⟨w.heap.size, 7, none⟩ = some (.slice v.hi.den.a v.hi.den.n v.hi.den.c) := cell_later hb (by simp [go_sem])
    have HB := hide (below_on (unhide B0) hb)
    clear hb
    go_wp2_with fail
    refine (unhide C2 _ ((unhide HC).later (unhide HB))).mono ?_
    rintro e w2 ⟨rfl, hb⟩
    clear k0_4 k0_5 k0_6 k0_7
    replace HB := hide (below_on (unhide HB) hb)
    clear hb
    go_wp2
    go_ret
    exact ⟨rfl, unhide HB⟩

set_option maxHeartbeats 2000000 in
theorem badP (v : SV) (d : SD) (w : World) (h : AllAr w [(v.lo.num, d.lo.num), (v.lo.den, d.lo.den), (v.hi.num, d.hi.num), (v.hi.den, d.hi.den)]) : Calls Tryz.prog 107 #[.agg #[.bool v.lo.num.g, .slice v.lo.num.a v.lo.num.n v.lo.num.c, .bool v.lo.den.g, .slice v.lo.den.a v.lo.den.n v.lo.den.c, .bool v.hi.num.g, .slice v.hi.num.a v.hi.num.n v.hi.num.c, .bool v.hi.den.g, .slice v.hi.den.a v.hi.den.n v.hi.den.c]] w fun e w' => e = .returned (.bool (bdP d)) ∧ Below w.heap.size w w' := by
  have HA := hide (show AllAr w [(v.lo.num, d.lo.num), (v.lo.den, d.lo.den)] from AllAr.cons h.head (AllAr.cons h.tail.head (AllAr.nil _)))
  have HC := hide (show AllAr w [(v.hi.num, d.hi.num), (v.hi.den, d.hi.den)] from AllAr.cons h.tail.tail.head (AllAr.cons h.tail.tail.tail.head (AllAr.nil _)))
  clear h
  have C1 := hide (fun w1 (k : AllAr w1 [(v.lo.num, d.lo.num), (v.lo.den, d.lo.den)]) => badI2 v.lo d.lo w1 k)
  have C2 := hide (fun w1 (k : AllAr w1 [(v.hi.num, d.hi.num), (v.hi.den, d.hi.den)]) => badI2 v.hi d.hi w1 k)
  unfold bdP
  cases hp : (!gQ d.lo)
  · rw [hp] at C1
    have B0 := hide (show Below w.heap.size w (w.alloc (.cells #[.bool v.lo.num.g, .slice v.lo.num.a v.lo.num.n v.lo.num.c, .bool v.lo.den.g, .slice v.lo.den.a v.lo.den.n v.lo.den.c, .bool v.hi.num.g, .slice v.hi.num.a v.hi.num.n v.hi.num.c, .bool v.hi.den.g, .slice v.hi.den.a v.hi.den.n v.hi.den.c] 43)) from ((Below.refl _ _).alloc (by simp) _))
    go_enter Tryz.func107, Tryz.ntmps107
    go_wp2_with fail
    refine (unhide C1 _ ((unhide HA).later (unhide B0))).mono ?_
    rintro e w1 ⟨rfl, hb⟩
    have k0_4 : w1.cell? ⟨w.heap.size, 4, none⟩ = some (.bool v.hi.num.g) := cell_later hb (by simp [go_sem])
    have k0_5 : w1.cell? ⟨w.heap.size, 5, none⟩ = some (.slice v.hi.num.a v.hi.num.n v.hi.num.c) := cell_later hb (by simp [go_sem])
    have k0_6 : w1.cell? ⟨w.heap.size, 6, none⟩ = some (.bool v.hi.den.g) := cell_later hb (by simp [go_sem])
    have k0_7 : w1.cell? ⟨w.heap.size, 7, none⟩ = some (.slice v.hi.den.a v.hi.den.n v.hi.den.c) := cell_later hb (by simp [go_sem])
    have HB := hide (below_on (unhide B0) hb)
    clear hb
    go_wp2_with fail
    refine (unhide C2 _ ((unhide HC).later (unhide HB))).mono ?_
    rintro e w2 ⟨rfl, hb⟩
    clear k0_4 k0_5 k0_6 k0_7
    replace HB := hide (below_on (unhide HB) hb)
    clear hb
    go_wp2
    go_ret
    exact ⟨rfl, unhide HB⟩
  · rw [hp] at C1
    have B0 := hide (show Below w.heap.size w (w.alloc (.cells #[.bool v.lo.num.g, .slice v.lo.num.a v.lo.num.n v.lo.num.c, .bool v.lo.den.g, .slice v.lo.den.a v.lo.den.n v.lo.den.c, .bool v.hi.num.g, .slice v.hi.num.a v.hi.num.n v.hi.num.c, .bool v.hi.den.g, .slice v.hi.den.a v.hi.den.n v.hi.den.c] 43)) from ((Below.refl _ _).alloc (by simp) _))
    go_enter Tryz.func107, Tryz.ntmps107
    go_wp2_with fail
    refine (unhide C1 _ ((unhide HA).later (unhide B0))).mono ?_
    rintro e w1 ⟨rfl, hb⟩
    have HB := hide (below_on (unhide B0) hb)
    clear hb
    go_wp2
    go_ret
    exact ⟨rfl, unhide HB⟩

set_option maxHeartbeats 2000000 in
theorem smallS2 (q : QV) (d : QD) (w : World) (h : AllAr w [(q.num, d.num), (q.den, d.den)]) : Calls Tryz.prog 81 #[.agg #[.bool q.num.g, .slice q.num.a q.num.n q.num.c, .bool q.den.g, .slice q.den.a q.den.n q.den.c]] w fun e w' => e = .returned (.bool (gF d)) ∧ Below w.heap.size w w' := by
  have e1 := h.head.ar.len
  have e2 := h.tail.head.ar.len
  have m1 := Nat.le_trans h.head.ar.cap h.head.ar.top
  have m2 := Nat.le_trans h.tail.head.ar.cap h.tail.head.ar.top
  have H1 := hide h
  clear h
  unfold maxLen at m1 m2
  unfold gF sm2
  rw [e1, e2]
  have HB0 := hide (show ∀ o, Below w.heap.size w (w.alloc o) from fun o => (Below.refl _ _).alloc (Nat.le_refl _) _)
  by_cases c1 : q.num.n ≤ 2
  · by_cases c2 : q.den.n ≤ 2
    · rw [decide_eq_true c1, decide_eq_true c2]
      have b1 : (q.num.n : Int) ≤ 2 := by omega
      have b2 : (q.den.n : Int) ≤ 2 := by omega
      have B0 := hide (show Below w.heap.size w (w.alloc (.cells #[.bool q.num.g, .slice q.num.a q.num.n q.num.c, .bool q.den.g, .slice q.den.a q.den.n q.den.c] 29)) from ((Below.refl _ _).alloc (by simp) _))
      go_enter Tryz.func81, Tryz.ntmps81
      go_wp2_with fail
      refine (goodQS q d _ ((unhide H1).later (unhide B0))).mono ?_
      rintro e w1 ⟨rfl, hb⟩
      have HB := hide (below_on (unhide B0) hb)
      clear hb
      go_wp2
      go_ret
      exact ⟨rfl, unhide HB⟩
    · rw [decide_eq_true c1, decide_eq_false c2]
      have b1 : (q.num.n : Int) ≤ 2 := by omega
      have b2 : ¬ ((q.den.n : Int) ≤ 2) := by omega
      have b3 : (2 : Int) < (q.den.n : Int) := by omega
      go_enter Tryz.func81, Tryz.ntmps81
      go_wp2
      go_ret
      exact ⟨rfl, unhide HB0 _⟩
  · rw [decide_eq_false c1]
    have b1 : ¬ ((q.num.n : Int) ≤ 2) := by omega
    have b3 : (2 : Int) < (q.num.n : Int) := by omega
    go_enter Tryz.func81, Tryz.ntmps81
    go_wp2
    go_ret
    exact ⟨rfl, unhide HB0 _⟩

set_option maxHeartbeats 2000000 in
theorem ptS2 (v : SV) (d : SD) (w : World) (h : AllAr w [(v.lo.num, d.lo.num), (v.lo.den, d.lo.den), (v.hi.num, d.hi.num), (v.hi.den, d.hi.den)]) : Calls Tryz.prog 80 #[.agg #[.bool v.lo.num.g, .slice v.lo.num.a v.lo.num.n v.lo.num.c, .bool v.lo.den.g, .slice v.lo.den.a v.lo.den.n v.lo.den.c, .bool v.hi.num.g, .slice v.hi.num.a v.hi.num.n v.hi.num.c, .bool v.hi.den.g, .slice v.hi.den.a v.hi.den.n v.hi.den.c]] w fun e w' => e = .returned (.bool (gPt2 d)) ∧ Below w.heap.size w w' := by
  have HA := hide (show AllAr w [(v.lo.num, d.lo.num), (v.lo.den, d.lo.den)] from AllAr.cons h.head (AllAr.cons h.tail.head (AllAr.nil _)))
  have HC := hide (show AllAr w [(v.hi.num, d.hi.num), (v.hi.den, d.hi.den)] from AllAr.cons h.tail.tail.head (AllAr.cons h.tail.tail.tail.head (AllAr.nil _)))
  clear h
  have C1 := hide (fun w1 (k : AllAr w1 [(v.lo.num, d.lo.num), (v.lo.den, d.lo.den)]) => smallS2 v.lo d.lo w1 k)
  have C2 := hide (fun w1 (k : AllAr w1 [(v.hi.num, d.hi.num), (v.hi.den, d.hi.den)]) => smallS2 v.hi d.hi w1 k)
  unfold gPt2
  cases hp : gF d.lo
  · rw [hp] at C1
    have B0 := hide (show Below w.heap.size w (w.alloc (.cells #[.bool v.lo.num.g, .slice v.lo.num.a v.lo.num.n v.lo.num.c, .bool v.lo.den.g, .slice v.lo.den.a v.lo.den.n v.lo.den.c, .bool v.hi.num.g, .slice v.hi.num.a v.hi.num.n v.hi.num.c, .bool v.hi.den.g, .slice v.hi.den.a v.hi.den.n v.hi.den.c] 43)) from ((Below.refl _ _).alloc (by simp) _))
    go_enter Tryz.func80, Tryz.ntmps80
    go_wp2_with fail
    refine (unhide C1 _ ((unhide HA).later (unhide B0))).mono ?_
    rintro e w1 ⟨rfl, hb⟩
    have HB := hide (below_on (unhide B0) hb)
    clear hb
    go_wp2
    go_ret
    exact ⟨rfl, unhide HB⟩
  · rw [hp] at C1
    have B0 := hide (show Below w.heap.size w (w.alloc (.cells #[.bool v.lo.num.g, .slice v.lo.num.a v.lo.num.n v.lo.num.c, .bool v.lo.den.g, .slice v.lo.den.a v.lo.den.n v.lo.den.c, .bool v.hi.num.g, .slice v.hi.num.a v.hi.num.n v.hi.num.c, .bool v.hi.den.g, .slice v.hi.den.a v.hi.den.n v.hi.den.c] 43)) from ((Below.refl _ _).alloc (by simp) _))
    go_enter Tryz.func80, Tryz.ntmps80
    go_wp2_with fail
    refine (unhide C1 _ ((unhide HA).later (unhide B0))).mono ?_
    rintro e w1 ⟨rfl, hb⟩
    have k0_4 : w1.cell? ⟨w.heap.size, 4, none⟩ = some (.bool v.hi.num.g) := cell_later hb (by simp [go_sem])
    have k0_5 : w1.cell? ⟨w.heap.size, 5, none⟩ = some (.slice v.hi.num.a v.hi.num.n v.hi.num.c) := cell_later hb (by simp [go_sem])
    have k0_6 : w1.cell? ⟨w.heap.size, 6, none⟩ = some (.bool v.hi.den.g) := cell_later hb (by simp [go_sem])
    have k0_7 : w1.cell? ⟨w.heap.size, 7, none⟩ = some (.slice v.hi.den.a v.hi.den.n v.hi.den.c) := cell_later hb (by simp [go_sem])
    have HB := hide (below_on (unhide B0) hb)
    clear hb
    go_wp2_with fail
    refine (unhide C2 _ ((unhide HC).later (unhide HB))).mono ?_
    rintro e w2 ⟨rfl, hb⟩
    clear k0_4 k0_5 k0_6 k0_7
    replace HB := hide (below_on (unhide HB) hb)
    clear hb
    go_wp2
    go_ret
    exact ⟨rfl, unhide HB⟩

set_option maxHeartbeats 2000000 in
theorem indexBdP (a : Option Addr) (n c : Nat) (l : List (SV × SD)) (w : World) (h : PArS w a n c l) :
    Calls Tryz.prog 149 #[.slice a n c, .func (Fn.func 107) #[] #[]] w fun e w' => ∃ r : Int, e = .returned (.int .i64 r) ∧ Below w.heap.size w w' ∧ decide (0 ≤ r) = (l.map Prod.snd).any bdP ∧ -1 ≤ r ∧ r ≤ 9223372036854775807 := by
  have HS := hide h
  have HN := hide h.len
  have hm : n ≤ maxLen := Nat.le_trans h.cap h.top
  clear h
  unfold maxLen at hm
  go_enter Tryz.func149, Tryz.ntmps149
  go_wp2
  go_loopw [8] (fun iv wr => ∃ (i : Nat), i ≤ n ∧ iv = .int .i64 i ∧ Hid (((l.take i).map Prod.snd).any bdP = false) ∧ Hid (Below w.heap.size w wr)) (fun iv _ => n - (intOf iv).toNat)
  case atStart => exact ⟨0, Nat.zero_le _, rfl, hide (by simp), hide (Below.refl _ _)⟩
  case round =>
    obtain ⟨i, hi, rfl, EA, HB⟩ := hrel
    by_cases hlt : i < n
    · have hlt' : (i : Int) < (n : Int) := by omega
      rcases (unhide HS).at_ with e | ⟨b, off, rfl, hb, hc⟩
      · exact absurd (unhide HN) (by rw [e]; simp; omega)
      have e0 := hc i (by rw [unhide HN]; exact hlt)
      obtain ⟨y, hy⟩ : ∃ y, y = l[i]'(by rw [unhide HN]; exact hlt) := ⟨_, rfl⟩
      rw [← hy] at e0
      have MY : Hid (y ∈ l) := hide (by rw [hy]; exact List.getElem_mem _)
      have EY := hide hy
      clear hy
      have E0 : wr.cell? ⟨b, off + i * 8, none⟩ = some (.bool y.1.lo.num.g) := ((unhide HB).cell (p := ⟨b, off + i * 8, none⟩) hb).trans (e0.1)
      have E1 : wr.cell? ⟨b, off + i * 8 + 1, none⟩ = some (.slice y.1.lo.num.a y.1.lo.num.n y.1.lo.num.c) := ((unhide HB).cell (p := ⟨b, off + i * 8 + 1, none⟩) hb).trans (e0.2.1)
      have E2 : wr.cell? ⟨b, off + i * 8 + 2, none⟩ = some (.bool y.1.lo.den.g) := ((unhide HB).cell (p := ⟨b, off + i * 8 + 2, none⟩) hb).trans (e0.2.2.1)
      have E3 : wr.cell? ⟨b, off + i * 8 + 3, none⟩ = some (.slice y.1.lo.den.a y.1.lo.den.n y.1.lo.den.c) := ((unhide HB).cell (p := ⟨b, off + i * 8 + 3, none⟩) hb).trans (e0.2.2.2.1)
      have E4 : wr.cell? ⟨b, off + i * 8 + 4, none⟩ = some (.bool y.1.hi.num.g) := ((unhide HB).cell (p := ⟨b, off + i * 8 + 4, none⟩) hb).trans (e0.2.2.2.2.1)
      have E5 : wr.cell? ⟨b, off + i * 8 + 5, none⟩ = some (.slice y.1.hi.num.a y.1.hi.num.n y.1.hi.num.c) := ((unhide HB).cell (p := ⟨b, off + i * 8 + 5, none⟩) hb).trans (e0.2.2.2.2.2.1)
      have E6 : wr.cell? ⟨b, off + i * 8 + 6, none⟩ = some (.bool y.1.hi.den.g) := ((unhide HB).cell (p := ⟨b, off + i * 8 + 6, none⟩) hb).trans (e0.2.2.2.2.2.2.1)
      have E7 : wr.cell? ⟨b, off + i * 8 + 7, none⟩ = some (.slice y.1.hi.den.a y.1.hi.den.n y.1.hi.den.c) := ((unhide HB).cell (p := ⟨b, off + i * 8 + 7, none⟩) hb).trans (e0.2.2.2.2.2.2.2)
      clear e0 hc
      have TK : Hid (l.take (i + 1) = l.take i ++ [y]) := hide (by have h := take_succS (l := l) (i := i) (by rw [unhide HN]; exact hlt); rw [← unhide EY] at h; exact h)
      have R1 := hide (((unhide HS).rd y (unhide MY)).later (unhide HB))
      have CC := hide (fun w1 (k : AllAr w1 [(y.1.lo.num, y.2.lo.num), (y.1.lo.den, y.2.lo.den), (y.1.hi.num, y.2.hi.num), (y.1.hi.den, y.2.hi.den)]) => badP y.1 y.2 w1 k)
      cases hp : bdP y.2
      · rw [hp] at CC
        go_wp2_with fail
        refine (unhide CC _ (unhide R1)).mono ?_
        rintro e w1 ⟨rfl, hb1⟩
        have HB1 := hide (below_on (unhide HB) hb1)
        clear hb1 E0 E1 E2 E3 E4 E5 E6 E7 CC
        go_wp2
        go_roundw
        case rel => exact ⟨i + 1, by omega, by go_num, hide (by rw [unhide TK, List.map_append, List.any_append, unhide EA]; simp only [List.map_cons, List.map_nil, List.any_cons, List.any_nil]; rw [hp]; rfl), HB1⟩
        case measure => simp [intOf]; omega
      · rw [hp] at CC
        have AN := hide (show (l.map Prod.snd).any bdP = true from List.any_eq_true.2 ⟨y.2, List.mem_map.2 ⟨y, unhide MY, rfl⟩, hp⟩)
        go_wp2_with fail
        refine (unhide CC _ (unhide R1)).mono ?_
        rintro e w1 ⟨rfl, hb1⟩
        have HB1 := hide (below_on (unhide HB) hb1)
        clear hb1 E0 E1 E2 E3 E4 E5 E6 E7 CC
        go_wp2
        go_ret
        exact ⟨_, rfl, unhide HB1, by rw [unhide AN]; exact decide_eq_true (by omega), by omega, by omega⟩
    · obtain rfl : i = n := by omega
      have EL := hide (show (l.map Prod.snd).any bdP = false from by have := unhide EA; rw [← unhide HN, List.take_length] at this; exact this)
      go_wp2
      go_ret
      exact ⟨_, rfl, unhide HB, by rw [unhide EL]; rfl, by omega, by omega⟩
theorem containsBdP (a : Option Addr) (n c : Nat) (l : List (SV × SD)) (w : World) (h : PArS w a n c l) :
    Calls Tryz.prog 106 #[.slice a n c, .func (Fn.func 107) #[] #[]] w fun e w' => e = .returned (.bool ((l.map Prod.snd).any bdP)) ∧ Below w.heap.size w w' := by
  have HS := hide h
  clear h
  go_enter Tryz.func106, Tryz.ntmps106
  go_wp2_with fail
  refine (indexBdP a n c l _ (unhide HS)).mono ?_
  rintro e w1 ⟨r, rfl, hb1, hr, r0, r1⟩
  have HB1 := hide hb1
  have HR := hide hr
  clear hb1 hr
  go_wp2
  go_ret
  exact ⟨by rw [← unhide HR]; rfl, unhide HB1⟩

set_option maxHeartbeats 2000000 in
theorem indexLgP (a : Option Addr) (n c : Nat) (l : List (SV × SD)) (w : World) (h : PArS w a n c l) :
    Calls Tryz.prog 149 #[.slice a n c, .func (Fn.func 133) #[] #[]] w fun e w' => ∃ r : Int, e = .returned (.int .i64 r) ∧ Below w.heap.size w w' ∧ decide (0 ≤ r) = (l.map Prod.snd).any lgP ∧ -1 ≤ r ∧ r ≤ 9223372036854775807 := by
  have HS := hide h
  have HN := hide h.len
  have hm : n ≤ maxLen := Nat.le_trans h.cap h.top
  clear h
  unfold maxLen at hm
  go_enter Tryz.func149, Tryz.ntmps149
  go_wp2
  go_loopw [8] (fun iv wr => ∃ (i : Nat), i ≤ n ∧ iv = .int .i64 i ∧ Hid (((l.take i).map Prod.snd).any lgP = false) ∧ Hid (Below w.heap.size w wr)) (fun iv _ => n - (intOf iv).toNat)
  case atStart => exact ⟨0, Nat.zero_le _, rfl, hide (by simp), hide (Below.refl _ _)⟩
  case round =>
    obtain ⟨i, hi, rfl, EA, HB⟩ := hrel
    by_cases hlt : i < n
    · have hlt' : (i : Int) < (n : Int) := by omega
      rcases (unhide HS).at_ with e | ⟨b, off, rfl, hb, hc⟩
      · exact absurd (unhide HN) (by rw [e]; simp; omega)
      have e0 := hc i (by rw [unhide HN]; exact hlt)
      obtain ⟨y, hy⟩ : ∃ y, y = l[i]'(by rw [unhide HN]; exact hlt) := ⟨_, rfl⟩
      rw [← hy] at e0
      have MY : Hid (y ∈ l) := hide (by rw [hy]; exact List.getElem_mem _)
      have EY := hide hy
      clear hy
      have E0 : wr.cell? ⟨b, off + i * 8, none⟩ = some (.bool y.1.lo.num.g) := ((unhide HB).cell (p := ⟨b, off + i * 8, none⟩) hb).trans (e0.1)
      have E1 : wr.cell? ⟨b, off + i * 8 + 1, none⟩ = some (.slice y.1.lo.num.a y.1.lo.num.n y.1.lo.num.c) := ((unhide HB).cell (p := ⟨b, off + i * 8 + 1, none⟩) hb).trans (e0.2.1)
      have E2 : wr.cell? ⟨b, off + i * 8 + 2, none⟩ = some (.bool y.1.lo.den.g) := ((unhide HB).cell (p := ⟨b, off + i * 8 + 2, none⟩) hb).trans (e0.2.2.1)
      have E3 : wr.cell? ⟨b, off + i * 8 + 3, none⟩ = some (.slice y.1.lo.den.a y.1.lo.den.n y.1.lo.den.c) := ((unhide HB).cell (p := ⟨b, off + i * 8 + 3, none⟩) hb).trans (e0.2.2.2.1)
      have E4 : wr.cell? ⟨b, off + i * 8 + 4, none⟩ = some (.bool y.1.hi.num.g) := ((unhide HB).cell (p := ⟨b, off + i * 8 + 4, none⟩) hb).trans (e0.2.2.2.2.1)
      have E5 : wr.cell? ⟨b, off + i * 8 + 5, none⟩ = some (.slice y.1.hi.num.a y.1.hi.num.n y.1.hi.num.c) := ((unhide HB).cell (p := ⟨b, off + i * 8 + 5, none⟩) hb).trans (e0.2.2.2.2.2.1)
      have E6 : wr.cell? ⟨b, off + i * 8 + 6, none⟩ = some (.bool y.1.hi.den.g) := ((unhide HB).cell (p := ⟨b, off + i * 8 + 6, none⟩) hb).trans (e0.2.2.2.2.2.2.1)
      have E7 : wr.cell? ⟨b, off + i * 8 + 7, none⟩ = some (.slice y.1.hi.den.a y.1.hi.den.n y.1.hi.den.c) := ((unhide HB).cell (p := ⟨b, off + i * 8 + 7, none⟩) hb).trans (e0.2.2.2.2.2.2.2)
      clear e0 hc
      have TK : Hid (l.take (i + 1) = l.take i ++ [y]) := hide (by have h := take_succS (l := l) (i := i) (by rw [unhide HN]; exact hlt); rw [← unhide EY] at h; exact h)
      have R1 := hide (((unhide HS).rd y (unhide MY)).later (unhide HB))
      have CC := hide (fun w1 (k : AllAr w1 [(y.1.lo.num, y.2.lo.num), (y.1.lo.den, y.2.lo.den), (y.1.hi.num, y.2.hi.num), (y.1.hi.den, y.2.hi.den)]) => longP y.1 y.2 w1 k)
      cases hp : lgP y.2
      · rw [hp] at CC
        go_wp2_with fail
        refine (unhide CC _ (unhide R1)).mono ?_
        rintro e w1 ⟨rfl, hb1⟩
        have HB1 := hide (below_on (unhide HB) hb1)
        clear hb1 E0 E1 E2 E3 E4 E5 E6 E7 CC
        go_wp2
        go_roundw
        case rel => exact ⟨i + 1, by omega, by go_num, hide (by rw [unhide TK, List.map_append, List.any_append, unhide EA]; simp only [List.map_cons, List.map_nil, List.any_cons, List.any_nil]; rw [hp]; rfl), HB1⟩
        case measure => simp [intOf]; omega
      · rw [hp] at CC
        have AN := hide (show (l.map Prod.snd).any lgP = true from List.any_eq_true.2 ⟨y.2, List.mem_map.2 ⟨y, unhide MY, rfl⟩, hp⟩)
        go_wp2_with fail
        refine (unhide CC _ (unhide R1)).mono ?_
        rintro e w1 ⟨rfl, hb1⟩
        have HB1 := hide (below_on (unhide HB) hb1)
        clear hb1 E0 E1 E2 E3 E4 E5 E6 E7 CC
        go_wp2
        go_ret
        exact ⟨_, rfl, unhide HB1, by rw [unhide AN]; exact decide_eq_true (by omega), by omega, by omega⟩
    · obtain rfl : i = n := by omega
      have EL := hide (show (l.map Prod.snd).any lgP = false from by have := unhide EA; rw [← unhide HN, List.take_length] at this; exact this)
      go_wp2
      go_ret
      exact ⟨_, rfl, unhide HB, by rw [unhide EL]; rfl, by omega, by omega⟩
theorem containsLgP (a : Option Addr) (n c : Nat) (l : List (SV × SD)) (w : World) (h : PArS w a n c l) :
    Calls Tryz.prog 106 #[.slice a n c, .func (Fn.func 133) #[] #[]] w fun e w' => e = .returned (.bool ((l.map Prod.snd).any lgP)) ∧ Below w.heap.size w w' := by
  have HS := hide h
  clear h
  go_enter Tryz.func106, Tryz.ntmps106
  go_wp2_with fail
  refine (indexLgP a n c l _ (unhide HS)).mono ?_
  rintro e w1 ⟨r, rfl, hb1, hr, r0, r1⟩
  have HB1 := hide hb1
  have HR := hide hr
  clear hb1 hr
  go_wp2
  go_ret
  exact ⟨by rw [← unhide HR]; rfl, unhide HB1⟩

theorem manyI (n : Nat) (w : World) (hm : n ≤ maxLen) : Calls Tryz.prog 86 #[.int .i64 (n : Int)] w fun e w' => e = .returned (.bool (many n)) ∧ w' = w := by
  unfold maxLen at hm
  unfold many
  by_cases c1 : 1 ≤ n
  · have b1 : (1 : Int) ≤ (n : Int) := by omega
    by_cases c2 : n ≤ 5
    · have b2 : (n : Int) ≤ 5 := by omega
      rw [decide_eq_true c1, decide_eq_true c2]
      go_enter Tryz.func86, Tryz.ntmps86
      go_wp2
      go_ret
      exact ⟨rfl, rfl⟩
    · have b2 : ¬ ((n : Int) ≤ 5) := by omega
      have b3 : (5 : Int) < (n : Int) := by omega
      rw [decide_eq_true c1, decide_eq_false c2]
      go_enter Tryz.func86, Tryz.ntmps86
      go_wp2
      go_ret
      exact ⟨rfl, rfl⟩
  · have b1 : ¬ ((1 : Int) ≤ (n : Int)) := by omega
    have b3 : (n : Int) < 1 := by omega
    rw [decide_eq_false c1]
    go_enter Tryz.func86, Tryz.ntmps86
    go_wp2
    go_ret
    exact ⟨rfl, rfl⟩

set_option maxHeartbeats 2000000 in
theorem curveF (a : Option Addr) (n c : Nat) (l : List (SV × SD)) (w : World) (h : PArS w a n c l) :
    Calls Tryz.prog 74 #[.slice a n c] w fun e w' => e = .returned (.bool (many n && !(l.map Prod.snd).any lgP)) ∧ Below w.heap.size w w' := by
  have HS := hide h
  have hm : n ≤ maxLen := Nat.le_trans h.cap h.top
  have hl := h.len
  clear h
  have C1 := hide (fun w1 (k : PArS w1 a n c l) => manyI n w1 hm)
  have C2 := hide (fun w1 (k : PArS w1 a n c l) => containsLgP a n c l w1 k)
  unfold maxLen at hm
  obtain ⟨z, hz⟩ : ∃ z, z = (l.map Prod.snd).any lgP := ⟨_, rfl⟩
  rw [← hz] at C2 ⊢
  clear hz
  cases hp : many n
  · rw [hp] at C1
    go_enter Tryz.func74, Tryz.ntmps74
    go_wp2_with fail
    refine (unhide C1 _ (unhide HS)).mono ?_
    rintro e w1 ⟨rfl, rfl⟩
    go_wp2
    go_ret
    exact ⟨rfl, Below.refl _ _⟩
  · rw [hp] at C1
    go_enter Tryz.func74, Tryz.ntmps74
    go_wp2_with fail
    refine (unhide C1 _ (unhide HS)).mono ?_
    rintro e w1 ⟨rfl, rfl⟩
    go_wp2_with fail
    refine (unhide C2 _ (unhide HS)).mono ?_
    rintro e w2 ⟨rfl, hb⟩
    have HB := hide hb
    clear hb
    go_wp2
    go_ret
    exact ⟨rfl, unhide HB⟩

set_option maxHeartbeats 2000000 in
theorem GoodCI (a : Option Addr) (n c : Nat) (l : List (SV × SD)) (w : World) (h : PArS w a n c l) :
    Calls Tryz.prog 52 #[.slice a n c] w fun e w' => e = .returned (.bool (gCv (l.map Prod.snd))) ∧ Below w.heap.size w w' := by
  have HS := hide h
  have hm : n ≤ maxLen := Nat.le_trans h.cap h.top
  have hl := h.len
  clear h
  have C1 := hide (fun w1 (k : PArS w1 a n c l) => curveF a n c l w1 k)
  have C2 := hide (fun w1 (k : PArS w1 a n c l) => containsBdP a n c l w1 k)
  rw [gCv_parts, List.length_map, hl]
  clear hl
  obtain ⟨z, hz⟩ : ∃ z, z = (l.map Prod.snd).any bdP := ⟨_, rfl⟩
  rw [← hz] at C2 ⊢
  clear hz
  cases hp : (many n && !(l.map Prod.snd).any lgP)
  · rw [hp] at C1
    go_enter Tryz.func52, Tryz.ntmps52
    go_wp2_with fail
    refine (unhide C1 _ (unhide HS)).mono ?_
    rintro e w1 ⟨rfl, hb⟩
    have HB := hide hb
    clear hb
    go_wp2
    go_ret
    exact ⟨rfl, unhide HB⟩
  · rw [hp] at C1
    go_enter Tryz.func52, Tryz.ntmps52
    go_wp2_with fail
    refine (unhide C1 _ (unhide HS)).mono ?_
    rintro e w1 ⟨rfl, hb⟩
    have HB := hide hb
    clear hb
    go_wp2_with fail
    refine (unhide C2 _ ((unhide HS).later (unhide HB))).mono ?_
    rintro e w2 ⟨rfl, hb⟩
    replace HB := hide (below_on (unhide HB) hb)
    clear hb
    go_wp2
    go_ret
    exact ⟨rfl, unhide HB⟩

set_option maxHeartbeats 2000000 in
theorem GoodCS (a : Option Addr) (n c : Nat) (l : List (SV × SD)) (w : World) (h : PArS w a n c l) :
    Calls Tryz.prog 57 #[.slice a n c] w fun e w' => e = .returned (.bool (gCv (l.map Prod.snd))) ∧ Below w.heap.size w w' := by
  have HS := hide h
  have HN := hide h.len
  have hm : n ≤ maxLen := Nat.le_trans h.cap h.top
  have hl := h.len
  clear h
  unfold maxLen at hm
  have C1 := hide (fun w1 => l1In_any (n : Int) 1 5 w1)
  have EM : Hid ((decide ((1 : Int) ≤ (n : Int)) && decide ((n : Int) ≤ 5)) = many n) := hide (by unfold many; congr 1 <;> (apply decide_eq_decide.2; omega))
  rw [unhide EM] at C1
  unfold gCv
  rw [List.length_map, hl]
  clear hl EM
  go_enter Tryz.func57, Tryz.ntmps57
  go_wp2
  go_loopw [7] (fun iv wr => ∃ (i : Nat), i ≤ n ∧ iv = .int .i64 i ∧ Hid (((l.take i).map Prod.snd).all gPt2 = true) ∧ Hid (Below w.heap.size w wr)) (fun iv _ => n - (intOf iv).toNat)
  case atStart => exact ⟨0, Nat.zero_le _, rfl, hide (by simp), hide (Below.refl _ _)⟩
  case round =>
    obtain ⟨i, hi, rfl, EA, HB⟩ := hrel
    by_cases hlt : i < n
    · have hlt' : (i : Int) < (n : Int) := by omega
      rcases (unhide HS).at_ with e | ⟨b, off, rfl, hb, hc⟩
      · exact absurd (unhide HN) (by rw [e]; simp; omega)
      have e0 := hc i (by rw [unhide HN]; exact hlt)
      obtain ⟨y, hy⟩ : ∃ y, y = l[i]'(by rw [unhide HN]; exact hlt) := ⟨_, rfl⟩
      rw [← hy] at e0
      have MY : Hid (y ∈ l) := hide (by rw [hy]; exact List.getElem_mem _)
      have EY := hide hy
      clear hy
      have E0 : wr.cell? ⟨b, off + i * 8, none⟩ = some (.bool y.1.lo.num.g) := ((unhide HB).cell (p := ⟨b, off + i * 8, none⟩) hb).trans (e0.1)
      have E1 : wr.cell? ⟨b, off + i * 8 + 1, none⟩ = some (.slice y.1.lo.num.a y.1.lo.num.n y.1.lo.num.c) := ((unhide HB).cell (p := ⟨b, off + i * 8 + 1, none⟩) hb).trans (e0.2.1)
      have E2 : wr.cell? ⟨b, off + i * 8 + 2, none⟩ = some (.bool y.1.lo.den.g) := ((unhide HB).cell (p := ⟨b, off + i * 8 + 2, none⟩) hb).trans (e0.2.2.1)
      have E3 : wr.cell? ⟨b, off + i * 8 + 3, none⟩ = some (.slice y.1.lo.den.a y.1.lo.den.n y.1.lo.den.c) := ((unhide HB).cell (p := ⟨b, off + i * 8 + 3, none⟩) hb).trans (e0.2.2.2.1)
      have E4 : wr.cell? ⟨b, off + i * 8 + 4, none⟩ = some (.bool y.1.hi.num.g) := ((unhide HB).cell (p := ⟨b, off + i * 8 + 4, none⟩) hb).trans (e0.2.2.2.2.1)
      have E5 : wr.cell? ⟨b, off + i * 8 + 5, none⟩ = some (.slice y.1.hi.num.a y.1.hi.num.n y.1.hi.num.c) := ((unhide HB).cell (p := ⟨b, off + i * 8 + 5, none⟩) hb).trans (e0.2.2.2.2.2.1)
      have E6 : wr.cell? ⟨b, off + i * 8 + 6, none⟩ = some (.bool y.1.hi.den.g) := ((unhide HB).cell (p := ⟨b, off + i * 8 + 6, none⟩) hb).trans (e0.2.2.2.2.2.2.1)
      have E7 : wr.cell? ⟨b, off + i * 8 + 7, none⟩ = some (.slice y.1.hi.den.a y.1.hi.den.n y.1.hi.den.c) := ((unhide HB).cell (p := ⟨b, off + i * 8 + 7, none⟩) hb).trans (e0.2.2.2.2.2.2.2)
      clear e0 hc
      have TK : Hid (l.take (i + 1) = l.take i ++ [y]) := hide (by have h := take_succS (l := l) (i := i) (by rw [unhide HN]; exact hlt); rw [← unhide EY] at h; exact h)
      have al : Below wr.heap.size wr (wr.alloc (.cells #[.bool y.1.lo.num.g, .slice y.1.lo.num.a y.1.lo.num.n y.1.lo.num.c, .bool y.1.lo.den.g, .slice y.1.lo.den.a y.1.lo.den.n y.1.lo.den.c, .bool y.1.hi.num.g, .slice y.1.hi.num.a y.1.hi.num.n y.1.hi.num.c, .bool y.1.hi.den.g, .slice y.1.hi.den.a y.1.hi.den.n y.1.hi.den.c] 43)) := (Below.refl _ _).alloc (Nat.le_refl _) _
      have R1 := hide ((((unhide HS).rd y (unhide MY)).later (unhide HB)).later al)
      have HA := hide (below_on (unhide HB) al)
      clear al
      have CC := hide (fun w1 (k : AllAr w1 [(y.1.lo.num, y.2.lo.num), (y.1.lo.den, y.2.lo.den), (y.1.hi.num, y.2.hi.num), (y.1.hi.den, y.2.hi.den)]) => ptS2 y.1 y.2 w1 k)
      cases hp : gPt2 y.2
      · rw [hp] at CC
        have AN := hide (show (l.map Prod.snd).all gPt2 = false from List.all_eq_false.2 ⟨y.2, List.mem_map.2 ⟨y, unhide MY, rfl⟩, by rw [hp]; simp⟩)
        go_wp2_with fail
        refine (unhide CC _ (unhide R1)).mono ?_
        rintro e w1 ⟨rfl, hb1⟩
        have HB1 := hide (below_on (unhide HA) hb1)
        clear hb1 E0 E1 E2 E3 E4 E5 E6 E7 CC
        go_wp2
        go_ret
        exact ⟨by rw [unhide AN, Bool.and_false]; rfl, unhide HB1⟩
      · rw [hp] at CC
        go_wp2_with fail
        refine (unhide CC _ (unhide R1)).mono ?_
        rintro e w1 ⟨rfl, hb1⟩
        have HB1 := hide (below_on (unhide HA) hb1)
        clear hb1 E0 E1 E2 E3 E4 E5 E6 E7 CC
        go_wp2
        go_roundw
        case rel => exact ⟨i + 1, by omega, by go_num, hide (by rw [unhide TK, List.map_append, List.all_append, unhide EA]; simp only [List.map_cons, List.map_nil, List.all_cons, List.all_nil]; rw [hp]; rfl), HB1⟩
        case measure => simp [intOf]; omega
    · obtain rfl : i = n := by omega
      have EL := hide (show (l.map Prod.snd).all gPt2 = true from by have := unhide EA; rw [← unhide HN, List.take_length] at this; exact this)
      go_wp2_with fail
      refine (unhide C1 _).mono ?_
      rintro e w1 ⟨rfl, rfl⟩
      go_wp2
      go_ret
      exact ⟨by rw [unhide EL, Bool.and_true]; rfl, unhide HB⟩
end Go.Proofs.YthmpikagenodjaaGreat
namespace Go.Proofs.YthmpikagenodjaaGreat
open Go.RowKit
set_option linter.unusedVariables false
set_option maxRecDepth 100000
set_option linter.unusedSimpArgs false

set_option maxHeartbeats 2000000 in
theorem spanFits_v (v : SV) (w : World) (m1 : v.lo.den.n ≤ maxLen) (m2 : v.hi.den.n ≤ maxLen) :
    Calls Tryz.prog 79 #[.agg #[.bool v.lo.num.g, .slice v.lo.num.a v.lo.num.n v.lo.num.c, .bool v.lo.den.g, .slice v.lo.den.a v.lo.den.n v.lo.den.c, .bool v.hi.num.g, .slice v.hi.num.a v.hi.num.n v.hi.num.c, .bool v.hi.den.g, .slice v.hi.den.a v.hi.den.n v.hi.den.c]] w fun e w' => e = .returned (.bool (decide ((v.lo.den.n ≠ 0 ∧ v.lo.num.n ≤ 40 ∧ v.lo.den.n ≤ 40) ∧ (v.hi.den.n ≠ 0 ∧ v.hi.num.n ≤ 40 ∧ v.hi.den.n ≤ 40)))) ∧ Below w.heap.size w w' := by
  cases c1 : decide (v.lo.den.n ≠ 0 ∧ v.lo.num.n ≤ 40 ∧ v.lo.den.n ≤ 40)
  · have F1 := hide (fun w1 => fitsI v.lo w1 m1)
    have F2 := hide (fun w1 => fitsI v.hi w1 m2)
    rw [c1] at F1
    rw [show decide ((v.lo.den.n ≠ 0 ∧ v.lo.num.n ≤ 40 ∧ v.lo.den.n ≤ 40) ∧ (v.hi.den.n ≠ 0 ∧ v.hi.num.n ≤ 40 ∧ v.hi.den.n ≤ 40)) = false from decide_eq_false (fun h => absurd h.1 (of_decide_eq_false c1))]
    clear c1
    have B0 := hide (show Below w.heap.size w (w.alloc (.cells #[.bool v.lo.num.g, .slice v.lo.num.a v.lo.num.n v.lo.num.c, .bool v.lo.den.g, .slice v.lo.den.a v.lo.den.n v.lo.den.c, .bool v.hi.num.g, .slice v.hi.num.a v.hi.num.n v.hi.num.c, .bool v.hi.den.g, .slice v.hi.den.a v.hi.den.n v.hi.den.c] 43)) from ((Below.refl _ _).alloc (by simp) _))
    go_enter Tryz.func79, Tryz.ntmps79
    go_wp2_with fail
    refine (unhide F1 _).mono ?_
    rintro e w1 ⟨rfl, hb⟩
    have HB := hide (below_on (unhide B0) hb)
    clear hb
    go_wp2
    go_ret
    exact ⟨rfl, unhide HB⟩
  cases c2 : decide (v.hi.den.n ≠ 0 ∧ v.hi.num.n ≤ 40 ∧ v.hi.den.n ≤ 40)
  · have F1 := hide (fun w1 => fitsI v.lo w1 m1)
    have F2 := hide (fun w1 => fitsI v.hi w1 m2)
    rw [c1] at F1
    rw [c2] at F2
    rw [show decide ((v.lo.den.n ≠ 0 ∧ v.lo.num.n ≤ 40 ∧ v.lo.den.n ≤ 40) ∧ (v.hi.den.n ≠ 0 ∧ v.hi.num.n ≤ 40 ∧ v.hi.den.n ≤ 40)) = false from decide_eq_false (fun h => absurd h.2 (of_decide_eq_false c2))]
    clear c1 c2
    have B0 := hide (show Below w.heap.size w (w.alloc (.cells #[.bool v.lo.num.g, .slice v.lo.num.a v.lo.num.n v.lo.num.c, .bool v.lo.den.g, .slice v.lo.den.a v.lo.den.n v.lo.den.c, .bool v.hi.num.g, .slice v.hi.num.a v.hi.num.n v.hi.num.c, .bool v.hi.den.g, .slice v.hi.den.a v.hi.den.n v.hi.den.c] 43)) from ((Below.refl _ _).alloc (by simp) _))
    go_enter Tryz.func79, Tryz.ntmps79
    go_wp2_with fail
    refine (unhide F1 _).mono ?_
    rintro e w1 ⟨rfl, hb⟩
    have k0_4 : w1.cell? ⟨w.heap.size, 4, none⟩ = some (.bool v.hi.num.g) := cell_later hb (by simp [go_sem])
    have k0_5 : w1.cell? ⟨w.heap.size, 5, none⟩ = some (.slice v.hi.num.a v.hi.num.n v.hi.num.c) := cell_later hb (by simp [go_sem])
    have k0_6 : w1.cell? ⟨w.heap.size, 6, none⟩ = some (.bool v.hi.den.g) := cell_later hb (by simp [go_sem])
    have k0_7 : w1.cell? ⟨w.heap.size, 7, none⟩ = some (.slice v.hi.den.a v.hi.den.n v.hi.den.c) := cell_later hb (by simp [go_sem])
    have HB := hide (below_on (unhide B0) hb)
    clear hb
    go_wp2_with fail
    refine (unhide F2 _).mono ?_
    rintro e w2 ⟨rfl, hb⟩
    clear k0_4 k0_5 k0_6 k0_7
    replace HB := hide (below_on (unhide HB) hb)
    clear hb
    go_wp2
    go_ret
    exact ⟨rfl, unhide HB⟩
  · have F1 := hide (fun w1 => fitsI v.lo w1 m1)
    have F2 := hide (fun w1 => fitsI v.hi w1 m2)
    rw [c1] at F1
    rw [c2] at F2
    rw [show decide ((v.lo.den.n ≠ 0 ∧ v.lo.num.n ≤ 40 ∧ v.lo.den.n ≤ 40) ∧ (v.hi.den.n ≠ 0 ∧ v.hi.num.n ≤ 40 ∧ v.hi.den.n ≤ 40)) = true from decide_eq_true ⟨of_decide_eq_true c1, of_decide_eq_true c2⟩]
    clear c1 c2
    have B0 := hide (show Below w.heap.size w (w.alloc (.cells #[.bool v.lo.num.g, .slice v.lo.num.a v.lo.num.n v.lo.num.c, .bool v.lo.den.g, .slice v.lo.den.a v.lo.den.n v.lo.den.c, .bool v.hi.num.g, .slice v.hi.num.a v.hi.num.n v.hi.num.c, .bool v.hi.den.g, .slice v.hi.den.a v.hi.den.n v.hi.den.c] 43)) from ((Below.refl _ _).alloc (by simp) _))
    go_enter Tryz.func79, Tryz.ntmps79
    go_wp2_with fail
    refine (unhide F1 _).mono ?_
    rintro e w1 ⟨rfl, hb⟩
    have k0_4 : w1.cell? ⟨w.heap.size, 4, none⟩ = some (.bool v.hi.num.g) := cell_later hb (by simp [go_sem])
    have k0_5 : w1.cell? ⟨w.heap.size, 5, none⟩ = some (.slice v.hi.num.a v.hi.num.n v.hi.num.c) := cell_later hb (by simp [go_sem])
    have k0_6 : w1.cell? ⟨w.heap.size, 6, none⟩ = some (.bool v.hi.den.g) := cell_later hb (by simp [go_sem])
    have k0_7 : w1.cell? ⟨w.heap.size, 7, none⟩ = some (.slice v.hi.den.a v.hi.den.n v.hi.den.c) := cell_later hb (by simp [go_sem])
    have HB := hide (below_on (unhide B0) hb)
    clear hb
    go_wp2_with fail
    refine (unhide F2 _).mono ?_
    rintro e w2 ⟨rfl, hb⟩
    clear k0_4 k0_5 k0_6 k0_7
    replace HB := hide (below_on (unhide HB) hb)
    clear hb
    go_wp2
    go_ret
    exact ⟨rfl, unhide HB⟩

end Go.Proofs.YthmpikagenodjaaGreat
