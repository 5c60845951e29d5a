/- Fractions in the one form that they have: what undoes what. No condition beyond those typed. Written by mkfr17.py. -/
import Derived.Test.YtdgonpbponnnaaaGreatDoorProdA
import Derived.Test.YtdgonpbponnnaaaGreatDoorRatI
import Derived.Test.YtdgonpbponnnaaaGreatDoorRq12
namespace Go.Proofs.YtdgonpbponnnaaaGreatDoor
open Go.RowKit
set_option linter.unusedVariables false
set_option maxRecDepth 100000
set_option linter.unusedSimpArgs false

theorem inv_divInt17 (n d : Int) : (Rat.divInt n d)⁻¹ = Rat.divInt d n := Rat.inv_divInt n d
theorem divR17 {x y : Rat} (h : y ≠ 0) : lowN (nR x * dR y) (dR x * nR y) = nR (x / y) ∧ lowD (nR x * dR y) (dR x * nR y) = dR (x / y) := by
  have hn : nR y ≠ 0 := fun e => h (Rat.num_eq_zero.1 e)
  have e := lowR (N := nR x * dR y) (Int.mul_ne_zero (dR_ne x) hn)
  have k : Rat.divInt (nR x * dR y) (dR x * nR y) = x / y := by
    rw [← Rat.divInt_mul_divInt, nR_self, ← inv_divInt17 (nR y) (dR y), nR_self, Rat.div_def]
  rw [k] at e
  exact e
structure Fq (d : QD) (x : Rat) : Prop where
  num : Fm d.num (nR x)
  den : Fm d.den (dR x)
theorem Fq.same {d d' : QD} {x : Rat} (h : Fq d x) (k : Fq d' x) : d = d' := by
  obtain ⟨a, b⟩ := d
  obtain ⟨a', b'⟩ := d'
  have e1 := h.num.same k.num
  have e2 := h.den.same k.den
  simp only at e1 e2
  rw [e1, e2]
theorem Fq.vals {d : QD} {x : Rat} (h : Fq d x) : nQ d = nR x ∧ dQ d = dR x := ⟨h.num.sve, h.den.sve⟩
theorem Fq.good {d : QD} {x : Rat} (h : Fq d x) : gQ d = true := by
  have hp := dR_pos x
  have g2 : d.den.g = false := by rw [h.den.sg]; exact decide_eq_false (by omega)
  have nz : d.den.xs.length ≠ 0 := fun e => by have := h.den.zero.1 e; omega
  have e1 : (val d.num.xs).toNat = (nR x).natAbs := by rw [h.num.val]; omega
  have e2 : (val d.den.xs).toNat = (dR x).natAbs := by rw [h.den.val]; omega
  unfold gQ goodR
  rw [h.num.good, h.den.good, g2, decide_eq_true nz, decide_eq_true (show Nat.gcd (val d.num.xs).toNat (val d.den.xs).toNat = 1 by rw [e1, e2]; exact (nR_low x).co)]
  rfl
theorem Fq.of {d : QD} (h : gQ d = true) : Fq d (vQ d) := by
  unfold gQ goodR at h
  have h1 := (Bool.and_eq_true _ _).mp h
  have h2 := (Bool.and_eq_true _ _).mp h1.1
  have h3 := (Bool.and_eq_true _ _).mp h1.2
  have h4 := (Bool.and_eq_true _ _).mp h3.2
  have g : d.den.g = false := by simpa using h3.1
  have nz : d.den.xs.length ≠ 0 := of_decide_eq_true h4.1
  have co := of_decide_eq_true h4.2
  have fa := Fm.of h2.1
  have fb := Fm.of h2.2
  have vb := fb.val
  have sb := fb.sg
  have zb := fb.zero
  have va := fa.val
  have pos : 0 < dQ d := by
    show 0 < sv d.den.g d.den.xs
    rw [g] at sb
    have k := of_decide_eq_false sb.symm
    rw [g] at zb ⊢
    have : ¬ sv false d.den.xs = 0 := fun e => nz (zb.2 e)
    omega
  have low : Low (nQ d) (dQ d) := ⟨pos, by
    have e1 : (val d.num.xs).toNat = (nQ d).natAbs := by rw [va]; show _ = (sv d.num.g d.num.xs).natAbs; omega
    have e2 : (val d.den.xs).toNat = (dQ d).natAbs := by rw [vb]; show _ = (sv d.den.g d.den.xs).natAbs; omega
    rw [← e1, ← e2]; exact co⟩
  have e := lowR_is low
  refine ⟨?_, ?_⟩
  · show Fm d.num (nR (Rat.divInt (nQ d) (dQ d)))
    rw [← e.1]; exact fa
  · show Fm d.den (dR (Rat.divInt (nQ d) (dQ d)))
    rw [← e.2]; exact fb
theorem ansq_yes {P : Bool} {x : Rat} {d : QD} (h : AnsQ P (nR x) (dR x) d true) : P = true ∧ Fq d x := by
  rcases h with ⟨h0, zs, us, h1, h2, ⟨l1, l2, _, rfl⟩ | ⟨_, e, _⟩⟩ | ⟨_, e, _⟩
  · exact ⟨h0, ⟨rfl, h1, l1⟩, ⟨rfl, h2, l2⟩⟩
  · cases e
  · cases e
theorem ansq_fit {P : Bool} {x : Rat} {d : QD} {ok : Bool} (h : AnsQ P (nR x) (dR x) d ok) (hP : P = true) {W : QD} (hW : Fq W x) : ok = true ∧ d = W := by
  rcases h with ⟨h0, zs, us, h1, h2, ⟨l1, l2, h3, rfl⟩ | ⟨hl, _⟩⟩ | ⟨h0, _⟩
  · exact ⟨h3, Fq.same ⟨⟨rfl, h1, l1⟩, ⟨rfl, h2, l2⟩⟩ hW⟩
  · exfalso
    apply hl
    rw [h1.same hW.num.nm, h2.same hW.den.nm]
    exact ⟨hW.num.len, hW.den.len⟩
  · rw [hP] at h0; cases h0
/-- The four operations' answers in the words of rational numbers. -/
theorem ansq_add {a b d : QD} {ok : Bool} (ha : gQ a = true) (hb : gQ b = true) (h : AnsQ (gQ a && gQ b) (lowN (nQ a * dQ b + nQ b * dQ a) (dQ a * dQ b)) (lowD (nQ a * dQ b + nQ b * dQ a) (dQ a * dQ b)) d ok) : AnsQ true (nR (vQ a + vQ b)) (dR (vQ a + vQ b)) d ok := by
  rw [(Fq.of ha).vals.1, (Fq.of ha).vals.2, (Fq.of hb).vals.1, (Fq.of hb).vals.2, (addR _ _).1, (addR _ _).2, ha, hb] at h
  exact h
theorem ansq_sub {a b d : QD} {ok : Bool} (ha : gQ a = true) (hb : gQ b = true) (h : AnsQ (gQ a && gQ b) (lowN (nQ a * dQ b - nQ b * dQ a) (dQ a * dQ b)) (lowD (nQ a * dQ b - nQ b * dQ a) (dQ a * dQ b)) d ok) : AnsQ true (nR (vQ a - vQ b)) (dR (vQ a - vQ b)) d ok := by
  rw [(Fq.of ha).vals.1, (Fq.of ha).vals.2, (Fq.of hb).vals.1, (Fq.of hb).vals.2, (subR _ _).1, (subR _ _).2, ha, hb] at h
  exact h
theorem ansq_mul {a b d : QD} {ok : Bool} (ha : gQ a = true) (hb : gQ b = true) (h : AnsQ (gQ a && gQ b) (lowN (nQ a * nQ b) (dQ a * dQ b)) (lowD (nQ a * nQ b) (dQ a * dQ b)) d ok) : AnsQ true (nR (vQ a * vQ b)) (dR (vQ a * vQ b)) d ok := by
  rw [(Fq.of ha).vals.1, (Fq.of ha).vals.2, (Fq.of hb).vals.1, (Fq.of hb).vals.2, (mulR _ _).1, (mulR _ _).2, ha, hb] at h
  exact h
theorem Fq.v {d : QD} {x : Rat} (h : Fq d x) : vQ d = x := by
  unfold vQ
  rw [h.vals.1, h.vals.2, nR_self]
theorem ans_P {P : Bool} {N D : Int} {d : QD} (h : AnsQ P N D d true) : P = true := by
  rcases h with ⟨h0, _⟩ | ⟨_, e, _⟩
  · exact h0
  · cases e
/-- A sum less a number is the other one. -/
theorem fr_back {a b s d : QD} {ok : Bool} (h : AnsQ (gQ a && gQ b) (lowN (nQ a * dQ b + nQ b * dQ a) (dQ a * dQ b)) (lowD (nQ a * dQ b + nQ b * dQ a) (dQ a * dQ b)) s true) (k : AnsQ (gQ s && gQ b) (lowN (nQ s * dQ b - nQ b * dQ s) (dQ s * dQ b)) (lowD (nQ s * dQ b - nQ b * dQ s) (dQ s * dQ b)) d ok) : gQ s = true ∧ ok = true ∧ d = a := by
  have hp := (Bool.and_eq_true _ _).mp (ans_P h)
  have fs := (ansq_yes (ansq_add hp.1 hp.2 h)).2
  have k2 := ansq_sub fs.good hp.2 k
  rw [fs.v, Rat.add_sub_cancel] at k2
  exact ⟨fs.good, ansq_fit k2 rfl (Fq.of hp.1)⟩
/-- A difference and a number are the other one. -/
theorem fr_forth {a b s d : QD} {ok : Bool} (h : AnsQ (gQ a && gQ b) (lowN (nQ a * dQ b - nQ b * dQ a) (dQ a * dQ b)) (lowD (nQ a * dQ b - nQ b * dQ a) (dQ a * dQ b)) s true) (k : AnsQ (gQ s && gQ b) (lowN (nQ s * dQ b + nQ b * dQ s) (dQ s * dQ b)) (lowD (nQ s * dQ b + nQ b * dQ s) (dQ s * dQ b)) d ok) : gQ s = true ∧ ok = true ∧ d = a := by
  have hp := (Bool.and_eq_true _ _).mp (ans_P h)
  have fs := (ansq_yes (ansq_sub hp.1 hp.2 h)).2
  have k2 := ansq_add fs.good hp.2 k
  rw [fs.v, Rat.sub_add_cancel] at k2
  exact ⟨fs.good, ansq_fit k2 rfl (Fq.of hp.1)⟩
/-- A quotient times what was divided by. -/
theorem fr_times {a b q d : QD} {ok : Bool} (h : AnsQ ((gQ a && gQ b) && decide (nQ b ≠ 0)) (lowN (nQ a * dQ b) (dQ a * nQ b)) (lowD (nQ a * dQ b) (dQ a * nQ b)) q true) (k : AnsQ (gQ q && gQ b) (lowN (nQ q * nQ b) (dQ q * dQ b)) (lowD (nQ q * nQ b) (dQ q * dQ b)) d ok) : gQ q = true ∧ ok = true ∧ d = a := by
  have hP := (Bool.and_eq_true _ _).mp (ans_P h)
  have hp := (Bool.and_eq_true _ _).mp hP.1
  have nb := of_decide_eq_true hP.2
  have b0 : vQ b ≠ 0 := fun e => by
    have := (Fq.of hp.2).vals.1
    rw [e] at this
    exact nb this
  rw [(Fq.of hp.1).vals.1, (Fq.of hp.1).vals.2, (Fq.of hp.2).vals.1, (Fq.of hp.2).vals.2, (divR17 b0).1, (divR17 b0).2] at h
  have fq := (ansq_yes h).2
  have k2 := ansq_mul fq.good hp.2 k
  rw [fq.v, Rat.div_mul_cancel b0] at k2
  exact ⟨fq.good, ansq_fit k2 rfl (Fq.of hp.1)⟩
end Go.Proofs.YtdgonpbponnnaaaGreatDoor
