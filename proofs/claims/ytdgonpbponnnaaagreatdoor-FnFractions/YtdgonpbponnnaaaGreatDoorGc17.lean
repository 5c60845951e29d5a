/- Boxes of fractions, signs, good answers. No condition beyond those typed. Written by mkfrw17.py. -/
import Derived.Test.YtdgonpbponnnaaaGreatDoorEc17
namespace Go.Proofs.YtdgonpbponnnaaaGreatDoor
open Go.RowKit
set_option linter.unusedVariables false
set_option maxRecDepth 100000
set_option linter.unusedSimpArgs false

namespace Aq
structure BxQ (w : World) (G : Nat) (b : QV) : Prop where
  c0 : w.cell? ⟨G, 0, none⟩ = some (.bool b.num.g)
  c1 : w.cell? ⟨G, 1, none⟩ = some (.slice b.num.a b.num.n b.num.c)
  c2 : w.cell? ⟨G, 2, none⟩ = some (.bool b.den.g)
  c3 : w.cell? ⟨G, 3, none⟩ = some (.slice b.den.a b.den.n b.den.c)
theorem BxQ.later {w w' : World} {G : Nat} {b : QV} (h : BxQ w G b) (hb : Below w.heap.size w w') : BxQ w' G b := ⟨cell_later hb h.c0, cell_later hb h.c1, cell_later hb h.c2, cell_later hb h.c3⟩
theorem BxQ.new {w : World} {b : QV} {t : TypeId} : BxQ (w.alloc (.cells #[.bool b.num.g, .slice b.num.a b.num.n b.num.c, .bool b.den.g, .slice b.den.a b.den.n b.den.c] t)) w.heap.size b := ⟨by simp [go_sem], by simp [go_sem], by simp [go_sem], by simp [go_sem]⟩
theorem BxQ.new2 {w : World} {b : QV} {t : TypeId} {o : Obj} : BxQ ((w.alloc o).alloc (.cells #[.bool b.num.g, .slice b.num.a b.num.n b.num.c, .bool b.den.g, .slice b.den.a b.den.n b.den.c] t)) (w.heap.size + 1) b := ⟨by simp [go_sem], by simp [go_sem], by simp [go_sem], by simp [go_sem]⟩
theorem good_sum {a b s : QD} (h : AnsQ (gQ a && gQ b) (lowN (nQ a * dQ b + nQ b * dQ a) (dQ a * dQ b)) (lowD (nQ a * dQ b + nQ b * dQ a) (dQ a * dQ b)) s true) : gQ s = true := by
  have hp := (Bool.and_eq_true _ _).mp (ans_P h)
  exact (ansq_yes (ansq_add hp.1 hp.2 h)).2.good
theorem good_quo {a b q : QD} (h : AnsQ ((gQ a && gQ b) && decide (nQ b ≠ 0)) (lowN (nQ a * dQ b) (dQ a * nQ b)) (lowD (nQ a * dQ b) (dQ a * nQ b)) q true) : gQ q = true := by
  have hP := (Bool.and_eq_true _ _).mp (ans_P h)
  have hp := (Bool.and_eq_true _ _).mp hP.1
  have nb := of_decide_eq_true hP.2
  have b0 : vQ b ≠ 0 := fun e => by
    have := (Fq.of hp.2).vals.1
    rw [e] at this
    exact nb this
  rw [(Fq.of hp.1).vals.1, (Fq.of hp.1).vals.2, (Fq.of hp.2).vals.1, (Fq.of hp.2).vals.2, (divR17 b0).1, (divR17 b0).2] at h
  exact (ansq_yes h).2.good
theorem good_of {x y : Int} {r : QD} (h : AnsQ ((decide (-4611686018427387904 ≤ x ∧ x ≤ 4611686018427387904) && decide (-4611686018427387904 ≤ y ∧ y ≤ 4611686018427387904)) && decide (y ≠ 0)) (lowN x y) (lowD x y) r true) : gQ r = true := by
  have hP := (Bool.and_eq_true _ _).mp (ans_P h)
  have nb := of_decide_eq_true hP.2
  rw [(lowR nb).1, (lowR nb).2] at h
  exact (ansq_yes h).2.good
theorem diff_sign {a b d : QD} {c : Int} {ok : Bool} (h : AnsQ (gQ a && gQ b) (lowN (nQ a * dQ b - nQ b * dQ a) (dQ a * dQ b)) (lowD (nQ a * dQ b - nQ b * dQ a) (dQ a * dQ b)) d true) (k : KQ (gQ a && gQ b) (nQ a * dQ b) (nQ b * dQ a) c ok) : d.num.g = decide (c < 0) := by
  have hP := ans_P h
  have hp := (Bool.and_eq_true _ _).mp hP
  rcases k with ⟨_, ts, us, h1, h2, hc, _⟩ | ⟨h0, _⟩
  · rw [cmpB_val h1 h2] at hc
    have fs := (ansq_yes (ansq_sub hp.1 hp.2 h)).2
    rw [fs.num.sg, hc]
    rw [(Fq.of hp.1).vals.1, (Fq.of hp.1).vals.2, (Fq.of hp.2).vals.1, (Fq.of hp.2).vals.2]
    have p1 := dR_pos (vQ a)
    have p2 := dR_pos (vQ b)
    have e : nR (vQ a - vQ b) < 0 ↔ nR (vQ a) * dR (vQ b) < nR (vQ b) * dR (vQ a) := by
      have e1 : (vQ a - vQ b) < 0 ↔ vQ a < vQ b := by
        constructor
        · intro q; have := (Rat.add_lt_add_right (c := vQ b)).2 q; rwa [Rat.sub_add_cancel, Rat.zero_add] at this
        · intro q; have := (Rat.add_lt_add_right (c := -vQ b)).2 q; rwa [← Rat.sub_eq_add_neg, ← Rat.sub_eq_add_neg, Rat.sub_self] at this
      have e2 : nR (vQ a - vQ b) < 0 ↔ (vQ a - vQ b) < 0 := by rw [← Int.not_le, ← Rat.not_le]; exact not_congr Rat.num_nonneg
      rw [e2, e1]
      exact Rat.lt_iff _ _
    have e3 : (cmpZ (nR (vQ a) * dR (vQ b)) (nR (vQ b) * dR (vQ a)) < 0) ↔ nR (vQ a) * dR (vQ b) < nR (vQ b) * dR (vQ a) := by
      unfold cmpZ; split
      · simp; assumption
      · split <;> simp <;> omega
    exact decide_eq_decide.2 (e.trans e3.symm)
  · rw [hP] at h0; cases h0
end Aq
end Go.Proofs.YtdgonpbponnnaaaGreatDoor
