/- Fractions in lowest terms: the program's lowest and the specification's l2Make answer the same numbers. No condition beyond those typed. Written by mklow.py. -/
import Derived.Test.YtokajpeopijneaaSignV
import Derived.Test.YtokajpeopijneaaVarB
import Derived.Test.YtokajpeopijneaaDivJ
import Derived.Test.YtokajpeopijneaaDivI
namespace Go.Proofs.Ytokajpeopijneaa
open Go.RowKit
set_option linter.unusedVariables false
set_option maxRecDepth 100000
set_option linter.unusedSimpArgs false

theorem cd_other {w : World} {b o : Nat} {x : Value} (h : w.cell? ⟨b, o, none⟩ = some x) : w.drew.cell? ⟨b, o, none⟩ = some x := cell_later (Below.refl _ _).drew h
theorem gcd_len {gs : List Int} {N D : Int} {n : Nat} (h : Nm gs ((Nat.gcd N.natAbs D.natAbs : Nat) : Int)) (hl : gs.length = n) (hD : D ≠ 0) (k : Bd D 400000) : 1 ≤ n ∧ n ≤ 400000 := by
  have hg := gcd_pos_right (N := N) hD
  have hd : Nat.gcd N.natAbs D.natAbs ≤ D.natAbs := Nat.le_of_dvd (by omega) (Nat.gcd_dvd_right _ _)
  subst hl
  constructor
  · have := h.nil_iff
    by_cases e : gs = []
    · have := this.1 e; omega
    · have : gs.length ≠ 0 := fun e0 => e (List.length_eq_zero_iff.1 e0)
      omega
  · exact Nm.len_le (V := ((Nat.gcd N.natAbs D.natAbs : Nat) : Int)) (by simpa using h) (k.le (by simp; omega))

theorem outN_fin {w wN W : World} {R : Nat} {b : BV} {xs : List Int} {V : Int} (hR : w.heap.size ≤ R) (hb : Below w.heap.size w wN) (bt : But R (R + 1) wN W)
    (ho : AllOwn (R + 1) wN.heap.size wN [(b, ⟨decide (V < 0), xs⟩)]) (ha : AllAr wN [(b, ⟨decide (V < 0), xs⟩)]) (h1 : Nm xs V.natAbs) : OutN w V (.returned (.agg #[.bool b.g, .slice b.a b.n b.c])) W :=
  ⟨b, xs, rfl, bt.below hb hR hb.size, (own_fin bt ho (Nat.le_refl _)).wide (by omega) bt.size, ar_fin bt ho ha (Nat.le_refl _), h1⟩
theorem quot_len {zs rs : List Int} {X Y : Int} {N : Int} {n m : Nat} (h : Nm zs (X / Y)) (h' : Nm rs (X % Y)) (k : X = N.natAbs) (hn : zs.length = n) (hm : rs.length = m) (hY : 0 < Y) (kb : Bd N 400000) : n ≤ 400000 ∧ m ≤ 400000 := by
  subst k
  have h1 : (N.natAbs : Int) / Y ≤ N.natAbs := Int.ediv_le_self _ (by omega)
  have h2 : 0 ≤ (N.natAbs : Int) / Y := Int.ediv_nonneg (by omega) (by omega)
  have h3 : (N.natAbs : Int) % Y ≤ N.natAbs := by have e1 := Int.emod_add_mul_ediv (N.natAbs : Int) Y; have e2 := Int.mul_nonneg (show 0 ≤ Y by omega) h2; omega
  have h4 : 0 ≤ (N.natAbs : Int) % Y := Int.emod_nonneg _ (by omega)
  subst hn hm
  exact ⟨Nm.len_le (V := (N.natAbs : Int) / Y) (by rw [Int.natAbs_of_nonneg h2]; exact h) (kb.le (by omega)), Nm.len_le (V := (N.natAbs : Int) % Y) (by rw [Int.natAbs_of_nonneg h4]; exact h') (kb.le (by omega))⟩
/-- The quotient and the rest, with signs. -/
def OutDv (w : World) (N D : Int) (e : Ending) (w' : World) : Prop :=
  ∃ x y : BV, e = .returned (.tuple #[.agg #[.bool x.g, .slice x.a x.n x.c], .agg #[.bool y.g, .slice y.a y.n y.c]]) ∧ Below w.heap.size w w' ∧ Ow w.heap.size w'.heap.size w' x (sU (!(decide (N < 0) == decide (D < 0))) ((N.natAbs : Int) / (D.natAbs : Int))) ∧ Ow w.heap.size w'.heap.size w' y (sU (decide (N < 0)) ((N.natAbs : Int) % (D.natAbs : Int)))
end Go.Proofs.Ytokajpeopijneaa
