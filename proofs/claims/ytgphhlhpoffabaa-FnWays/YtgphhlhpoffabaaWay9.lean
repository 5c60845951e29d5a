/- What the law of split ways rests on: both parts are ways, they go round as often as the whole, and have its area. No condition beyond those typed. Written by hand. -/
import Derived.Test.YtgphhlhpoffabaaSplA
import Derived.Test.YtgphhlhpoffabaaDrw9
import Derived.Test.YtgphhlhpoffabaaIs9
import Derived.Test.YtgphhlhpoffabaaIb9
namespace Go.Proofs.Ytgphhlhpoffabaa
open Go.RowKit
set_option linter.unusedVariables false
set_option maxRecDepth 100000
set_option linter.unusedSimpArgs false

theorem sp_parts {l : List (Int × Int)} {x y : Int} (h : spB l x y = true) : wayB l = true ∧ ∃ X Y : Nat, x = (X : Int) ∧ y = (Y : Int) ∧ X + 2 ≤ Y ∧ Y < l.length ∧ Y - X + 2 ≤ l.length := by
  have hg : wayB l = true := by unfold spB at h; simp at h; exact h.1
  refine ⟨hg, ?_⟩
  rw [spB_cs hg rfl] at h
  unfold csB at h
  simp at h
  exact ⟨x.toNat, y.toNat, by omega, by omega, by omega, by omega, by omega⟩
theorem way_of {l : List (Int × Int)} (h1 : 3 ≤ l.length) (h2 : l.length ≤ 12) (h : ∀ p ∈ l, gPt p = true) : wayB l = true := by
  unfold wayB inR
  simp only [Bool.and_eq_true, decide_eq_true_eq, List.all_eq_true]
  exact ⟨⟨by omega, by omega⟩, h⟩
theorem sp_way {l : List (Int × Int)} {x y : Int} (h : spB l x y = true) : wayB (sp1 l x y) = true ∧ wayB (sp2 l x y) = true := by
  obtain ⟨hg, X, Y, rfl, rfl, h1, h2, h3⟩ := sp_parts h
  have gd := way_good9 hg
  have ln := (way_parts hg).1
  unfold sp1 sp2
  rw [h]
  simp only [if_true, Int.toNat_natCast]
  refine ⟨way_of (by simp; omega) (by simp; omega) (fun p hp => gd p (List.mem_of_mem_drop (List.mem_of_mem_take hp))), way_of (by simp; omega) (by simp; omega) (fun p hp => ?_)⟩
  rcases List.mem_append.1 hp with hp | hp
  · exact gd p (List.mem_of_mem_drop hp)
  · exact gd p (List.mem_of_mem_take hp)
theorem sp_wind {l : List (Int × Int)} {x y : Int} (h : spB l x y = true) (q : Int × Int) : wiS (sp1 l x y) q (sp1 l x y).length + wiS (sp2 l x y) q (sp2 l x y).length = wiS l q l.length := by
  obtain ⟨hg, X, Y, rfl, rfl, h1, h2, h3⟩ := sp_parts h
  have := wi_split l q X Y (by omega) h2
  unfold sp1 sp2
  rw [h]
  simp only [if_true, Int.toNat_natCast]
  exact this
theorem sp_area {l : List (Int × Int)} {x y : Int} (h : spB l x y = true) : arS (sp1 l x y) (sp1 l x y).length + arS (sp2 l x y) (sp2 l x y).length = arS l l.length := by
  obtain ⟨hg, X, Y, rfl, rfl, h1, h2, h3⟩ := sp_parts h
  have := ar_split l X Y (by omega) h2
  unfold sp1 sp2
  rw [h]
  simp only [if_true, Int.toNat_natCast]
  exact this
/-- What the law wants of a way that is split, letters for the values. -/
structure WyF (l L1 L2 : List (Int × Int)) : Prop where
  g0 : wayB l = true
  g1 : wayB L1 = true
  g2 : wayB L2 = true
  wi : ∀ q, offB L1 q = true → offB L2 q = true → offB l q = true → wnV L1 q + wnV L2 q = wnV l q
  ar : arS L1 L1.length + arS L2 L2.length = arS l l.length
theorem sp_facts {l : List (Int × Int)} {x y : Int} (h : spB l x y = true) : WyF l (sp1 l x y) (sp2 l x y) := by
  refine ⟨(sp_parts h).1, (sp_way h).1, (sp_way h).2, fun q h1 h2 h3 => ?_, sp_area h⟩
  unfold wnV
  rw [h1, h2, h3]
  exact sp_wind h q
theorem wnV_bd {l : List (Int × Int)} {q : Int × Int} (h : offB l q = true) : -12 ≤ wnV l q ∧ wnV l q ≤ 12 := by
  have hw : wayB l = true := by unfold offB gWP at h; simp at h; exact h.1.1
  have ln := (way_parts hw).1
  have := wiS_bd l q l.length
  unfold wnV
  rw [h]
  simp only [if_true]
  omega
end Go.Proofs.Ytgphhlhpoffabaa
