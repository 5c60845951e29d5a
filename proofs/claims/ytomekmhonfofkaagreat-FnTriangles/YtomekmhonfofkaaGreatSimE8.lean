/- Both sides' simple ways are the same ones: plain mathematics. No condition beyond those typed. -/
import Derived.Test.YtomekmhonfofkaaGreatSimS8
namespace Go.Proofs.YtomekmhonfofkaaGreat
open Go.RowKit
set_option linter.unusedVariables false
set_option maxRecDepth 100000
set_option linter.unusedSimpArgs false

theorem btw_self (a b : Int) : btw a b a = true := by
  unfold btw
  by_cases h : a ≤ b
  · simp [h]
  · have : b ≤ a := by omega
    simp [this]
theorem on_self (a b : Int × Int) : onV a b a = true := by
  unfold onV
  rw [btw_self, btw_self]
  have : crs a b a = 0 := by unfold crs; rw [Int.sub_self, Int.sub_self, Int.mul_zero, Int.mul_zero]; rfl
  simp [this]
theorem me_self (a b d : Int × Int) : meV a b a d = true := by
  unfold meV
  rw [on_self]
  simp
theorem me_symm (a b c d : Int × Int) : meV a b c d = meV c d a b := by
  unfold meV
  generalize onV a b c = x1
  generalize onV a b d = x2
  generalize onV c d a = x3
  generalize onV c d b = x4
  generalize decide (sgZ (crs a b c) * sgZ (crs a b d) < 0) = y1
  generalize decide (sgZ (crs c d a) * sgZ (crs c d b) < 0) = y2
  cases x1 <;> cases x2 <;> cases x3 <;> cases x4 <;> cases y1 <;> cases y2 <;> rfl
theorem nxt_lt {l : List (Int × Int)} {i : Nat} (h : i + 1 < l.length) : nxt l i = l.getD (i + 1) (0, 0) := by unfold nxt; rw [Nat.mod_eq_of_lt h]
theorem nxt_last {l : List (Int × Int)} {i : Nat} (h : i + 1 = l.length) : nxt l i = l.getD 0 (0, 0) := by unfold nxt; rw [h, Nat.mod_self]
theorem nxt_over {l : List (Int × Int)} (h : 3 ≤ l.length) : nxt l l.length = nxt l 0 := by unfold nxt; rw [Nat.add_mod_left]
theorem si_eq {l : List (Int × Int)} (h3 : 3 ≤ l.length) : siS l = siI l := by
  by_cases hal : Alike l
  · rw [siI_al (alB_true hal)]
    apply siS_false
    intro hs
    obtain ⟨i, j, hij, hj, he⟩ := hal
    by_cases h1 : j = i + 1
    · subst h1
      exact (hs i (by omega)).1.1 (by rw [nxt_lt (by omega)]; exact he)
    · by_cases h2 : i = 0 ∧ j + 1 = l.length
      · exact (hs j hj).1.1 (by rw [nxt_last h2.2, ← he, h2.1])
      · have hm : (j + 1) % l.length ≠ i := by
          by_cases h4 : j + 1 = l.length
          · rw [h4, Nat.mod_self]; intro e; exact h2 ⟨e.symm, h4⟩
          · rw [Nat.mod_eq_of_lt (by omega)]; omega
        have := (hs i (by omega)).2 j (by omega) hj hm
        rw [he, me_self] at this
        cases this
  · have hd : ∀ i j, i < l.length → j < l.length → l.getD i (0, 0) = l.getD j (0, 0) → i = j := by
      intro i j hi hj he
      rcases Nat.lt_trichotomy i j with h | h | h
      · exact absurd ⟨i, j, h, hj, he⟩ hal
      · exact h
      · exact absurd ⟨j, i, h, hi, he.symm⟩ hal
    have key : SimP l l.length ↔ NoAm l l.length := by
      constructor
      · intro hs i hi j hj
        unfold amV
        split
        · rename_i h1
          by_cases hl : i + 1 < l.length
          · rw [nxt_lt hl] at h1
            have := hd _ _ hl (by omega) h1
            omega
          · have hl' : i + 1 = l.length := by omega
            rw [nxt_last hl'] at h1
            have hj0 := hd _ _ (by omega) (by omega) h1
            subst hj0
            have r := (hs i hi).1
            unfold RowOk at r
            rw [hl', nxt_over h3, nxt_last hl'] at r
            rw [nxt_last hl', r.2.1, r.2.2]
            rfl
        · rename_i h1
          split
          · rename_i h2
            rw [nxt_lt (by omega)] at h2
            have hij := hd _ _ (by omega) hi h2
            subst hij
            have r := (hs j (by omega)).1
            unfold RowOk at r
            rw [nxt_lt (show j + 1 < l.length by omega)] at r
            rw [nxt_lt (show j + 1 < l.length by omega), r.2.1, r.2.2]
            rfl
          · rename_i h2
            rw [me_symm]
            refine (hs j (by omega)).2 i ?_ hi ?_
            · rcases Nat.lt_or_ge i (j + 2) with h | h
              · have : i = j + 1 := by omega
                subst this
                exact absurd (nxt_lt (by omega)) h2
              · exact h
            · intro e
              apply h1
              unfold nxt
              rw [e]
      · intro hs i hi
        refine ⟨?_, ?_⟩
        · unfold RowOk
          by_cases hl : i + 1 < l.length
          · have a := hs (i + 1) hl i (by omega)
            unfold amV at a
            have c1 : ¬ nxt l (i + 1) = l.getD i (0, 0) := by
              intro e
              by_cases h4 : i + 1 + 1 < l.length
              · rw [nxt_lt h4] at e
                have := hd _ _ h4 hi e
                omega
              · rw [nxt_last (by omega)] at e
                have := hd _ _ (by omega) hi e
                omega
            rw [if_neg c1, if_pos (nxt_lt hl)] at a
            have a' := (Bool.or_eq_false_iff).1 a
            refine ⟨?_, ?_, ?_⟩
            · intro e
              rw [nxt_lt hl] at e
              have := hd _ _ hi hl e
              omega
            · rw [nxt_lt hl]; exact a'.2
            · exact a'.1
          · have hl' : i + 1 = l.length := by omega
            have a := hs i hi 0 (by omega)
            unfold amV at a
            rw [if_pos (nxt_last hl')] at a
            have a' := (Bool.or_eq_false_iff).1 a
            rw [hl', nxt_over h3]
            refine ⟨?_, ?_, ?_⟩
            · intro e
              rw [nxt_last hl'] at e
              have := hd _ _ hi (by omega) e
              omega
            · rw [nxt_last hl']; exact a'.2
            · exact a'.1
        · intro k hk hkl hm
          have a := hs k hkl i (by omega)
          unfold amV at a
          have c1 : ¬ nxt l k = l.getD i (0, 0) := by
            intro e
            unfold nxt at e
            have := hd _ _ (Nat.mod_lt _ (by omega)) hi e
            exact hm this
          have c2 : ¬ nxt l i = l.getD k (0, 0) := by
            intro e
            rw [nxt_lt (by omega)] at e
            have := hd _ _ (by omega) hkl e
            omega
          rw [if_neg c1, if_neg c2] at a
          rw [me_symm]
          exact a
    by_cases hs : SimP l l.length
    · rw [siS_true hs, siI_true (alB_false hal) (key.1 hs)]
    · rw [siS_false hs, siI_false (fun k => hs (key.2 k))]
end Go.Proofs.YtomekmhonfofkaaGreat
