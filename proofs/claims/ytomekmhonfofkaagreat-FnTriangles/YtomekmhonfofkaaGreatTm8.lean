/- TurnAll and MovePts of the program. No condition beyond those typed. Written by mktm8.py. -/
import Derived.Test.YtomekmhonfofkaaGreatSeg8
namespace Go.Proofs.YtomekmhonfofkaaGreat
open Go.RowKit
set_option linter.unusedVariables false
set_option maxRecDepth 100000
set_option linter.unusedSimpArgs false

/-- Of n points that come the other way round, the first k are laid. -/
def TvM (M : List Value) (l : List (Int × Int)) (n k : Nat) : Prop := ∀ i, i < k → M[((n - i) % n) * 2]? = some (.int .i64 (l.getD i (0, 0)).1) ∧ M[((n - i) % n) * 2 + 1]? = some (.int .i64 (l.getD i (0, 0)).2)
theorem back_at {n i : Nat} (h : i < n) : (n - i) % n = if i = 0 then 0 else n - i := by
  split
  · rename_i e; subst e; simp
  · exact Nat.mod_eq_of_lt (by omega)
theorem TvM.step {M : List Value} {l : List (Int × Int)} {n k : Nat} (hM : M.length = n * 2) (hk : k < n) (h : TvM M l n k) :
    TvM ((M.set (((n - k) % n) * 2) (.int .i64 (l.getD k (0, 0)).1)).set (((n - k) % n) * 2 + 1) (.int .i64 (l.getD k (0, 0)).2)) l n (k + 1) := by
  intro i hi
  have lt := Nat.mod_lt (n - k) (show 0 < n by omega)
  by_cases e : i < k
  · have h1 := h i e
    have ne : (n - i) % n ≠ (n - k) % n := by
      rw [back_at (show i < n by omega), back_at hk]
      split <;> split <;> omega
    simp only [List.getElem?_set]
    refine ⟨?_, ?_⟩
    · rw [if_neg (by omega), if_neg (by omega)]; exact h1.1
    · rw [if_neg (by omega), if_neg (by omega)]; exact h1.2
  · obtain rfl : i = k := by omega
    simp only [List.getElem?_set, List.length_set]
    refine ⟨?_, ?_⟩
    · rw [if_neg (by omega), if_pos trivial, if_pos (by omega)]
    · rw [if_pos trivial, if_pos (by omega)]
theorem tvN_at {l : List (Int × Int)} {n j : Nat} (hn : l.length = n) (h : j < (tvN l (n - 1)).length) : (tvN l (n - 1))[j] = l.getD ((n - j) % n) (0, 0) := by
  have hl := tvN_len l (n - 1)
  match j, h with
  | 0, h => simp [tvN]
  | j + 1, h =>
    have e1 : (n - (j + 1)) % n = n - (j + 1) := Nat.mod_eq_of_lt (by omega)
    simp only [tvN, List.getElem_cons_succ, List.getElem_map, List.getElem_range, hn, e1]
    congr 1
    omega
theorem TvM.rows {M : List Value} {l : List (Int × Int)} {n : Nat} (hn : l.length = n) (h : TvM M l n n) (h0 : 0 < n) : ∀ i (h : i < (tvN l (n - 1)).length), M[i * 2]? = some (.int .i64 (tvN l (n - 1))[i].1) ∧ M[i * 2 + 1]? = some (.int .i64 (tvN l (n - 1))[i].2) := by
  intro i hi
  have hl := tvN_len l (n - 1)
  rw [tvN_at hn hi]
  have lt := Nat.mod_lt (n - i) h0
  have k := h ((n - i) % n) lt
  have e : (n - (n - i) % n) % n = i := by
    rw [back_at (show i < n by omega)]
    split
    · rename_i e; subst e; simp
    · rw [Nat.mod_eq_of_lt (by omega)]; omega
  rw [e] at k
  exact k
/-- Of n moved points the first k are laid. -/
def MvM (M : List Value) (l : List (Int × Int)) (q : Int × Int) (k : Nat) : Prop := ∀ i, i < k → M[i * 2]? = some (.int .i64 ((l.getD i (0, 0)).1 + q.1)) ∧ M[i * 2 + 1]? = some (.int .i64 ((l.getD i (0, 0)).2 + q.2))
theorem MvM.step {M : List Value} {l : List (Int × Int)} {q : Int × Int} {n k : Nat} (hM : M.length = n * 2) (hk : k < n) (h : MvM M l q k) :
    MvM ((M.set (k * 2) (.int .i64 ((l.getD k (0, 0)).1 + q.1))).set (k * 2 + 1) (.int .i64 ((l.getD k (0, 0)).2 + q.2))) l q (k + 1) := by
  intro i hi
  by_cases e : i < k
  · have h1 := h i e
    simp only [List.getElem?_set]
    refine ⟨?_, ?_⟩
    · rw [if_neg (by omega), if_neg (by omega)]; exact h1.1
    · rw [if_neg (by omega), if_neg (by omega)]; exact h1.2
  · obtain rfl : i = k := by omega
    simp only [List.getElem?_set, List.length_set]
    refine ⟨?_, ?_⟩
    · rw [if_neg (by omega), if_pos trivial, if_pos (by omega)]
    · rw [if_pos trivial, if_pos (by omega)]
theorem MvM.rows {M : List Value} {l : List (Int × Int)} {q : Int × Int} {n : Nat} (hn : l.length = n) (h : MvM M l q n) : ∀ i (h : i < (mvL l q).length), M[i * 2]? = some (.int .i64 (mvL l q)[i].1) ∧ M[i * 2 + 1]? = some (.int .i64 (mvL l q)[i].2) := by
  intro i hi
  have hi' : i < l.length := by simpa [mvL] using hi
  have k := h i (by omega)
  rw [getD_gt hi'] at k
  simpa [mvL] using k
theorem way_mv {l : List (Int × Int)} {q : Int × Int} (h : wayB l = true) : wayB (mvL l q) = (mvL l q).all gPt := by
  unfold wayB at h ⊢
  have h2 := ((Bool.and_eq_true _ _).mp h).1
  have e : (mvL l q).length = l.length := by simp [mvL]
  rw [e, h2, Bool.true_and]
end Go.Proofs.YtomekmhonfofkaaGreat
