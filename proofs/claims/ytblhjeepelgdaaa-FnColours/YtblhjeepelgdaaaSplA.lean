/- A way that is split: sums over its segments are those over both parts together: plain mathematics. No condition beyond those typed. -/
import Derived.Test.YtblhjeepelgdaaaSpl9
namespace Go.Proofs.Ytblhjeepelgdaaa
open Go.RowKit
set_option linter.unusedVariables false
set_option maxRecDepth 100000
set_option linter.unusedSimpArgs false

/-- A sum over the first k segments. -/
def cS (f : Int × Int → Int × Int → Int) (l : List (Int × Int)) : Nat → Int
  | 0 => 0
  | k + 1 => cS f l k + f (l.getD k (0, 0)) (nxt l k)
theorem cS_succ (f : Int × Int → Int × Int → Int) (l : List (Int × Int)) (k : Nat) : cS f l (k + 1) = cS f l k + f (l.getD k (0, 0)) (nxt l k) := rfl
theorem wiS_cS (l : List (Int × Int)) (p : Int × Int) : ∀ k, wiS l p k = cS (fun a b => wiT a b p) l k
  | 0 => rfl
  | k + 1 => by unfold wiS cS; rw [wiS_cS l p k]
theorem arS_cS (l : List (Int × Int)) : ∀ k, arS l k = cS (fun a b => a.1 * b.2 - b.1 * a.2) l k
  | 0 => rfl
  | k + 1 => by unfold arS cS; rw [arS_cS l k]
theorem nx_lt {l : List (Int × Int)} {i : Nat} (h : i + 1 < l.length) : nxt l i = l.getD (i + 1) (0, 0) := by unfold nxt; rw [Nat.mod_eq_of_lt h]
theorem nx_last {l : List (Int × Int)} {i : Nat} (h : i + 1 = l.length) : nxt l i = l.getD 0 (0, 0) := by unfold nxt; rw [h, Nat.mod_self]
theorem getD_mid (l : List (Int × Int)) (A m i : Nat) (h : i < m) : ((l.drop A).take m).getD i (0, 0) = l.getD (A + i) (0, 0) := by
  simp only [List.getD_eq_getElem?_getD]
  rw [List.getElem?_take_of_lt h, List.getElem?_drop]
theorem getD_two1 (l : List (Int × Int)) (Y A i : Nat) (h : i < l.length - Y) : (l.drop Y ++ l.take (A + 1)).getD i (0, 0) = l.getD (Y + i) (0, 0) := by
  simp only [List.getD_eq_getElem?_getD]
  rw [List.getElem?_append_left (by simp; omega), List.getElem?_drop]
theorem getD_two2 (l : List (Int × Int)) (Y A i : Nat) (hY : Y ≤ l.length) (h : i ≤ A) : (l.drop Y ++ l.take (A + 1)).getD (l.length - Y + i) (0, 0) = l.getD i (0, 0) := by
  simp only [List.getD_eq_getElem?_getD]
  rw [List.getElem?_append_right (by simp), List.length_drop, Nat.add_sub_cancel_left, List.getElem?_take_of_lt (by omega)]
theorem one_sum (f : Int × Int → Int × Int → Int) (l : List (Int × Int)) (A Y : Nat) (hA : A ≤ Y) (hY : Y < l.length) : ∀ k, k ≤ Y - A → cS f ((l.drop A).take (Y + 1 - A)) k = cS f l (A + k) - cS f l A
  | 0, _ => by simp [cS]
  | k + 1, hk => by
    have ih := one_sum f l A Y hA hY k (by omega)
    have hl : ((l.drop A).take (Y + 1 - A)).length = Y + 1 - A := by simp; omega
    rw [show A + (k + 1) = A + k + 1 by omega]
    rw [cS_succ, cS_succ, ih, nx_lt (by rw [hl]; omega), nx_lt (l := l) (i := A + k) (by omega), getD_mid l A _ k (by omega), getD_mid l A _ (k + 1) (by omega), show A + (k + 1) = A + k + 1 by omega]
    omega
theorem two_sum1 (f : Int × Int → Int × Int → Int) (l : List (Int × Int)) (A Y : Nat) (hY : Y < l.length) (hA : A < l.length) : ∀ k, k ≤ l.length - Y → cS f (l.drop Y ++ l.take (A + 1)) k = cS f l (Y + k) - cS f l Y
  | 0, _ => by simp [cS]
  | k + 1, hk => by
    have ih := two_sum1 f l A Y hY hA k (by omega)
    have hl : (l.drop Y ++ l.take (A + 1)).length = l.length - Y + (A + 1) := by simp; omega
    rw [show Y + (k + 1) = Y + k + 1 by omega]
    rw [cS_succ, cS_succ, ih, nx_lt (by rw [hl]; omega), getD_two1 l Y A k (by omega)]
    by_cases h : k + 1 < l.length - Y
    · rw [getD_two1 l Y A (k + 1) h, nx_lt (l := l) (i := Y + k) (by omega), show Y + (k + 1) = Y + k + 1 by omega]
      omega
    · have e : k + 1 = l.length - Y + 0 := by omega
      rw [e, getD_two2 l Y A 0 (by omega) (by omega), nx_last (l := l) (i := Y + k) (by omega)]
      omega
theorem two_sum2 (f : Int × Int → Int × Int → Int) (l : List (Int × Int)) (A Y : Nat) (hY : Y < l.length) (hA : A < l.length) : ∀ k, k ≤ A → cS f (l.drop Y ++ l.take (A + 1)) (l.length - Y + k) = cS f l l.length - cS f l Y + cS f l k
  | 0, _ => by
    have h := two_sum1 f l A Y hY hA (l.length - Y) (Nat.le_refl _)
    rw [show Y + (l.length - Y) = l.length by omega] at h
    simp [cS]
    exact h
  | k + 1, hk => by
    have ih := two_sum2 f l A Y hY hA k (by omega)
    have hl : (l.drop Y ++ l.take (A + 1)).length = l.length - Y + (A + 1) := by simp; omega
    rw [show l.length - Y + (k + 1) = l.length - Y + k + 1 by omega]
    rw [cS_succ, cS_succ, ih, nx_lt (by rw [hl]; omega), getD_two2 l Y A k (by omega) (by omega), show l.length - Y + k + 1 = l.length - Y + (k + 1) by omega, getD_two2 l Y A (k + 1) (by omega) (by omega), nx_lt (l := l) (i := k) (by omega)]
    omega
/-- Both parts together are the whole, and the cut there and back. -/
theorem split_sum (f : Int × Int → Int × Int → Int) (l : List (Int × Int)) (A Y : Nat) (hA : A ≤ Y) (hY : Y < l.length) :
    cS f ((l.drop A).take (Y + 1 - A)) ((l.drop A).take (Y + 1 - A)).length + cS f (l.drop Y ++ l.take (A + 1)) (l.drop Y ++ l.take (A + 1)).length = cS f l l.length + f (l.getD Y (0, 0)) (l.getD A (0, 0)) + f (l.getD A (0, 0)) (l.getD Y (0, 0)) := by
  have hl1 : ((l.drop A).take (Y + 1 - A)).length = Y - A + 1 := by simp; omega
  have hl2 : (l.drop Y ++ l.take (A + 1)).length = l.length - Y + A + 1 := by simp; omega
  have h1 := one_sum f l A Y hA hY (Y - A) (Nat.le_refl _)
  have h2 := two_sum2 f l A Y hY (by omega) A (Nat.le_refl _)
  have n1 : nxt ((l.drop A).take (Y + 1 - A)) (Y - A) = l.getD A (0, 0) := by rw [nx_last (by rw [hl1]), getD_mid l A _ 0 (by omega)]; simp
  have n2 : nxt (l.drop Y ++ l.take (A + 1)) (l.length - Y + A) = l.getD Y (0, 0) := by rw [nx_last (by rw [hl2]), getD_two1 l Y A 0 (by omega)]; simp
  rw [hl1, hl2]
  rw [cS_succ, cS_succ, h1, h2, n1, n2, getD_mid l A _ (Y - A) (by omega), getD_two2 l Y A A (by omega) (Nat.le_refl _), show A + (Y - A) = Y by omega]
  omega
theorem crs_neg9 (a b c : Int × Int) : crs b a c = -crs a b c := by unfold crs; grind
theorem sg_neg9 (n : Int) : sgZ (-n) = -sgZ n := by
  unfold sgZ
  by_cases h1 : 0 < n
  · rw [if_neg (by omega), if_pos (by omega), if_pos h1]
  · by_cases h2 : n < 0
    · rw [if_pos (by omega), if_neg h1, if_pos h2]; rfl
    · rw [if_neg (by omega), if_neg (by omega), if_neg h1, if_neg h2]; rfl
theorem wiT_back (a b p : Int × Int) : wiT a b p + wiT b a p = 0 := by
  unfold wiT
  rw [crs_neg9 a b p, sg_neg9]
  have e1 : upB b a p = dnB a b p := by unfold upB dnB; rw [Bool.and_comm]
  have e2 : dnB b a p = upB a b p := by unfold upB dnB; rw [Bool.and_comm]
  rw [e1, e2]
  have e3 : (-sgZ (crs a b p) == 1) = (sgZ (crs a b p) == -1) := by rw [Bool.eq_iff_iff]; simp <;> omega
  have e4 : (-sgZ (crs a b p) == -1) = (sgZ (crs a b p) == 1) := by rw [Bool.eq_iff_iff]; simp <;> omega
  rw [e3, e4]
  have ex : upB a b p = true → dnB a b p = false := by
    unfold upB dnB
    intro h
    simp at h
    simp
    omega
  cases hu : upB a b p <;> cases hd : dnB a b p <;> cases (sgZ (crs a b p) == 1) <;> cases (sgZ (crs a b p) == -1) <;> simp
  all_goals (have := ex hu; rw [hd] at this; cases this)
theorem wi_split (l : List (Int × Int)) (p : Int × Int) (A Y : Nat) (hA : A ≤ Y) (hY : Y < l.length) :
    wiS ((l.drop A).take (Y + 1 - A)) p ((l.drop A).take (Y + 1 - A)).length + wiS (l.drop Y ++ l.take (A + 1)) p (l.drop Y ++ l.take (A + 1)).length = wiS l p l.length := by
  rw [wiS_cS, wiS_cS, wiS_cS, split_sum _ l A Y hA hY]
  have := wiT_back (l.getD Y (0, 0)) (l.getD A (0, 0)) p
  omega
theorem ar_split (l : List (Int × Int)) (A Y : Nat) (hA : A ≤ Y) (hY : Y < l.length) :
    arS ((l.drop A).take (Y + 1 - A)) ((l.drop A).take (Y + 1 - A)).length + arS (l.drop Y ++ l.take (A + 1)) (l.drop Y ++ l.take (A + 1)).length = arS l l.length := by
  rw [arS_cS, arS_cS, arS_cS, split_sum _ l A Y hA hY]
  generalize l.getD Y (0, 0) = a
  generalize l.getD A (0, 0) = b
  generalize cS (fun a b => a.1 * b.2 - b.1 * a.2) l l.length = s
  grind
/-- Crossings are odd just where one goes round an odd number of times. -/
theorem cr_wi (l : List (Int × Int)) (p : Int × Int) : ∀ k, ∃ m : Int, crS l p k - wiS l p k = 2 * m
  | 0 => ⟨0, by simp [crS, wiS]⟩
  | k + 1 => by
    obtain ⟨m, hm⟩ := cr_wi l p k
    have t : ∃ d : Int, crT (l.getD k (0, 0)) (nxt l k) p - wiT (l.getD k (0, 0)) (nxt l k) p = 2 * d := by
      unfold crT wiT
      cases (upB (l.getD k (0, 0)) (nxt l k) p && (sgZ (crs (l.getD k (0, 0)) (nxt l k) p) == 1)) <;> cases (dnB (l.getD k (0, 0)) (nxt l k) p && (sgZ (crs (l.getD k (0, 0)) (nxt l k) p) == -1)) <;> simp
      all_goals first | exact ⟨0, by omega⟩ | exact ⟨1, by omega⟩
    obtain ⟨d, hd⟩ := t
    exact ⟨m + d, by unfold crS wiS; omega⟩
end Go.Proofs.Ytblhjeepelgdaaa
