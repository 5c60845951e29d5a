/- An argument that is a slice of bytes, as it came in. No condition. -/
import Derived.Test.YteconjkjpalomaaSpl9
import Derived.Test.YteconjkjpalomaaJoC
import Derived.Test.YteconjkjpalomaaEa11
import Derived.Test.YteconjkjpalomaaSimE8
import Derived.Test.YteconjkjpalomaaPtM
import Derived.Test.YteconjkjpalomaaSeg8
import Derived.Test.YteconjkjpalomaaIm9
import Derived.Test.YteconjkjpalomaaBox9
import Derived.Test.YteconjkjpalomaaDrw9
import Derived.Test.YteconjkjpalomaaEq
import Derived.ShutString
import Derived.ChangeOld
import Derived.Lib.SmallJoins
import Derived.Test.YteconjkjpalomaaCurY
namespace Go.Proofs.Yteconjkjpalomaa
open Go.RowKit
set_option linter.unusedVariables false
set_option maxRecDepth 100000
set_option linter.unusedSimpArgs false

/-- A sum over the first k segments. -/
def cS (f : Int × Int → Int × Int → Int) (l : List (Int × Int)) : Nat → Int
  | 0 => 0
  | k + 1 => cS f l k + f (l.getD k (0, 0)) (nxt l k)
theorem cS_succ (f : Int × Int → Int × Int → Int) (l : List (Int × Int)) (k : Nat) : cS f l (k + 1) = cS f l k + f (l.getD k (0, 0)) (nxt l k) := rfl
theorem wiS_cS (l : List (Int × Int)) (p : Int × Int) : ∀ k, wiS l p k = cS (fun a b => wiT a b p) l k
  | 0 => rfl
  | k + 1 => by unfold wiS cS; rw [wiS_cS l p k]
theorem arS_cS (l : List (Int × Int)) : ∀ k, arS l k = cS (fun a b => a.1 * b.2 - b.1 * a.2) l k
  | 0 => rfl
  | k + 1 => by unfold arS cS; rw [arS_cS l k]
theorem nx_lt {l : List (Int × Int)} {i : Nat} (h : i + 1 < l.length) : nxt l i = l.getD (i + 1) (0, 0) := by unfold nxt; rw [Nat.mod_eq_of_lt h]
theorem nx_last {l : List (Int × Int)} {i : Nat} (h : i + 1 = l.length) : nxt l i = l.getD 0 (0, 0) := by unfold nxt; rw [h, Nat.mod_self]
theorem getD_mid (l : List (Int × Int)) (A m i : Nat) (h : i < m) : ((l.drop A).take m).getD i (0, 0) = l.getD (A + i) (0, 0) := by
  simp only [List.getD_eq_getElem?_getD]
  rw [List.getElem?_take_of_lt h, List.getElem?_drop]
theorem getD_two1 (l : List (Int × Int)) (Y A i : Nat) (h : i < l.length - Y) : (l.drop Y ++ l.take (A + 1)).getD i (0, 0) = l.getD (Y + i) (0, 0) := by
  simp only [List.getD_eq_getElem?_getD]
  rw [List.getElem?_append_left (by simp; omega), List.getElem?_drop]
theorem getD_two2 (l : List (Int × Int)) (Y A i : Nat) (hY : Y ≤ l.length) (h : i ≤ A) : (l.drop Y ++ l.take (A + 1)).getD (l.length - Y + i) (0, 0) = l.getD i (0, 0) := by
  simp only [List.getD_eq_getElem?_getD]
  rw [List.getElem?_append_right (by simp), List.length_drop, Nat.add_sub_cancel_left, List.getElem?_take_of_lt (by omega)]
theorem one_sum (f : Int × Int → Int × Int → Int) (l : List (Int × Int)) (A Y : Nat) (hA : A ≤ Y) (hY : Y < l.length) : ∀ k, k ≤ Y - A → cS f ((l.drop A).take (Y + 1 - A)) k = cS f l (A + k) - cS f l A
  | 0, _ => by simp [cS]
  | k + 1, hk => by
    have ih := one_sum f l A Y hA hY k (by omega)
    have hl : ((l.drop A).take (Y + 1 - A)).length = Y + 1 - A := by simp; omega
    rw [show A + (k + 1) = A + k + 1 by omega]
    rw [cS_succ, cS_succ, ih, nx_lt (by rw [hl]; omega), nx_lt (l := l) (i := A + k) (by omega), getD_mid l A _ k (by omega), getD_mid l A _ (k + 1) (by omega), show A + (k + 1) = A + k + 1 by omega]
    omega
theorem two_sum1 (f : Int × Int → Int × Int → Int) (l : List (Int × Int)) (A Y : Nat) (hY : Y < l.length) (hA : A < l.length) : ∀ k, k ≤ l.length - Y → cS f (l.drop Y ++ l.take (A + 1)) k = cS f l (Y + k) - cS f l Y
  | 0, _ => by simp [cS]
  | k + 1, hk => by
    have ih := two_sum1 f l A Y hY hA k (by omega)
    have hl : (l.drop Y ++ l.take (A + 1)).length = l.length - Y + (A + 1) := by simp; omega
    rw [show Y + (k + 1) = Y + k + 1 by omega]
    rw [cS_succ, cS_succ, ih, nx_lt (by rw [hl]; omega), getD_two1 l Y A k (by omega)]
    by_cases h : k + 1 < l.length - Y
    · rw [getD_two1 l Y A (k + 1) h, nx_lt (l := l) (i := Y + k) (by omega), show Y + (k + 1) = Y + k + 1 by omega]
      omega
    · have e : k + 1 = l.length - Y + 0 := by omega
      rw [e, getD_two2 l Y A 0 (by omega) (by omega), nx_last (l := l) (i := Y + k) (by omega)]
      omega
theorem two_sum2 (f : Int × Int → Int × Int → Int) (l : List (Int × Int)) (A Y : Nat) (hY : Y < l.length) (hA : A < l.length) : ∀ k, k ≤ A → cS f (l.drop Y ++ l.take (A + 1)) (l.length - Y + k) = cS f l l.length - cS f l Y + cS f l k
  | 0, _ => by
    have h := two_sum1 f l A Y hY hA (l.length - Y) (Nat.le_refl _)
    rw [show Y + (l.length - Y) = l.length by omega] at h
    simp [cS]
    exact h
  | k + 1, hk => by
    have ih := two_sum2 f l A Y hY hA k (by omega)
    have hl : (l.drop Y ++ l.take (A + 1)).length = l.length - Y + (A + 1) := by simp; omega
    rw [show l.length - Y + (k + 1) = l.length - Y + k + 1 by omega]
    rw [cS_succ, cS_succ, ih, nx_lt (by rw [hl]; omega), getD_two2 l Y A k (by omega) (by omega), show l.length - Y + k + 1 = l.length - Y + (k + 1) by omega, getD_two2 l Y A (k + 1) (by omega) (by omega), nx_lt (l := l) (i := k) (by omega)]
    omega
/-- Both parts together are the whole, and the cut there and back. -/
theorem split_sum (f : Int × Int → Int × Int → Int) (l : List (Int × Int)) (A Y : Nat) (hA : A ≤ Y) (hY : Y < l.length) :
    cS f ((l.drop A).take (Y + 1 - A)) ((l.drop A).take (Y + 1 - A)).length + cS f (l.drop Y ++ l.take (A + 1)) (l.drop Y ++ l.take (A + 1)).length = cS f l l.length + f (l.getD Y (0, 0)) (l.getD A (0, 0)) + f (l.getD A (0, 0)) (l.getD Y (0, 0)) := by
  have hl1 : ((l.drop A).take (Y + 1 - A)).length = Y - A + 1 := by simp; omega
  have hl2 : (l.drop Y ++ l.take (A + 1)).length = l.length - Y + A + 1 := by simp; omega
  have h1 := one_sum f l A Y hA hY (Y - A) (Nat.le_refl _)
  have h2 := two_sum2 f l A Y hY (by omega) A (Nat.le_refl _)
  have n1 : nxt ((l.drop A).take (Y + 1 - A)) (Y - A) = l.getD A (0, 0) := by rw [nx_last (by rw [hl1]), getD_mid l A _ 0 (by omega)]; simp
  have n2 : nxt (l.drop Y ++ l.take (A + 1)) (l.length - Y + A) = l.getD Y (0, 0) := by rw [nx_last (by rw [hl2]), getD_two1 l Y A 0 (by omega)]; simp
  rw [hl1, hl2]
  rw [cS_succ, cS_succ, h1, h2, n1, n2, getD_mid l A _ (Y - A) (by omega), getD_two2 l Y A A (by omega) (Nat.le_refl _), show A + (Y - A) = Y by omega]
  omega
theorem crs_neg9 (a b c : Int × Int) : crs b a c = -crs a b c := by unfold crs; grind
theorem sg_neg9 (n : Int) : sgZ (-n) = -sgZ n := by
  unfold sgZ
  by_cases h1 : 0 < n
  · rw [if_neg (by omega), if_pos (by omega), if_pos h1]
  · by_cases h2 : n < 0
    · rw [if_pos (by omega), if_neg h1, if_pos h2]; rfl
    · rw [if_neg (by omega), if_neg (by omega), if_neg h1, if_neg h2]; rfl
theorem wiT_back (a b p : Int × Int) : wiT a b p + wiT b a p = 0 := by
  unfold wiT
  rw [crs_neg9 a b p, sg_neg9]
  have e1 : upB b a p = dnB a b p := by unfold upB dnB; rw [Bool.and_comm]
  have e2 : dnB b a p = upB a b p := by unfold upB dnB; rw [Bool.and_comm]
  rw [e1, e2]
  have e3 : (-sgZ (crs a b p) == 1) = (sgZ (crs a b p) == -1) := by rw [Bool.eq_iff_iff]; simp <;> omega
  have e4 : (-sgZ (crs a b p) == -1) = (sgZ (crs a b p) == 1) := by rw [Bool.eq_iff_iff]; simp <;> omega
  rw [e3, e4]
  have ex : upB a b p = true → dnB a b p = false := by
    unfold upB dnB
    intro h
    simp at h
    simp
    omega
  cases hu : upB a b p <;> cases hd : dnB a b p <;> cases (sgZ (crs a b p) == 1) <;> cases (sgZ (crs a b p) == -1) <;> simp
  all_goals (have := ex hu; rw [hd] at this; cases this)
theorem wi_split (l : List (Int × Int)) (p : Int × Int) (A Y : Nat) (hA : A ≤ Y) (hY : Y < l.length) :
    wiS ((l.drop A).take (Y + 1 - A)) p ((l.drop A).take (Y + 1 - A)).length + wiS (l.drop Y ++ l.take (A + 1)) p (l.drop Y ++ l.take (A + 1)).length = wiS l p l.length := by
  rw [wiS_cS, wiS_cS, wiS_cS, split_sum _ l A Y hA hY]
  have := wiT_back (l.getD Y (0, 0)) (l.getD A (0, 0)) p
  omega
theorem ar_split (l : List (Int × Int)) (A Y : Nat) (hA : A ≤ Y) (hY : Y < l.length) :
    arS ((l.drop A).take (Y + 1 - A)) ((l.drop A).take (Y + 1 - A)).length + arS (l.drop Y ++ l.take (A + 1)) (l.drop Y ++ l.take (A + 1)).length = arS l l.length := by
  rw [arS_cS, arS_cS, arS_cS, split_sum _ l A Y hA hY]
  generalize l.getD Y (0, 0) = a
  generalize l.getD A (0, 0) = b
  generalize cS (fun a b => a.1 * b.2 - b.1 * a.2) l l.length = s
  grind
/-- Crossings are odd just where one goes round an odd number of times. -/
theorem cr_wi (l : List (Int × Int)) (p : Int × Int) : ∀ k, ∃ m : Int, crS l p k - wiS l p k = 2 * m
  | 0 => ⟨0, by simp [crS, wiS]⟩
  | k + 1 => by
    obtain ⟨m, hm⟩ := cr_wi l p k
    have t : ∃ d : Int, crT (l.getD k (0, 0)) (nxt l k) p - wiT (l.getD k (0, 0)) (nxt l k) p = 2 * d := by
      unfold crT wiT
      cases (upB (l.getD k (0, 0)) (nxt l k) p && (sgZ (crs (l.getD k (0, 0)) (nxt l k) p) == 1)) <;> cases (dnB (l.getD k (0, 0)) (nxt l k) p && (sgZ (crs (l.getD k (0, 0)) (nxt l k) p) == -1)) <;> simp
      all_goals first | exact ⟨0, by omega⟩ | exact ⟨1, by omega⟩
    obtain ⟨d, hd⟩ := t
    exact ⟨m + d, by unfold crS wiS; omega⟩
end Go.Proofs.Yteconjkjpalomaa
namespace Go.Proofs.Yteconjkjpalomaa
open Go.RowKit
set_option linter.unusedVariables false
set_option maxRecDepth 100000
set_option linter.unusedSimpArgs false

def toQ (p : Int × Int) : Jor.Q2 := ((p.1 : Rat), (p.2 : Rat))
theorem toQ_inj {p q : Int × Int} (h : toQ p = toQ q) : p = q := by
  have h1 := congrArg Prod.fst h
  have h2 := congrArg Prod.snd h
  simp only [toQ, Rat.intCast_inj] at h1 h2
  exact Prod.ext h1 h2
theorem jc_toQ (a b c : Int × Int) : Jor.jc (toQ a) (toQ b) (toQ c) = ((crs a b c : Int) : Rat) := by
  unfold Jor.jc toQ crs
  simp only [Rat.intCast_sub, Rat.intCast_mul]
theorem jq_pos {a b c : Int × Int} : 0 < Jor.jc (toQ a) (toQ b) (toQ c) ↔ 0 < crs a b c := by
  rw [jc_toQ]
  exact Rat.intCast_lt_intCast (a := 0)
theorem jq_nn {a b c : Int × Int} : 0 ≤ Jor.jc (toQ a) (toQ b) (toQ c) ↔ 0 ≤ crs a b c := by
  rw [jc_toQ]
  exact Rat.intCast_le_intCast (a := 0)
theorem jq_neg {a b c : Int × Int} : Jor.jc (toQ a) (toQ b) (toQ c) < 0 ↔ crs a b c < 0 := by
  rw [jc_toQ]
  exact Rat.intCast_lt_intCast (b := 0)
theorem jq_zero {a b c : Int × Int} : Jor.jc (toQ a) (toQ b) (toQ c) = 0 ↔ crs a b c = 0 := by
  rw [jc_toQ]
  exact Rat.intCast_inj (b := 0)
theorem on_toQ {a b p : Int × Int} : Jor.OnJ (toQ a) (toQ b) (toQ p) ↔ onV a b p = true := by
  rw [Jor.on_iff, jq_zero]
  unfold onV btw
  simp only [toQ, Rat.intCast_le_intCast, Bool.and_eq_true, Bool.or_eq_true, decide_eq_true_eq]
theorem meet_toQ {a b c d : Int × Int} (hab : a ≠ b) (m : Jor.MeetJ (toQ a) (toQ b) (toQ c) (toQ d)) : meV a b c d = true := by
  have sgm : ∀ x y : Int, ((x : Rat) * (y : Rat) < 0) → sgZ x * sgZ y < 0 := fun x y h => by
    rw [← Rat.intCast_mul] at h
    have h' : x * y < 0 := Rat.intCast_lt_intCast (b := 0) |>.1 h
    rcases Int.lt_trichotomy x 0 with hx | hx | hx <;> rcases Int.lt_trichotomy y 0 with hy | hy | hy
    · have := Int.mul_pos_of_neg_of_neg hx hy; omega
    · rw [hy] at h'; simp at h'
    · unfold sgZ; rw [if_neg (by omega), if_pos hx, if_pos hy]; decide
    · rw [hx] at h'; simp at h'
    · rw [hx] at h'; simp at h'
    · rw [hx] at h'; simp at h'
    · unfold sgZ; rw [if_pos hx, if_neg (by omega), if_pos hy]; decide
    · rw [hy] at h'; simp at h'
    · have := Int.mul_pos hx hy; omega
  unfold meV
  rcases Jor.meet_end (fun k => hab (toQ_inj k)) m with k | k | k | k | ⟨k1, k2⟩
  · rw [on_toQ] at k; simp [k]
  · rw [on_toQ] at k; simp [k]
  · rw [on_toQ] at k; simp [k]
  · rw [on_toQ] at k; simp [k]
  · rw [jc_toQ, jc_toQ] at k1 k2
    have s1 := sgm _ _ k1
    have s2 := sgm _ _ k2
    split
    · rfl
    · simp [s1, s2]
/-- The way of the corners left. -/
def wayQ (l : List (Int × Int)) (L : List Nat) : List Jor.Q2 := L.map (fun k => toQ (l.getD k (0, 0)))
theorem wayQ_len (l : List (Int × Int)) (L : List Nat) : (wayQ l L).length = L.length := by simp [wayQ]
theorem wayQ_at {l : List (Int × Int)} {L : List Nat} {i : Nat} (h : i < L.length) : (wayQ l L).getD i (0, 0) = toQ (l.getD (L.getD i 0) (0, 0)) := by
  unfold wayQ
  rw [List.getD_eq_getElem?_getD, List.getElem?_map, List.getElem?_eq_getElem h, List.getD_eq_getElem?_getD (l := L), List.getElem?_eq_getElem h]
  rfl
theorem ed_way {l : List (Int × Int)} {L : List Nat} {e : Jor.Q2 × Jor.Q2} : e ∈ Jor.eds (wayQ l L) ↔ ∃ i, i < L.length ∧ e = (toQ (l.getD (L.getD i 0) (0, 0)), toQ (l.getD (aft L i) (0, 0))) := by
  rw [Jor.ed_iff]
  rw [wayQ_len]
  constructor
  · rintro ⟨i, h, k⟩
    exact ⟨i, h, by rw [k, wayQ_at h, wayQ_at (Nat.mod_lt _ (by omega))]; rfl⟩
  · rintro ⟨i, h, k⟩
    exact ⟨i, h, by rw [k, wayQ_at h, wayQ_at (Nat.mod_lt _ (by omega))]; rfl⟩
theorem range_at {n i : Nat} (h : i < n) : (List.range n).getD i 0 = i := by simp [List.getD_eq_getElem?_getD, h]
theorem range_aft {n i : Nat} (h : i < n) : aft (List.range n) i = (i + 1) % n := by
  unfold aft
  rw [List.length_range, range_at (Nat.mod_lt _ (by omega))]
/-- A simple way of the grid is one. -/
theorem simJ_of {l : List (Int × Int)} (h3 : 3 ≤ l.length) (hs : siI l = true) : Jor.SimJ (wayQ l (List.range l.length)) := by
  have hal : ¬ Alike l := fun k => by rw [siI_al (alB_true k)] at hs; cases hs
  have hS : SimP l l.length := by
    rw [← si_eq h3] at hs
    unfold siS at hs
    exact @of_decide_eq_true _ (Classical.propDecidable _) hs
  have inj : ∀ i j, i < l.length → j < l.length → l.getD i (0, 0) = l.getD j (0, 0) → i = j := fun i j hi hj he => by
    rcases Nat.lt_trichotomy i j with h | h | h
    · exact absurd ⟨i, j, h, hj, he⟩ hal
    · exact h
    · exact absurd ⟨j, i, h, hi, he.symm⟩ hal
  have ed : ∀ e, e ∈ Jor.eds (wayQ l (List.range l.length)) → ∃ i, i < l.length ∧ e = (toQ (l.getD i (0, 0)), toQ (nxt l i)) := fun e he => by
    obtain ⟨i, hi, k⟩ := ed_way.1 he
    rw [List.length_range] at hi
    exact ⟨i, hi, by rw [k, range_at hi, range_aft hi]; rfl⟩
  refine ⟨by rw [wayQ_len, List.length_range]; exact h3, ?_, ?_⟩
  · unfold wayQ
    refine List.pairwise_iff_getElem.2 (fun i j hi hj hij e => ?_)
    simp at hi hj e
    have := inj i j hi hj (by simpa [List.getD_eq_getElem?_getD] using toQ_inj e)
    omega
  · have key : ∀ i j, i < j → j < l.length → ∀ x, Jor.OnJ (toQ (l.getD i (0, 0))) (toQ (nxt l i)) x → Jor.OnJ (toQ (l.getD j (0, 0))) (toQ (nxt l j)) x → (x = toQ (l.getD i (0, 0)) ∨ x = toQ (nxt l i)) ∧ (x = toQ (l.getD j (0, 0)) ∨ x = toQ (nxt l j)) := by
      intro i j hij hj x o1 o2
      by_cases c1 : j = i + 1
      · subst c1
        have r := (hS i (by omega)).1
        unfold RowOk at r
        have en : nxt l i = l.getD (i + 1) (0, 0) := nxt_lt hj
        rw [en] at r o1
        have := Jor.adj (fun k => r.1 (toQ_inj k)) (fun k => by rw [on_toQ, r.2.1] at k; cases k) (fun k => by rw [on_toQ, r.2.2] at k; cases k) o1 o2
        rw [en]
        exact ⟨.inr this, .inl this⟩
      · by_cases c2 : (j + 1) % l.length = i
        · have en : nxt l j = l.getD i (0, 0) := by unfold nxt; rw [c2]
          have ja : j + 1 = l.length := by
            false_or_by_contra
            rw [Nat.mod_eq_of_lt (by omega)] at c2
            omega
          have i0 : i = 0 := by rw [ja, Nat.mod_self] at c2; exact c2.symm
          have r := (hS j hj).1
          unfold RowOk at r
          have e2 : nxt l (j + 1) = nxt l i := by rw [ja, i0]; exact nxt_over h3
          rw [e2, en] at r
          rw [en] at o2
          have := Jor.adj (fun k => r.1 (toQ_inj k)) (fun k => by rw [on_toQ, r.2.1] at k; cases k) (fun k => by rw [on_toQ, r.2.2] at k; cases k) o2 o1
          rw [en]
          exact ⟨.inl this, .inr this⟩
        · exfalso
          have p := (hS i (by omega)).2 j (by omega) hj c2
          rw [meet_toQ (hS i (by omega)).1.1 ⟨x, o1, o2⟩] at p
          cases p
    intro e he e' he' hne x o1 o2
    obtain ⟨i, hi, rfl⟩ := ed e he
    obtain ⟨j, hj, rfl⟩ := ed e' he'
    rcases Nat.lt_trichotomy i j with h | h | h
    · exact key i j h hj x o1 o2
    · subst h; exact absurd rfl hne
    · exact (key j i h hi x o2 o1).symm
/-- A sum over all segments. -/
theorem sum_range (f : Int × Int → Int × Int → Int) (l : List (Int × Int)) : ∀ k, k ≤ l.length → ((List.range k).map (fun i => f (l.getD i (0, 0)) (nxt l i))).sum = cS f l k
  | 0, _ => rfl
  | k + 1, h => by
    rw [List.range_succ, List.map_append, List.sum_append, sum_range f l k (by omega), cS_succ]
    simp
theorem eds_way (l : List (Int × Int)) : Jor.eds (wayQ l (List.range l.length)) = (List.range l.length).map (fun i => (toQ (l.getD i (0, 0)), toQ (nxt l i))) := by
  rw [Jor.eds_range, wayQ_len, List.length_range]
  apply List.map_congr_left
  intro i hi
  have hi' := List.mem_range.1 hi
  rw [wayQ_at (by simpa using hi'), wayQ_at (by simpa using Nat.mod_lt (i + 1) (show 0 < l.length by omega)), range_at hi', range_at (Nat.mod_lt _ (by omega))]
  rfl
theorem cast_sum : ∀ L : List Int, ((L.sum : Int) : Rat) = (L.map (fun k : Int => (k : Rat))).sum
  | [] => rfl
  | a :: L => by rw [List.sum_cons, List.map_cons, List.sum_cons, Rat.intCast_add, cast_sum L]
theorem ar_way (l : List (Int × Int)) : Jor.ar (wayQ l (List.range l.length)) = ((arS l l.length : Int) : Rat) := by
  rw [arS_cS, ← sum_range _ l _ (Nat.le_refl _), cast_sum, List.map_map]
  unfold Jor.ar
  rw [eds_way, List.map_map]
  congr 1
  apply List.map_congr_left
  intro i _
  simp only [Function.comp, toQ, Rat.intCast_sub, Rat.intCast_mul]
theorem wT_toQ (u v q : Int × Int) : Jor.wT (toQ u) (toQ v) (toQ q) = wiT u v q := by
  unfold Jor.wT wiT upB dnB
  simp only [jq_pos, jq_neg]
  simp only [toQ, Rat.intCast_le_intCast, Rat.intCast_lt_intCast]
  have s1 : (sgZ (crs u v q) == 1) = decide (0 < crs u v q) := by
    unfold sgZ
    rcases Int.lt_trichotomy (crs u v q) 0 with h | h | h
    · rw [if_neg (by omega), if_pos h, decide_eq_false (by omega)]; rfl
    · rw [if_neg (by omega), if_neg (by omega), decide_eq_false (by omega)]; rfl
    · rw [if_pos h, decide_eq_true h]; rfl
  have s2 : (sgZ (crs u v q) == -1) = decide (crs u v q < 0) := by
    unfold sgZ
    rcases Int.lt_trichotomy (crs u v q) 0 with h | h | h
    · rw [if_neg (by omega), if_pos h, decide_eq_true h]; rfl
    · rw [if_neg (by omega), if_neg (by omega), decide_eq_false (by omega)]; rfl
    · rw [if_pos h, decide_eq_false (by omega)]; rfl
  rw [s1, s2]
  generalize crs u v q = k
  simp only [Bool.and_eq_true, decide_eq_true_eq]
  grind
theorem wn_way (l : List (Int × Int)) (q : Int × Int) : Jor.wn (wayQ l (List.range l.length)) (toQ q) = wiS l q l.length := by
  rw [wiS_cS, ← sum_range _ l _ (Nat.le_refl _)]
  unfold Jor.wn Jor.wsum
  rw [eds_way, List.map_map]
  congr 1
  apply List.map_congr_left
  intro i _
  simp only [Function.comp, wT_toQ]
end Go.Proofs.Yteconjkjpalomaa
namespace Go.Proofs.Yteconjkjpalomaa
open Go.RowKit
set_option linter.unusedVariables false
set_option maxRecDepth 100000
set_option linter.unusedSimpArgs false

theorem onK_any {l : List (Int × Int)} {p : Int × Int} : ∀ k, onK l p k = false → ∀ i, i < k → onV (l.getD i (0, 0)) (nxt l i) p = false
  | 0, _, i, hi => by omega
  | k + 1, h, i, hi => by
    unfold onK at h
    have h' := (Bool.or_eq_false_iff).1 h
    by_cases e : i = k
    · subst e
      first | exact h'.1 | exact h'.2
    · first | exact onK_any k h'.1 i (by omega) | exact onK_any k h'.2 i (by omega)
/-- Not at all, or once. -/
theorem wind_once {l : List (Int × Int)} {p : Int × Int} (h3 : 3 ≤ l.length) (hs : siI l = true) (hoff : onK l p l.length = false) :
    (0 < arS l l.length ∧ (wiS l p l.length = 0 ∨ wiS l p l.length = 1)) ∨ (arS l l.length < 0 ∧ (wiS l p l.length = 0 ∨ wiS l p l.length = -1)) := by
  have S := simJ_of h3 hs
  have k := Jor.pos_iff S
  rw [ar_way] at k
  obtain ⟨k1, k2, k3⟩ := k
  have off : Jor.Off (wayQ l (List.range l.length)) (toQ p) := fun e he o => by
    rw [eds_way, List.mem_map] at he
    obtain ⟨i, hi, rfl⟩ := he
    have := onK_any l.length hoff i (List.mem_range.1 hi)
    rw [on_toQ, this] at o
    cases o
  have W := wn_way l p
  rcases Int.lt_trichotomy (arS l l.length) 0 with h | h | h
  · right
    have P := k2 (Rat.intCast_lt_intCast (b := 0) |>.2 h)
    have := P.num (toQ p) off.rev
    rw [Jor.wn_rev, W] at this
    exact ⟨h, by omega⟩
  · exact absurd (by rw [h]; rfl) k3
  · left
    have P := k1 (Rat.intCast_lt_intCast (a := 0) |>.2 h)
    have := P.num (toQ p) off
    rw [W] at this
    exact ⟨h, this⟩
end Go.Proofs.Yteconjkjpalomaa
namespace Go.Proofs.Yteconjkjpalomaa
open Go.RowKit
set_option linter.unusedVariables false
set_option maxRecDepth 100000
set_option linter.unusedSimpArgs false

/-- Two slices of points of the call's own, apart from each other. -/
structure RtP2 (B : Nat) (w : World) (a1 : Option Addr) (n1 c1 : Nat) (L1 : List (Int × Int)) (a2 : Option Addr) (n2 c2 : Nat) (L2 : List (Int × Int)) : Prop where
  r1 : RtP B w a1 n1 c1 L1
  r2 : RtP B w a2 n2 c2 L2
  apart : ∀ G, a1 = some ⟨G, 0, none⟩ → a2 ≠ some ⟨G, 0, none⟩
theorem RtP2.later {B : Nat} {w w' : World} {a1 a2 : Option Addr} {n1 c1 n2 c2 : Nat} {L1 L2 : List (Int × Int)} (h : RtP2 B w a1 n1 c1 L1 a2 n2 c2 L2) (hb : Below w.heap.size w w') : RtP2 B w' a1 n1 c1 L1 a2 n2 c2 L2 := ⟨h.r1.later hb, h.r2.later hb, h.apart⟩
theorem RtP2.keep {B G : Nat} {w w' : World} {a1 a2 : Option Addr} {n1 c1 n2 c2 : Nat} {L1 L2 : List (Int × Int)} (h : RtP2 B w a1 n1 c1 L1 a2 n2 c2 L2) (hb : But G (G + 1) w w') (hG : G < B) : RtP2 B w' a1 n1 c1 L1 a2 n2 c2 L2 := ⟨h.r1.keep hb hG, h.r2.keep hb hG, h.apart⟩
end Go.Proofs.Yteconjkjpalomaa
namespace Go.Proofs.Yteconjkjpalomaa
open Go.RowKit
set_option linter.unusedVariables false
set_option maxRecDepth 100000
set_option linter.unusedSimpArgs false

/-- m points of a way round, from the one numbered x on. -/
def rnd (l : List (Int × Int)) (x m : Nat) : List (Int × Int) := (List.range m).map fun i => l.getD ((x + i) % l.length) (0, 0)
theorem rnd_len (l : List (Int × Int)) (x m : Nat) : (rnd l x m).length = m := by unfold rnd; simp
def RnM (M : List Value) (l : List (Int × Int)) (x k : Nat) : Prop := ∀ i, i < k → M[i * 2]? = some (.int .i64 (l.getD ((x + i) % l.length) (0, 0)).1) ∧ M[i * 2 + 1]? = some (.int .i64 (l.getD ((x + i) % l.length) (0, 0)).2)
theorem RnM.step {M : List Value} {l : List (Int × Int)} {x n k : Nat} (hM : M.length = n * 2) (hk : k < n) (h : RnM M l x k) :
    RnM ((M.set (k * 2) (.int .i64 (l.getD ((x + k) % l.length) (0, 0)).1)).set (k * 2 + 1) (.int .i64 (l.getD ((x + k) % l.length) (0, 0)).2)) l x (k + 1) := by
  intro i hi
  by_cases e : i < k
  · have h1 := h i e
    simp only [List.getElem?_set]
    refine ⟨?_, ?_⟩
    · rw [if_neg (by omega), if_neg (by omega)]; exact h1.1
    · rw [if_neg (by omega), if_neg (by omega)]; exact h1.2
  · obtain rfl : i = k := by omega
    simp only [List.getElem?_set, List.length_set]
    refine ⟨?_, ?_⟩
    · rw [if_neg (by omega), if_pos trivial, if_pos (by omega)]
    · rw [if_pos trivial, if_pos (by omega)]
theorem RnM.rows {M : List Value} {l : List (Int × Int)} {x m : Nat} (h : RnM M l x m) : ∀ i (h : i < (rnd l x m).length), M[i * 2]? = some (.int .i64 (rnd l x m)[i].1) ∧ M[i * 2 + 1]? = some (.int .i64 (rnd l x m)[i].2) := by
  intro i hi
  have k := h i (by rw [rnd_len] at hi; exact hi)
  have e : (rnd l x m)[i] = l.getD ((x + i) % l.length) (0, 0) := by simp only [rnd, List.getElem_map, List.getElem_range]
  rw [e]
  exact k
theorem OwP.lt9 {w : World} {G n c : Nat} {l : List (Int × Int)} (h : OwP w G n c l) : G < w.heap.size := by
  obtain ⟨M, hM, -⟩ := h.row
  exact row_lt8 hM
def csB (n x y : Int) : Bool := !(decide (x < 0) || decide (n ≤ y) || decide (y ≤ x)) && (decide (1 < y - x) && decide (y - x < n - 1))
theorem spB_cs {l : List (Int × Int)} {n : Nat} {x y : Int} (hg : wayB l = true) (hn : l.length = n) : spB l x y = csB n x y := by
  unfold spB csB
  rw [hg, hn, Bool.eq_iff_iff]
  simp only [Bool.true_and, Bool.and_eq_true, Bool.not_eq_true', Bool.or_eq_false_iff, decide_eq_true_eq, decide_eq_false_iff_not, Bool.and_eq_false_iff, beq_eq_false_iff_ne, ne_eq]
  omega
theorem rnd_one {l : List (Int × Int)} {n x y : Nat} (hn : l.length = n) (h1 : x < y) (h2 : y < n) : rnd l x ((y + n - x) % n + 1) = (l.drop x).take (y + 1 - x) := by
  have e : (y + n - x) % n = y - x := by rw [show y + n - x = y - x + n by omega, Nat.add_mod_right, Nat.mod_eq_of_lt (by omega)]
  rw [e]
  apply List.ext_getElem
  · rw [rnd_len]; simp; omega
  · intro i h3 h4
    rw [rnd_len] at h3
    simp only [rnd, List.getElem_map, List.getElem_range, List.getElem_take, List.getElem_drop, hn]
    rw [Nat.mod_eq_of_lt (by omega), getD_gt (by omega)]
theorem rnd_two {l : List (Int × Int)} {n x y : Nat} (hn : l.length = n) (h1 : x < y) (h2 : y < n) : rnd l y ((x + n - y) % n + 1) = l.drop y ++ l.take (x + 1) := by
  have e : (x + n - y) % n = x + n - y := Nat.mod_eq_of_lt (by omega)
  rw [e]
  apply List.ext_getElem
  · rw [rnd_len]; simp; omega
  · intro i h3 h4
    rw [rnd_len] at h3
    simp only [rnd, List.getElem_map, List.getElem_range, hn]
    by_cases hi : i < n - y
    · rw [List.getElem_append_left (by simp; omega), List.getElem_drop, Nat.mod_eq_of_lt (by omega), getD_gt (by omega)]
    · rw [List.getElem_append_right (by simp; omega)]
      simp only [List.getElem_take, List.length_drop, hn]
      have e2 : (y + i) % n = i - (n - y) := by rw [show y + i = i - (n - y) + n by omega, Nat.add_mod_right, Nat.mod_eq_of_lt (by omega)]
      rw [getD_gt (by rw [e2]; omega)]
      congr 1
end Go.Proofs.Yteconjkjpalomaa
namespace Go.Proofs.Yteconjkjpalomaa
open Go.RowKit
set_option linter.unusedVariables false
set_option maxRecDepth 100000
set_option linter.unusedSimpArgs false

def rowS (l : List (Int × Int)) (y x0 : Int) : Nat → Int
  | 0 => 0
  | k + 1 => rowS l y x0 k + ptT l (x0 + k, y)
def gridR (l : List (Int × Int)) (y0 x0 : Int) (m : Nat) : Nat → Int
  | 0 => 0
  | k + 1 => gridR l y0 x0 m k + rowS l (y0 + k) x0 m
theorem rowS_bd (l : List (Int × Int)) (y x0 : Int) (h : l.length ≤ 12) : ∀ k : Nat, -(12 * (k : Int)) ≤ rowS l y x0 k ∧ rowS l y x0 k ≤ 12 * k
  | 0 => by simp [rowS]
  | k + 1 => by have := rowS_bd l y x0 h k; have := ptT_bd l (x0 + k, y); unfold rowS; omega
theorem gridR_bd (l : List (Int × Int)) (y0 x0 : Int) (m : Nat) (h : l.length ≤ 12) (hm : m ≤ 2001) : ∀ k : Nat, -(24012 * (k : Int)) ≤ gridR l y0 x0 m k ∧ gridR l y0 x0 m k ≤ 24012 * k
  | 0 => by simp [gridR]
  | k + 1 => by have := gridR_bd l y0 x0 m h hm k; have := rowS_bd l (y0 + k) x0 h m; unfold gridR; omega
theorem grid_col (l : List (Int × Int)) (x0 y0 : Int) (m : Nat) : ∀ k : Nat, gridS l x0 y0 (m + 1) k = gridS l x0 y0 m k + rowS l (y0 + m) x0 k
  | 0 => by simp [gridS, rowS]
  | k + 1 => by
    unfold gridS rowS
    rw [grid_col l x0 y0 m k]
    show _ + (colS l (x0 + k) y0 m + ptT l (x0 + k, y0 + m)) = _
    omega
theorem grid_nil (l : List (Int × Int)) (x0 y0 : Int) : ∀ k : Nat, gridS l x0 y0 0 k = 0
  | 0 => rfl
  | k + 1 => by unfold gridS; rw [grid_nil l x0 y0 k]; rfl
theorem grid_rows (l : List (Int × Int)) (x0 y0 : Int) (k : Nat) : ∀ m : Nat, gridR l y0 x0 k m = gridS l x0 y0 m k
  | 0 => by rw [grid_nil]; rfl
  | m + 1 => by rw [grid_col, ← grid_rows l x0 y0 k m]; rfl
end Go.Proofs.Yteconjkjpalomaa
namespace Go.Proofs.Yteconjkjpalomaa
open Go.RowKit
set_option linter.unusedVariables false
set_option maxRecDepth 100000
set_option linter.unusedSimpArgs false

theorem sp_parts {l : List (Int × Int)} {x y : Int} (h : spB l x y = true) : wayB l = true ∧ ∃ X Y : Nat, x = (X : Int) ∧ y = (Y : Int) ∧ X + 2 ≤ Y ∧ Y < l.length ∧ Y - X + 2 ≤ l.length := by
  have hg : wayB l = true := by unfold spB at h; simp at h; exact h.1
  refine ⟨hg, ?_⟩
  rw [spB_cs hg rfl] at h
  unfold csB at h
  simp at h
  exact ⟨x.toNat, y.toNat, by omega, by omega, by omega, by omega, by omega⟩
theorem way_of {l : List (Int × Int)} (h1 : 3 ≤ l.length) (h2 : l.length ≤ 12) (h : ∀ p ∈ l, gPt p = true) : wayB l = true := by
  unfold wayB inR
  simp only [Bool.and_eq_true, decide_eq_true_eq, List.all_eq_true]
  exact ⟨⟨by omega, by omega⟩, h⟩
theorem sp_way {l : List (Int × Int)} {x y : Int} (h : spB l x y = true) : wayB (sp1 l x y) = true ∧ wayB (sp2 l x y) = true := by
  obtain ⟨hg, X, Y, rfl, rfl, h1, h2, h3⟩ := sp_parts h
  have gd := way_good9 hg
  have ln := (way_parts hg).1
  unfold sp1 sp2
  rw [h]
  simp only [if_true, Int.toNat_natCast]
  refine ⟨way_of (by simp; omega) (by simp; omega) (fun p hp => gd p (List.mem_of_mem_drop (List.mem_of_mem_take hp))), way_of (by simp; omega) (by simp; omega) (fun p hp => ?_)⟩
  rcases List.mem_append.1 hp with hp | hp
  · exact gd p (List.mem_of_mem_drop hp)
  · exact gd p (List.mem_of_mem_take hp)
theorem sp_wind {l : List (Int × Int)} {x y : Int} (h : spB l x y = true) (q : Int × Int) : wiS (sp1 l x y) q (sp1 l x y).length + wiS (sp2 l x y) q (sp2 l x y).length = wiS l q l.length := by
  obtain ⟨hg, X, Y, rfl, rfl, h1, h2, h3⟩ := sp_parts h
  have := wi_split l q X Y (by omega) h2
  unfold sp1 sp2
  rw [h]
  simp only [if_true, Int.toNat_natCast]
  exact this
theorem sp_area {l : List (Int × Int)} {x y : Int} (h : spB l x y = true) : arS (sp1 l x y) (sp1 l x y).length + arS (sp2 l x y) (sp2 l x y).length = arS l l.length := by
  obtain ⟨hg, X, Y, rfl, rfl, h1, h2, h3⟩ := sp_parts h
  have := ar_split l X Y (by omega) h2
  unfold sp1 sp2
  rw [h]
  simp only [if_true, Int.toNat_natCast]
  exact this
/-- What the law wants of a way that is split, letters for the values. -/
structure WyF (l L1 L2 : List (Int × Int)) : Prop where
  g0 : wayB l = true
  g1 : wayB L1 = true
  g2 : wayB L2 = true
  wi : ∀ q, offB L1 q = true → offB L2 q = true → offB l q = true → wnV L1 q + wnV L2 q = wnV l q
  ar : arS L1 L1.length + arS L2 L2.length = arS l l.length
theorem sp_facts {l : List (Int × Int)} {x y : Int} (h : spB l x y = true) : WyF l (sp1 l x y) (sp2 l x y) := by
  refine ⟨(sp_parts h).1, (sp_way h).1, (sp_way h).2, fun q h1 h2 h3 => ?_, sp_area h⟩
  unfold wnV
  rw [h1, h2, h3]
  exact sp_wind h q
theorem wnV_bd {l : List (Int × Int)} {q : Int × Int} (h : offB l q = true) : -12 ≤ wnV l q ∧ wnV l q ≤ 12 := by
  have hw : wayB l = true := by unfold offB gWP at h; simp at h; exact h.1.1
  have ln := (way_parts hw).1
  have := wiS_bd l q l.length
  unfold wnV
  rw [h]
  simp only [if_true]
  omega
end Go.Proofs.Yteconjkjpalomaa
namespace Go.Proofs.Yteconjkjpalomaa
open Go.RowKit
set_option linter.unusedVariables false
set_option maxRecDepth 100000
set_option linter.unusedSimpArgs false

/-- A good simple way. -/
noncomputable def ipB (l : List (Int × Int)) : Bool := wayB l && siI l
theorem ip_parts {l : List (Int × Int)} (h : ipB l = true) : wayB l = true ∧ siI l = true := by
  unfold ipB at h
  exact (Bool.and_eq_true _ _).mp h
end Go.Proofs.Yteconjkjpalomaa
namespace Go.Proofs.Yteconjkjpalomaa
open Go.RowKit
set_option linter.unusedVariables false
set_option maxRecDepth 100000
set_option linter.unusedSimpArgs false

theorem gmul_bd {u v : Int} (h1 : -1000 ≤ u) (h2 : u ≤ 1000) (h3 : -1000 ≤ v) (h4 : v ≤ 1000) : -1000000 ≤ u * v ∧ u * v ≤ 1000000 := by
  have h := Nat.mul_le_mul (show u.natAbs ≤ 1000 by omega) (show v.natAbs ≤ 1000 by omega)
  rw [← Int.natAbs_mul] at h
  omega
theorem gcr_bd {p q : Int × Int} (hp : gPt p = true) (hq : gPt q = true) : -2000000 ≤ p.1 * q.2 - q.1 * p.2 ∧ p.1 * q.2 - q.1 * p.2 ≤ 2000000 := by
  simp [gPt, inR] at hp hq
  have m1 := @gmul_bd p.1 q.2 (by omega) (by omega) (by omega) (by omega)
  have m2 := @gmul_bd q.1 p.2 (by omega) (by omega) (by omega) (by omega)
  omega
theorem garS_bd {l : List (Int × Int)} (h : ∀ p ∈ l, gPt p = true) : ∀ k, k ≤ l.length → -((k : Int) * 2000000) ≤ arS l k ∧ arS l k ≤ (k : Int) * 2000000
  | 0, _ => by simp [arS]
  | k + 1, hk => by
    have ih := garS_bd h k (by omega)
    have b := gcr_bd (h (l.getD k (0, 0)) (by rw [getD_gt (by omega)]; exact List.getElem_mem _)) (h _ (nxt_mem (by omega) k))
    unfold arS
    omega
theorem way_good {l : List (Int × Int)} (h : wayB l = true) : ∀ p ∈ l, gPt p = true := by
  unfold wayB at h
  exact List.all_eq_true.1 ((Bool.and_eq_true _ _).mp h).2
/-- How many points of the grid lie within, as told. -/
noncomputable def ipV (l : List (Int × Int)) : Int := if ipB l then (((arS l l.length).natAbs : Int) - boS l l.length + 2).tdiv 2 else 0
noncomputable def isV (l : List (Int × Int)) : Bool := if wayB l then siI l else false
set_option maxHeartbeats 2000000 in
theorem IsSimpleI (a : Option Addr) (n c : Nat) (l : List (Int × Int)) (w : World) (h : ArP w a n c l) (h1 : n ≤ 1048576) :
    Calls Try.prog 12 #[.slice a n c] w fun e w' => e = .returned (.tuple #[.bool (isV l), .bool (wayB l)]) ∧ Below w.heap.size w w' := by
  have hn := h.len
  have C1 := hide (fun w (k : SlP w a l) => wayI a n c l w k hn (by unfold maxLen; omega))
  have HS := hide h.sl
  cases hg : wayB l
  · rw [hg] at C1
    have EV : isV l = false := by unfold isV; rw [hg]; rfl
    rw [EV]
    clear hg h hn EV
    go_enter Try.func12, Try.ntmps12
    go_wp2_with fail
    refine (unhide C1 _ (unhide HS)).mono ?_
    rintro e w1 ⟨rfl, hb⟩
    go_wp2_with fail
    go_ret2
    exact ⟨rfl, hb⟩
  · rw [hg] at C1
    have wp := way_parts hg
    have C2 := hide (fun w (k : SlP w a l) => simpleI a n c l w k hn (by have := wp.1; rw [hn] at this; omega) (by have := wp.1; rw [hn] at this; omega) wp.2)
    have EV : isV l = siI l := by unfold isV; rw [hg]; rfl
    rw [EV]
    clear hg h hn wp EV
    generalize siI l = k at *
    go_enter Try.func12, Try.ntmps12
    go_wp2_with fail
    refine (unhide C1 _ (unhide HS)).mono ?_
    rintro e w1 ⟨rfl, hb⟩
    have HS1 := hide ((unhide HS).later hb)
    have HB := hide hb
    clear hb
    go_wp2_with fail
    refine (unhide C2 _ (unhide HS1)).mono ?_
    rintro e w2 ⟨rfl, hb⟩
    replace HB := hide (below_on (unhide HB) hb)
    clear hb
    go_wp2_with fail
    go_ret2
    exact ⟨rfl, unhide HB⟩
end Go.Proofs.Yteconjkjpalomaa
namespace Go.Proofs.Yteconjkjpalomaa
open Go.RowKit
set_option linter.unusedVariables false
set_option maxRecDepth 100000
set_option linter.unusedSimpArgs false

theorem tvV_get {l : List (Int × Int)} (h : wayB l = true) {k : Nat} (hk : k < l.length) : (tvV l).getD k (0, 0) = l.getD ((l.length - k) % l.length) (0, 0) := by
  unfold tvV
  rw [h]
  simp only [if_true]
  have hl : k < (tvN l (l.length - 1)).length := by rw [tvN_len]; omega
  rw [List.getD_eq_getElem?_getD, List.getElem?_eq_getElem hl]
  exact tvN_at rfl hl
theorem tvV_len {l : List (Int × Int)} (h : wayB l = true) : (tvV l).length = l.length := by
  have := (way_parts h).1.1
  unfold tvV
  rw [h]
  simp only [if_true]
  rw [tvN_len]
  omega
theorem tv_edge {l : List (Int × Int)} (h : wayB l = true) {k : Nat} (hk : k < l.length) : (tvV l).getD k (0, 0) = nxt l (l.length - 1 - k) ∧ nxt (tvV l) k = l.getD (l.length - 1 - k) (0, 0) := by
  have n3 := (way_parts h).1.1
  constructor
  · rw [tvV_get h hk]
    unfold nxt
    rw [show l.length - 1 - k + 1 = l.length - k by omega]
  · unfold nxt
    rw [tvV_len h]
    by_cases e : k + 1 = l.length
    · rw [e, Nat.mod_self, tvV_get h (by omega), Nat.sub_zero, Nat.mod_self, show l.length - 1 - k = 0 by omega]
    · rw [Nat.mod_eq_of_lt (by omega), tvV_get h (by omega), Nat.mod_eq_of_lt (by omega), show l.length - (k + 1) = l.length - 1 - k by omega]
theorem wi_turn {l : List (Int × Int)} (h : wayB l = true) (p : Int × Int) : ∀ k, k ≤ l.length → wiS (tvV l) p k = wiS l p (l.length - k) - wiS l p l.length
  | 0, _ => by simp [wiS]
  | k + 1, hk => by
    have ih := wi_turn h p k (by omega)
    obtain ⟨e1, e2⟩ := tv_edge h (k := k) (by omega)
    have b := wiT_back (l.getD (l.length - 1 - k) (0, 0)) (nxt l (l.length - 1 - k)) p
    have s : wiS l p (l.length - k) = wiS l p (l.length - (k + 1)) + wiT (l.getD (l.length - 1 - k) (0, 0)) (nxt l (l.length - 1 - k)) p := by
      rw [show l.length - k = (l.length - 1 - k) + 1 by omega, show l.length - (k + 1) = l.length - 1 - k by omega]
      rfl
    have u : wiS (tvV l) p (k + 1) = wiS (tvV l) p k + wiT ((tvV l).getD k (0, 0)) (nxt (tvV l) k) p := rfl
    rw [u, e1, e2, ih, s]
    omega
theorem btw_back (a b x : Int) : btw a b x = btw b a x := by unfold btw; rw [Bool.or_comm]
theorem onV_back (a b p : Int × Int) : onV a b p = onV b a p := by
  unfold onV
  rw [crs_neg9 b a p, btw_back b.1 a.1, btw_back b.2 a.2]
  congr 1
  apply decide_eq_decide.2
  omega
theorem on_turn {l : List (Int × Int)} (h : wayB l = true) {p : Int × Int} (ho : onK l p l.length = false) : ∀ k, k ≤ l.length → onK (tvV l) p k = false
  | 0, _ => rfl
  | k + 1, hk => by
    have ih := on_turn h ho k (by omega)
    obtain ⟨e1, e2⟩ := tv_edge h (k := k) (by omega)
    have b := onK_any l.length ho (l.length - 1 - k) (by omega)
    have u : onK (tvV l) p (k + 1) = (onK (tvV l) p k || onV ((tvV l).getD k (0, 0)) (nxt (tvV l) k) p) := rfl
    rw [u, ih, e1, e2, onV_back, b]
    rfl
theorem way_turn {l : List (Int × Int)} (h : wayB l = true) : wayB (tvV l) = true := by
  have e := tvV_len h
  have h0 := h
  have n3 := (way_parts h).1.1
  unfold wayB at h0 ⊢
  rw [e]
  simp only [Bool.and_eq_true] at h0 ⊢
  refine ⟨h0.1, List.all_eq_true.2 fun q hq => ?_⟩
  obtain ⟨i, hi, rfl⟩ := List.mem_iff_getElem.1 hq
  have g := tvV_get h (k := i) (by omega)
  rw [List.getD_eq_getElem?_getD, List.getElem?_eq_getElem hi] at g
  simp only [Option.getD_some] at g
  have hm : (l.length - i) % l.length < l.length := Nat.mod_lt _ (by omega)
  rw [g, List.getD_eq_getElem?_getD, List.getElem?_eq_getElem hm]
  exact List.all_eq_true.1 h0.2 _ (List.getElem_mem _)
/-- What the law holds against each other, at a point off a way. -/
structure WdF (l : List (Int × Int)) (p : Int × Int) : Prop where
  way : wayB l = true
  off : offB (tvV l) p = true
  turn : wnV (tvV l) p = -wnV l p
  bd : -12 ≤ wnV l p ∧ wnV l p ≤ 12
  cr : ∃ m : Int, crV l p - wnV l p = 2 * m
  crb : 0 ≤ crV l p ∧ crV l p ≤ 12
  one : isV l = true → (0 < arS l l.length ∧ (wnV l p = 0 ∨ wnV l p = 1)) ∨ (arS l l.length < 0 ∧ (wnV l p = 0 ∨ wnV l p = -1))
theorem crS_bd9 (l : List (Int × Int)) (p : Int × Int) : ∀ k, 0 ≤ crS l p k ∧ crS l p k ≤ (k : Int)
  | 0 => ⟨Int.le_refl _, Int.le_refl _⟩
  | k + 1 => by
    have ih := crS_bd9 l p k
    have t : 0 ≤ crT (l.getD k (0, 0)) (nxt l k) p ∧ crT (l.getD k (0, 0)) (nxt l k) p ≤ 1 := by unfold crT; split <;> omega
    have e : crS l p (k + 1) = crS l p k + crT (l.getD k (0, 0)) (nxt l k) p := rfl
    rw [e]
    omega
theorem wd_facts {l : List (Int × Int)} {p : Int × Int} (h : offB l p = true) : WdF l p := by
  have h0 := h
  unfold offB gWP at h0
  simp only [Bool.and_eq_true, Bool.not_eq_true'] at h0
  obtain ⟨⟨hw, hp⟩, ho⟩ := h0
  have n3 := (way_parts hw).1
  have e := tvV_len hw
  have hoT : offB (tvV l) p = true := by
    unfold offB gWP
    rw [way_turn hw, hp, e, on_turn hw ho l.length (Nat.le_refl _)]
    rfl
  have w1 : wnV l p = wiS l p l.length := by unfold wnV; rw [if_pos h]
  have w2 : wnV (tvV l) p = wiS (tvV l) p l.length := by unfold wnV; rw [if_pos hoT, e]
  have c1 : crV l p = crS l p l.length := by unfold crV; rw [if_pos h]
  have t := wi_turn hw p l.length (Nat.le_refl _)
  rw [Nat.sub_self] at t
  have z : wiS l p 0 = 0 := rfl
  have cb := crS_bd9 l p l.length
  refine ⟨hw, hoT, by rw [w2, w1, t, z]; omega, wnV_bd h, ?_, by rw [c1]; omega, fun hs => ?_⟩
  · obtain ⟨m, hm⟩ := cr_wi l p l.length
    exact ⟨m, by rw [c1, w1]; exact hm⟩
  · have hs' : siI l = true := by unfold isV at hs; rw [hw] at hs; exact hs
    have k := wind_once (by omega) hs' ho
    rw [w1]
    exact k
theorem wd_all (l : List (Int × Int)) (p : Int × Int) (h : offB l p = true) : wayB l = true ∧ offB (tvV l) p = true ∧ wnV (tvV l) p = -wnV l p ∧ (-12 ≤ wnV l p ∧ wnV l p ≤ 12) ∧ (∃ m : Int, crV l p - wnV l p = 2 * m) ∧ (0 ≤ crV l p ∧ crV l p ≤ 12) ∧ (isV l = true → (0 < arS l l.length ∧ (wnV l p = 0 ∨ wnV l p = 1)) ∨ (arS l l.length < 0 ∧ (wnV l p = 0 ∨ wnV l p = -1))) :=
  have k := wd_facts h
  ⟨k.way, k.off, k.turn, k.bd, k.cr, k.crb, k.one⟩
theorem off_parts (l : List (Int × Int)) (p : Int × Int) : offB l p = (gWP l p && !ooV l p) ∧ (gWP l p = false → ooV l p = false) := by
  unfold offB ooV
  cases gWP l p <;> simp
end Go.Proofs.Yteconjkjpalomaa
namespace Go.Proofs.Yteconjkjpalomaa
open Go.ChangeShapes Go.WideShapes Go.ChangeAt Go.RowKit Go.Joins
set_option linter.unusedVariables false
set_option maxRecDepth 100000
set_option linter.unusedSimpArgs false

theorem own : ownKnob Try.prog.godebug = none := by kernel_rfl
theorem laidOut : laidOutB Try.prog = true := by kernel_rfl
theorem Try.cells3 : Try.prog.cellsOf 3 = 1 := by kernel_rfl

end Go.Proofs.Yteconjkjpalomaa
namespace Go.Proofs.Yteconjkjpalomaa
open Go.ChangeShapes Go.WideShapes Go.ChangeAt Go.RowKit Go.Joins
set_option linter.unusedVariables false
set_option maxRecDepth 100000

def ioSigns : List Char := [104, 97, 114, 110, 101, 115, 115, 32, 52, 98, 48, 56, 52, 102, 57, 50, 97, 50, 55, 99, 53, 50, 50, 50, 101, 49, 50, 50, 49, 52, 49, 101, 52, 99, 53, 54, 52, 52, 98, 101, 56, 52, 52, 102, 99, 49, 57, 98, 52, 102, 100, 102, 53, 57, 97, 53, 57, 56, 98, 102, 98, 53, 49, 50, 49, 57, 56, 53, 98, 57, 99, 54, 32, 99, 117, 116, 32, 97, 116, 32, 108, 111, 111, 112, 46, 101, 120, 97, 109, 112, 108, 101, 47, 103, 48, 48, 52, 48, 57, 47, 108, 97, 119, 115, 46, 70, 110, 87, 105, 110, 100, 105, 110, 103].map Char.ofNat
theorem io_eq : Try.pinned.checked.prog.initOrder = String.ofList ioSigns := by kernel_rfl
theorem io_list : Try.pinned.checked.prog.initOrder.toList = ioSigns := by rw [io_eq, String.toList_ofList]
theorem io_words : behindMainWord (wordsSigns Try.pinned.checked.prog.initOrder.toList) = "cut".toList :: (wordsSigns (ioSigns.drop 77)) := by rw [io_list]; kernel_rfl
theorem make_of (P : Program) (rest : List (List Char)) (h : behindMainWord (wordsSigns P.initOrder.toList) = "cut".toList :: rest) : P.make = some .cut := by
  unfold Program.make
  rw [h]
  kernel_rfl
theorem strip_of (rest : List (List Char)) : stripLifts liftWords ("cut".toList :: rest) = ([], "cut".toList :: rest) := by kernel_rfl
theorem enter_of (P : Program) (rest : List (List Char)) (h : behindMainWord (wordsSigns P.initOrder.toList) = "cut".toList :: rest) (h1 : P.laysLater = false) (h2 : P.bearsReflect = false) (h3 : P.doorFits [] = true) : P.mayEnter = true := by
  unfold Program.mayEnter
  rw [h]
  simp only [strip_of, h1, h2, h3]
  kernel_rfl
theorem io_lays : Try.pinned.checked.prog.laysLater = false := by
  unfold Program.laysLater
  rw [← Array.any_toList]
  kernel_rfl
theorem io_refl : Try.pinned.checked.prog.bearsReflect = false := by kernel_rfl
theorem io_head : Try.pinned.checked.prog.headLifts = [] := by
  unfold Program.headLifts
  rw [io_words]
  kernel_rfl
theorem io_door : Try.pinned.checked.prog.doorFits [] = true := by kernel_rfl
theorem io_enter : Try.pinned.checked.prog.mayEnter = true := enter_of _ _ io_words io_lays io_refl io_door
theorem io_lifts : Try.pinned.checked.prog.liftsFinal = false := by
  unfold Program.liftsFinal
  rw [io_words, io_head]
  kernel_rfl
theorem io_make : Try.pinned.checked.prog.make = some .cut := make_of _ _ io_words
end Go.Proofs.Yteconjkjpalomaa
namespace Go.Proofs.Yteconjkjpalomaa
open Go.ChangeShapes Go.WideShapes Go.ChangeAt Go.RowKit Go.Joins
set_option linter.unusedVariables false
set_option maxRecDepth 100000
set_option linter.unusedSimpArgs false

theorem byte_wf {n : Int} (h : (Lit.int .u8 n).wf = true) : 0 ≤ n ∧ n ≤ 255 := by
  simp [Lit.wf, IntKind.min, IntKind.max, IntKind.signed, IntKind.bits] at h
  omega
theorem open_Y {H : Type} {enc : TypeId × Value → H} {W : World} {r : Reach} {b0 : Nat} {v : Value} {d : DataW H} {p : List MemPlace}
    (hv : Value.okWide Try.prog W r b0 22 v) (h : DataW.Trod enc Try.prog W 0 (fun _ => true) true 22 v d p) :
    ∃ (a : Option Addr) (n c : Nat), v = .slice a n c ∧ ArY W a n := by
  obtain ⟨a, n, c, rfl⟩ := okWide_slice Try.underlying22 hv
  obtain ⟨fuel, hf⟩ := h
  rcases open_ints Try.underlying22 Try.underlying5 (by kernel_rfl) hf with ⟨hcs, _⟩ | ⟨x, l, c', zs, hcs, _, hl, hm, hz, _, hcell, hwz⟩
  · simp only [Value.cells, List.cons.injEq, Value.slice.injEq, and_true] at hcs
    obtain ⟨rfl, rfl, rfl⟩ := hcs
    exact ⟨none, 0, 0, rfl, .inl rfl, Nat.zero_le _⟩
  · simp only [Value.cells, List.cons.injEq, Value.slice.injEq, and_true] at hcs
    obtain ⟨rfl, rfl, rfl⟩ := hcs
    simp only [if_true] at hz
    refine ⟨some x, n, c, rfl, ?_, ?_⟩
    · by_cases h0 : n = 0
      · exact .inl h0
      · obtain ⟨b, off, spot⟩ := x
        have hc := hcell 0 (by omega)
        have hspot : spot = none := by simpa [Addr.add] using World.cell?_spot hc
        subst hspot
        refine .inr ⟨b, off, rfl, ?_, fun i hi => ?_⟩
        · exact World.block_lt_of_cell? _ _ hc
        · have h1 := hcell i (by omega)
          have hi2 : i < zs.length := by omega
          have hw := byte_wf (hwz (zs.getD i 0) (by rw [List.getD_eq_getElem?_getD, List.getElem?_eq_getElem hi2]; exact List.getElem_mem _))
          refine ⟨zs.getD i 0, hw.1, hw.2, ?_⟩
          by_cases hi0 : i = 0
          · subst hi0; simpa [Addr.add] using h1
          · simpa [Addr.add, hi0] using h1
    · have := Nat.le_trans hl hm
      unfold maxLen at this
      omega
end Go.Proofs.Yteconjkjpalomaa
