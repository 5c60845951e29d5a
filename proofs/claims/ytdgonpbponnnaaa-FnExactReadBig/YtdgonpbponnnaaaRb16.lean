/- ReadBig: which texts are told, and what: plain facts. No condition beyond those typed. Written by mkrb16.py. -/
import Derived.Test.YtdgonpbponnnaaaNv16
import Derived.Test.YtdgonpbponnnaaaBt16
import Derived.Laws.Strings
namespace Go.Proofs.Ytdgonpbponnnaaa
open Go.RowKit
set_option linter.unusedVariables false
set_option maxRecDepth 100000
set_option linter.unusedSimpArgs false

/-- The greatest number of forty limbs. -/
def M40 : Nat := 65536 ^ 40 - 1
theorem m40_lt (n : Nat) : n ≤ M40 ↔ n < 65536 ^ 40 := by
  have h : 0 < 65536 ^ 40 := Nat.pow_pos (by decide)
  unfold M40
  generalize 65536 ^ 40 = m at *
  omega
def rbN (l : List UInt8) : Bool := match l with | [] => false | c :: _ => c == 45
def rbD (l : List UInt8) : List UInt8 := match l with | [] => [] | c :: t => if c = 45 then t else c :: t
def rbM (l : List UInt8) : Nat := (numV M40 (rbD l)).getD 0
/-- Whether a text is told, and its number. -/
def rbB (l : List UInt8) : Bool := (numV M40 (rbD l)).isSome && !(rbN l && decide (rbM l = 0))
def rbV (l : List UInt8) : Int := if rbB l = true then (if rbN l = true then -(rbM l : Int) else (rbM l : Int)) else 0
theorem rbD_len (l : List UInt8) : (rbD l).length ≤ l.length := by
  match l with
  | [] => simp [rbD]
  | c :: t =>
    show (if c = 45 then t else c :: t).length ≤ _
    split <;> simp
theorem rb_neg {l : List UInt8} (h : rbN l = true) : l = 45 :: rbD l := by
  match l, h with
  | c :: t, h =>
    have e : c = 45 := by unfold rbN at h; exact eq_of_beq h
    subst e
    rfl
theorem rb_pos {l : List UInt8} (h : rbN l = false) : rbD l = l := by
  match l, h with
  | [], _ => rfl
  | c :: t, h =>
    have e : ¬ c = 45 := by unfold rbN at h; intro k; subst k; simp at h
    show (if c = 45 then t else c :: t) = _
    rw [if_neg e]
theorem nm_40 {zs : List Int} {V : Nat} (h : Nm zs (V : Int)) : zs.length ≤ 40 ↔ V ≤ M40 := by
  rw [m40_lt]
  have c : ((65536 ^ 40 : Nat) : Int) = (65536 : Int) ^ 40 := by rw [Int.natCast_pow]; rfl
  constructor
  · intro hl
    have a := val_lt h.ok
    have b := pow_mono hl
    rw [h.v] at a
    have d : (V : Int) < ((65536 ^ 40 : Nat) : Int) := by rw [c]; exact Int.lt_of_lt_of_le a b
    exact Int.ofNat_lt.1 d
  · intro hv
    by_cases hl : zs.length ≤ 40
    · exact hl
    · have a := top_le h.ok h.tr (by omega)
      have b := pow_mono (show 40 ≤ zs.length - 1 by omega)
      rw [h.v] at a
      have d : ((65536 ^ 40 : Nat) : Int) ≤ (V : Int) := by rw [c]; exact Int.le_trans b a
      have d2 := Int.ofNat_le.1 d
      exact absurd hv (Nat.not_lt.2 d2)
theorem p40 : 65536 ^ 40 ≤ 10 ^ 193 := by decide
theorem rbD_200 {l : List UInt8} {V : Nat} (h : numV M40 (rbD l) = some V) : 1 ≤ (rbD l).length ∧ (rbD l).length ≤ 200 ∧ V ≤ M40 ∧ rbD l = Lib.decDigits V := by
  have n := num_dd h
  have v := (m40_lt V).1 n.2
  have d := dd_len 192 V (Nat.lt_of_lt_of_le v p40)
  refine ⟨?_, ?_, n.2, n.1⟩
  · rw [n.1]; exact dd_pos16 V
  · rw [n.1]; omega
theorem dd_zero_iff (V : Nat) (c : UInt8) (t : List UInt8) (h : Lib.decDigits V = c :: t) (hV : V ≠ 0) : c ≠ 48 := by
  obtain ⟨_, c', l, e, ne⟩ := dd_nv (most := V) V V (Nat.lt_of_lt_of_le (Nat.lt_pow_self (by decide)) (Nat.pow_le_pow_right (by decide) (Nat.le_succ V))) (Nat.le_refl _) (by omega)
  rw [e] at h
  cases h
  exact ne
/-- Digits read on without a bound. -/
def dgN : Nat → List UInt8 → Option Nat
  | n, [] => some n
  | n, c :: cs => if c.toNat < 48 ∨ 57 < c.toNat then none else dgN (10 * n + (c.toNat - 48)) cs
theorem dgN_nv (most : Nat) : ∀ (l : List UInt8) (n v : Nat), nv most n l = some v → dgN n l = some v
  | [], n, v, h => h
  | c :: l, n, v, h => by
    simp only [nv] at h
    simp only [dgN]
    split at h
    · cases h
    · rename_i h0
      rw [if_neg h0]
      split at h
      · cases h
      · exact dgN_nv most l _ _ h
/-- The specification's look: all digits, not too long, and its text the text itself. -/
theorem rb_iff {l : List UInt8} {W : Nat} (hd : dgN 0 (rbD l) = some W) (hn : rbD l ≠ []) :
    rbB l = (decide (W ≤ M40) && decide (txV (rbN l && decide (W ≠ 0)) W = l)) ∧ (rbB l = true → rbM l = W) := by
  have key : ∀ V, numV M40 (rbD l) = some V → V = W := fun V h => by
    match hD : rbD l, h with
    | c :: t, h =>
      simp only [numV] at h
      split at h
      · cases h
      · have := dgN_nv M40 _ _ _ h
        rw [← hD, hd] at this
        exact (Option.some.inj this).symm
  have back : W ≤ M40 → rbD l = Lib.decDigits W → numV M40 (rbD l) = some W := fun h1 h2 => by rw [h2]; exact dd_num h1
  have M : ∀ V, numV M40 (rbD l) = some V → rbM l = V := fun V h => by unfold rbM; rw [h]; rfl
  refine ⟨?_, fun h => ?_⟩
  · cases hN : numV M40 (rbD l) with
    | none =>
      have L : rbB l = false := by unfold rbB; rw [hN]; rfl
      rw [L]
      symm
      rw [Bool.and_eq_false_iff]
      by_cases c : W ≤ M40
      · right
        apply decide_eq_false
        intro e
        have nb := back c
        rw [hN] at nb
        apply absurd nb
        intro k
        refine absurd (k ?_) (by simp)
        cases s : rbN l
        · rw [s] at e
          rw [rb_pos s]
          exact e.symm
        · have p := rb_neg s
          rw [s] at e
          by_cases z : W = 0
          · subst z
            exfalso
            rw [p] at e
            simp [txV, dd_zero16] at e
          · rw [p] at e
            simp only [txV, decide_eq_true (show W ≠ 0 from z), Bool.and_self, if_true] at e
            exact (List.cons.inj e).2.symm
      · left; exact decide_eq_false c
    | some V =>
      obtain rfl := key V hN
      have f := rbD_200 hN
      have mv := M V hN
      unfold rbB
      rw [hN, mv, decide_eq_true f.2.2.1]
      simp only [Option.isSome_some, Bool.true_and]
      cases s : rbN l
      · have p := rb_pos s
        simp only [Bool.false_and, Bool.not_false]
        symm
        apply decide_eq_true
        rw [p] at f
        exact f.2.2.2.symm
      · have p := rb_neg s
        by_cases z : V = 0
        · subst z
          simp only [Bool.true_and, decide_true, Bool.not_true]
          symm
          apply decide_eq_false
          intro e
          rw [p] at e
          simp [txV, dd_zero16] at e
        · simp only [Bool.true_and, decide_eq_false z, Bool.not_false]
          symm
          apply decide_eq_true
          rw [decide_eq_true (show V ≠ 0 from z)]
          show 45 :: Lib.decDigits V = l
          rw [← f.2.2.2]
          exact p.symm
  · unfold rbB at h
    have h1 := (Bool.and_eq_true _ _).mp h
    obtain ⟨V, hV⟩ := Option.isSome_iff_exists.1 h1.1
    rw [M V hV, key V hV]
/-- A text with a sign that is no digit. -/
theorem rb_none {l : List UInt8} (h : dgN 0 (rbD l) = none ∨ rbD l = [] ∨ 200 < (rbD l).length) : rbB l = false := by
  unfold rbB
  cases hN : numV M40 (rbD l) with
  | none => rfl
  | some V =>
    exfalso
    have f := rbD_200 hN
    rcases h with h | h | h
    · match hD : rbD l, hN with
      | c :: t, hN =>
        simp only [numV] at hN
        split at hN
        · cases hN
        · have := dgN_nv M40 _ _ _ hN
          rw [← hD, h] at this
          cases this
    · rw [h] at f; simp at f
    · omega
theorem dgN_snoc (c : UInt8) : ∀ (l : List UInt8) (n : Nat), dgN n (l ++ [c]) = (dgN n l).bind (fun m => dgN m [c])
  | [], n => by simp [dgN]
  | d :: l, n => by
    simp only [List.cons_append, dgN]
    split
    · rfl
    · exact dgN_snoc c l _
theorem dgN_bad {l : List UInt8} {i : Nat} (hi : i < l.length) (h : ¬ (48 ≤ l[i].toNat ∧ l[i].toNat ≤ 57)) : ∀ n, dgN n l = none := by
  induction l generalizing i with
  | nil => simp at hi
  | cons d l ih =>
    intro n
    simp only [dgN]
    cases i with
    | zero =>
      rw [if_pos (by simp at h; omega)]
    | succ j =>
      split
      · rfl
      · exact ih (i := j) (by simpa using hi) (by simpa using h) _
end Go.Proofs.Ytdgonpbponnnaaa
