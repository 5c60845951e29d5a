/- Pictures' texts, plainly: what is read of one, and that it is read just where it is one. No program is spoken of. -/
import Derived.Test.YtcgbpcipdanfhaaDoorLi15
import Derived.Test.YtcgbpcipdanfhaaDoorHd15
import Derived.Lib.IndexMore
namespace Go.Proofs.YtcgbpcipdanfhaaDoor
open Go.RowKit
set_option linter.unusedVariables false
set_option maxRecDepth 100000
set_option linter.unusedSimpArgs false

theorem index_occ : ∀ (s sub : List UInt8), 0 ≤ Lib.index s sub → Lib.occAt s sub (Lib.index s sub).toNat = true ∧ (Lib.index s sub).toNat ≤ s.length
  | [], sub, h => by
    unfold Lib.index at h ⊢
    split
    · rename_i e
      have : sub = [] := List.isEmpty_iff.1 e
      subst this
      simp [Lib.occAt]
    · rename_i e
      rw [if_neg e] at h
      exact absurd h (by omega)
  | b :: l, sub, h => by
    have ih := index_occ l sub
    unfold Lib.index at h ⊢
    split
    · rename_i e
      exact ⟨by simpa [Lib.occAt] using e, by simp⟩
    · rename_i e
      rw [if_neg e] at h
      split
      · rename_i e2
        rw [if_pos e2] at h
        exact absurd h (by omega)
      · rename_i e2
        rw [if_neg e2] at h
        have h0 : 0 ≤ Lib.index l sub := by
          have := Lib.index_ge l sub
          have e3 : Lib.index l sub ≠ -1 := by simpa using e2
          omega
        obtain ⟨k1, k2⟩ := ih h0
        rw [show (Lib.index l sub + 1).toNat = (Lib.index l sub).toNat + 1 by omega]
        exact ⟨by simpa [Lib.occAt] using k1, by simp; omega⟩
theorem cut_parts {s sep a b : List UInt8} (h : Lib.cut s sep = (a, b, true)) : s = a ++ sep ++ b := by
  unfold Lib.cut at h
  split at h
  · rename_i h0
    obtain ⟨k1, k2⟩ := index_occ s sep h0
    simp only [Prod.mk.injEq, and_true] at h
    have p := List.isPrefixOf_iff_prefix.1 (show sep.isPrefixOf (s.drop (Lib.index s sep).toNat) = true from k1)
    obtain ⟨r, hr⟩ := p
    have e : s = s.take (Lib.index s sep).toNat ++ s.drop (Lib.index s sep).toNat := (List.take_append_drop _ _).symm
    have d2 : s.drop ((Lib.index s sep).toNat + sep.length) = r := by rw [← List.drop_drop, ← hr]; simp
    rw [← h.1, ← h.2, d2]
    conv => lhs; rw [e, ← hr]
    simp
  · simp at h
theorem cut_first {d r t : List UInt8} {c : UInt8} (hd : ∀ x ∈ d, x ≠ c) : Lib.cut (d ++ (c :: t) ++ r) (c :: t) = (d, r, true) := by
  have i : Lib.index (d ++ (c :: t) ++ r) (c :: t) = (d.length : Int) := by
    refine Lib.index_first (by simp) ?_ (fun j hj => ?_)
    · unfold Lib.occAt
      rw [List.append_assoc, List.drop_left]
      exact List.isPrefixOf_iff_prefix.2 (List.prefix_append _ _)
    · rw [Bool.eq_false_iff]
      intro k
      have e := Lib.occAt_head rfl k
      rw [List.append_assoc, List.getElem?_append_left hj, List.getElem?_eq_getElem hj] at e
      exact hd _ (List.getElem_mem hj) (by simpa using e)
  unfold Lib.cut
  rw [i, if_pos (by omega)]
  simp
theorem digit_ne {d : List UInt8} (h : d.all isD = true) {c : UInt8} (hc : isD c = false) : ∀ x ∈ d, x ≠ c := fun x hx e => by
  have := List.all_eq_true.1 h x hx
  rw [e, hc] at this
  cases this
/-- What the program reads of a text. -/
def ppR (bs : List UInt8) : List UInt8 := Lib.trimPrefix bs [80, 53, 10]
def ppA (bs : List UInt8) : List UInt8 × List UInt8 × Bool := Lib.cut (ppR bs) [32]
def ppB (bs : List UInt8) : List UInt8 × List UInt8 × Bool := Lib.cut (ppA bs).2.1 [10, 50, 53, 53, 10]
def ppT (bs : List UInt8) : Bool := (((Lib.hasPrefix bs [80, 53, 10] && (ppA bs).2.2) && (ppB bs).2.2) && (numV 10 (ppA bs).1).isSome) && (numV 10 (ppB bs).1).isSome
def ppW (bs : List UInt8) : Nat := (numV 10 (ppA bs).1).getD 0
def ppH (bs : List UInt8) : Nat := (numV 10 (ppB bs).1).getD 0
def ppX (bs : List UInt8) : List UInt8 := (ppB bs).2.1
def rpB (bs : List UInt8) : Bool := ppT bs && gP15 (ppW bs) (ppH bs) ((ppX bs).length : Int)
/-- A text that is a picture's. -/
def PicP (bs : List UInt8) (x y : Nat) (t : List UInt8) : Prop := bs = hd15 x y ++ t ∧ (1 ≤ x ∧ x ≤ 10) ∧ (1 ≤ y ∧ y ≤ 10) ∧ t.length = x * y
theorem hd_split (x y : Nat) (t : List UInt8) : hd15 x y ++ t = [80, 53, 10] ++ (Lib.decDigits x ++ [32] ++ (Lib.decDigits y ++ [10, 50, 53, 53, 10] ++ t)) := by simp [hd15]
theorem pic_read {bs : List UInt8} {x y : Nat} {t : List UInt8} (h : PicP bs x y t) : rpB bs = true ∧ ppW bs = x ∧ ppH bs = y ∧ ppX bs = t := by
  obtain ⟨e, hx, hy, ht⟩ := h
  rw [hd_split] at e
  have p1 : Lib.hasPrefix bs [80, 53, 10] = true := by unfold Lib.hasPrefix; rw [e]; exact List.isPrefixOf_iff_prefix.2 (List.prefix_append _ _)
  have r1 : ppR bs = Lib.decDigits x ++ [32] ++ (Lib.decDigits y ++ [10, 50, 53, 53, 10] ++ t) := by unfold ppR Lib.trimPrefix; rw [if_pos p1, e]; rfl
  have a1 : ppA bs = (Lib.decDigits x, Lib.decDigits y ++ [10, 50, 53, 53, 10] ++ t, true) := by unfold ppA; rw [r1]; exact cut_first (digit_ne (dd_digits x) (by decide))
  have b1 : ppB bs = (Lib.decDigits y, t, true) := by unfold ppB; rw [a1]; exact cut_first (digit_ne (dd_digits y) (by decide))
  have n1 : numV 10 (ppA bs).1 = some x := by rw [a1]; exact dd_num hx.2
  have n2 : numV 10 (ppB bs).1 = some y := by rw [b1]; exact dd_num hy.2
  have w1 : ppW bs = x := by unfold ppW; rw [n1]; rfl
  have w2 : ppH bs = y := by unfold ppH; rw [n2]; rfl
  have x1 : ppX bs = t := by unfold ppX; rw [b1]
  refine ⟨?_, w1, w2, x1⟩
  have t1 : ppT bs = true := by unfold ppT; rw [p1, n1, n2, a1, b1]; rfl
  unfold rpB
  rw [t1, w1, w2, x1, ht]
  unfold gP15 inR
  simp only [Bool.true_and, Bool.and_eq_true, decide_eq_true_eq, beq_iff_eq]
  refine ⟨by omega, by omega, by simp⟩
theorem read_pic {bs : List UInt8} (h : rpB bs = true) : PicP bs (ppW bs) (ppH bs) (ppX bs) := by
  unfold rpB at h
  have h1 := (Bool.and_eq_true _ _).mp h
  have h2 := gP_in15 h1.2
  have t5 := (Bool.and_eq_true _ _).mp h1.1
  have t4 := (Bool.and_eq_true _ _).mp t5.1
  have t3 := (Bool.and_eq_true _ _).mp t4.1
  have t2 := (Bool.and_eq_true _ _).mp t3.1
  obtain ⟨v, n1⟩ := Option.isSome_iff_exists.1 t4.2
  obtain ⟨u, n2⟩ := Option.isSome_iff_exists.1 t5.2
  have d1 := num_dd n1
  have d2 := num_dd n2
  have w1 : ppW bs = v := by unfold ppW; rw [n1]; rfl
  have w2 : ppH bs = u := by unfold ppH; rw [n2]; rfl
  have c1 := cut_parts (s := ppR bs) (sep := [32]) (a := (ppA bs).1) (b := (ppA bs).2.1) (by have := t2.2; unfold ppA at this ⊢; rw [← this])
  have c2 := cut_parts (s := (ppA bs).2.1) (sep := [10, 50, 53, 53, 10]) (a := (ppB bs).1) (b := (ppB bs).2.1) (by have := t3.2; unfold ppB at this ⊢; rw [← this])
  have p1 : bs = [80, 53, 10] ++ ppR bs := by
    obtain ⟨r, hr⟩ := List.isPrefixOf_iff_prefix.1 (show List.isPrefixOf [80, 53, 10] bs = true from t2.1)
    unfold ppR Lib.trimPrefix
    rw [if_pos t2.1, ← hr]; rfl
  refine ⟨?_, by omega, by omega, by have := h2.2.2; have e : ((ppX bs).length : Int) = ((ppW bs * ppH bs : Nat) : Int) := by rw [this]; simp
                                     omega⟩
  rw [hd_split, w1, w2, ← d1.1, ← d2.1]
  unfold ppX
  rw [← c2, ← c1, ← p1]
end Go.Proofs.YtcgbpcipdanfhaaDoor
