/- What the specification reads of a picture's text, plainly: the same. No program is spoken of. -/
import Derived.Test.YtcgbpcipdanfhaaRs15
namespace Go.Proofs.Ytcgbpcipdanfhaa
open Go.RowKit
set_option linter.unusedVariables false
set_option maxRecDepth 100000
set_option linter.unusedSimpArgs false

def spOK (bs : List UInt8) : Bool := ((((decide (3 ≤ bs.length) && decide (bs.length ≤ 200)) && (bs.take 3 == [80, 53, 10])) && (inR (lpA bs 3 32) 1 10 && inR (lpB bs 3 32) 1 10)) && (((bs.length : Int) - (lpE bs 3 32 : Int)) == 5 + lpA bs 3 32 * lpB bs 3 32)) && ((bs.drop (lpE bs 3 32)).take 5 == [10, 50, 53, 53, 10])
theorem li_some {l : List UInt8} {v : Nat} (h : numV 9999 (dgs l) = some v) : liV l = (v : Int) ∧ liK l = (Lib.decDigits v).length ∧ l = Lib.decDigits v ++ l.drop (Lib.decDigits v).length := by
  have d := num_dd h
  have p := dgs_pre l
  refine ⟨by unfold liV; rw [h], by unfold liK; rw [h, d.1], ?_⟩
  rw [← d.1]; exact p
theorem li_pos {l : List UInt8} (h : 0 ≤ liV l) : ∃ v : Nat, numV 9999 (dgs l) = some v := by
  unfold liV at h
  split at h
  · omega
  · rename_i v e
    exact ⟨v, e⟩
theorem li_of {x : Nat} {l r : List UInt8} (h : l = Lib.decDigits x ++ r) (hx : x ≤ 9999) (hr : ∀ c t, r = c :: t → isD c = false) : numV 9999 (dgs l) = some x := by
  rw [dgs_of h (dd_digits x) (dd_len 3 x (by omega)) hr]
  exact dd_num hx
theorem drop_add_left {d r : List UInt8} {l : List UInt8} {a : Nat} (h : l.drop a = d ++ r) : l.drop (a + d.length) = r := by
  rw [← List.drop_drop, h, List.drop_left]
theorem sp_pic {bs : List UInt8} (h : spOK bs = true) : PicP bs (lpA bs 3 32).toNat (lpB bs 3 32).toNat (bs.drop (lpE bs 3 32 + 5)) ∧ (1 ≤ lpA bs 3 32 ∧ lpA bs 3 32 ≤ 10) ∧ (1 ≤ lpB bs 3 32 ∧ lpB bs 3 32 ≤ 10) := by
  unfold spOK at h
  have t5 := (Bool.and_eq_true _ _).mp h
  have t4 := (Bool.and_eq_true _ _).mp t5.1
  have t3 := (Bool.and_eq_true _ _).mp t4.1
  have t2 := (Bool.and_eq_true _ _).mp t3.1
  have ab := (Bool.and_eq_true _ _).mp t3.2
  have hA := inR_in15 ab.1
  have hB := inR_in15 ab.2
  have p3 : bs.take 3 = [80, 53, 10] := by simpa using t2.2
  have mk : (bs.drop (lpE bs 3 32)).take 5 = [10, 50, 53, 53, 10] := by simpa using t5.2
  have ln : (bs.length : Int) - (lpE bs 3 32 : Int) = 5 + lpA bs 3 32 * lpB bs 3 32 := by simpa using t4.2
  have ok : lpOK bs 3 32 = true := by
    cases z : lpOK bs 3 32
    · have : lpA bs 3 32 = -1 := by unfold lpA; rw [z]; rfl
      omega
    · rfl
  have eA : lpA bs 3 32 = liV (bs.drop 3) := by unfold lpA; rw [ok]; rfl
  have eB : lpB bs 3 32 = liV (bs.drop (lpK bs 3 + 1)) := by unfold lpB; rw [ok]; rfl
  have eE : lpE bs 3 32 = lpK bs (lpK bs 3 + 1) := by unfold lpE; rw [ok]; rfl
  unfold lpOK at ok
  have ok2 := ((Bool.and_eq_true _ _).mp ok).2
  have hd : (bs.drop (lpK bs 3)).head? = some 32 := by simpa using ok2
  obtain ⟨x, nx⟩ := li_pos (l := bs.drop 3) (by omega)
  obtain ⟨y, ny⟩ := li_pos (l := bs.drop (lpK bs 3 + 1)) (by omega)
  obtain ⟨x1, x2, x3⟩ := li_some nx
  obtain ⟨y1, y2, y3⟩ := li_some ny
  have k1 : lpK bs 3 = 3 + (Lib.decDigits x).length := by unfold lpK; rw [x2]
  have d1 : bs.drop (lpK bs 3) = 32 :: bs.drop (lpK bs 3 + 1) := by
    cases q : bs.drop (lpK bs 3) with
    | nil => rw [q] at hd; cases hd
    | cons c t =>
      rw [q] at hd
      have : c = 32 := by simpa using hd
      subst this
      rw [← List.drop_drop, q]; rfl
  have k2 : lpE bs 3 32 = lpK bs 3 + 1 + (Lib.decDigits y).length := by rw [eE, show lpK bs (lpK bs 3 + 1) = lpK bs 3 + 1 + liK (bs.drop (lpK bs 3 + 1)) from rfl, y2]
  have d2 : bs.drop (lpE bs 3 32) = [10, 50, 53, 53, 10] ++ bs.drop (lpE bs 3 32 + 5) := by
    rw [← mk, ← List.drop_drop, List.take_append_drop]
  have d3 : (bs.drop (lpK bs 3 + 1)).drop (Lib.decDigits y).length = bs.drop (lpE bs 3 32) := by rw [List.drop_drop, k2]
  have d4 : (bs.drop 3).drop (Lib.decDigits x).length = bs.drop (lpK bs 3) := by rw [List.drop_drop, k1]
  have e : bs = [80, 53, 10] ++ (Lib.decDigits x ++ [32] ++ (Lib.decDigits y ++ [10, 50, 53, 53, 10] ++ bs.drop (lpE bs 3 32 + 5))) := by
    conv => lhs; rw [← List.take_append_drop 3 bs, p3, x3, d4, d1, y3, d3, d2]
    simp
  have vx : lpA bs 3 32 = (x : Int) := by rw [eA, x1]
  have vy : lpB bs 3 32 = (y : Int) := by rw [eB, y1]
  refine ⟨⟨?_, by omega, by omega, ?_⟩, hA, hB⟩
  · rw [vx, vy, Int.toNat_natCast, Int.toNat_natCast, hd_split]; exact e
  · rw [vx, vy, Int.toNat_natCast, Int.toNat_natCast, List.length_drop]
    rw [vx, vy] at ln
    have : ((x * y : Nat) : Int) = (x : Int) * (y : Int) := by simp
    omega
theorem pic_sp {bs : List UInt8} {x y : Nat} {t : List UInt8} (h : PicP bs x y t) : spOK bs = true ∧ lpA bs 3 32 = (x : Int) ∧ lpB bs 3 32 = (y : Int) ∧ bs.drop (lpE bs 3 32 + 5) = t := by
  obtain ⟨e, hx, hy, ht⟩ := h
  have hl : bs.length = (hd15 x y).length + x * y := by rw [e, List.length_append, ht]
  have hh := hd_len hx.2 hy.2
  have xy : ((x * y : Nat) : Int) = (x : Int) * (y : Int) := by simp
  have m := mul15 (w := (x : Int)) (h := (y : Int)) (by omega) (by omega)
  rw [hd_split] at e
  have d3 : bs.drop 3 = Lib.decDigits x ++ (32 :: (Lib.decDigits y ++ [10, 50, 53, 53, 10] ++ t)) := by rw [e]; simp
  have n1 := li_of d3 (by omega) (fun c s q => by
    have : c = 32 := by simpa using (List.cons.inj q).1.symm
    subst this; decide)
  obtain ⟨x1, x2, x3⟩ := li_some n1
  have k1 : lpK bs 3 = 3 + (Lib.decDigits x).length := by unfold lpK; rw [x2]
  have d4 : bs.drop (lpK bs 3) = 32 :: (Lib.decDigits y ++ [10, 50, 53, 53, 10] ++ t) := by rw [k1]; exact drop_add_left d3
  have d5 : bs.drop (lpK bs 3 + 1) = Lib.decDigits y ++ ([10, 50, 53, 53, 10] ++ t) := by rw [← List.drop_drop, d4]; simp
  have n2 := li_of d5 (by omega) (fun c s q => by
    have : c = 10 := by simpa using (List.cons.inj q).1.symm
    subst this; decide)
  obtain ⟨y1, y2, y3⟩ := li_some n2
  have ok : lpOK bs 3 32 = true := by unfold lpOK; rw [x1, d4, decide_eq_true (by omega)]; rfl
  have eA : lpA bs 3 32 = (x : Int) := by unfold lpA; rw [ok, if_pos rfl, x1]
  have eB : lpB bs 3 32 = (y : Int) := by unfold lpB; rw [ok, if_pos rfl, y1]
  have eE : lpE bs 3 32 = lpK bs 3 + 1 + (Lib.decDigits y).length := by unfold lpE; rw [ok, if_pos rfl, show lpK bs (lpK bs 3 + 1) = lpK bs 3 + 1 + liK (bs.drop (lpK bs 3 + 1)) from rfl, y2]
  have d6 : bs.drop (lpE bs 3 32) = [10, 50, 53, 53, 10] ++ t := by rw [eE]; exact drop_add_left d5
  have d7 : bs.drop (lpE bs 3 32 + 5) = t := by rw [← List.drop_drop, d6]; rfl
  have lE : lpE bs 3 32 + 5 + x * y = bs.length := by
    have := congrArg List.length d7
    rw [List.length_drop, ht] at this
    have le : lpE bs 3 32 + 5 ≤ bs.length := by
      have := congrArg List.length d6
      rw [List.length_drop, List.length_append] at this
      simp at this; omega
    omega
  refine ⟨?_, eA, eB, d7⟩
  unfold spOK
  rw [eA, eB, d6]
  have i1 : inR (x : Int) 1 10 = true := by unfold inR; simp; omega
  have i2 : inR (y : Int) 1 10 = true := by unfold inR; simp; omega
  have l3 : decide (3 ≤ bs.length) = true := decide_eq_true (by omega)
  have l2 : decide (bs.length ≤ 200) = true := decide_eq_true (by omega)
  have p3 : bs.take 3 = [80, 53, 10] := by rw [e]; rfl
  rw [i1, i2, l3, l2, p3, show ((bs.length : Int) - (lpE bs 3 32 : Int)) = 5 + (x : Int) * (y : Int) by omega]
  simp
theorem sp_eq (bs : List UInt8) : spOK bs = rpB bs := by
  cases h : rpB bs
  · cases k : spOK bs
    · rfl
    · have := (pic_read (sp_pic k).1).1
      rw [h] at this; cases this
  · exact (pic_sp (read_pic h)).1
theorem sp_vals {bs : List UInt8} (h : spOK bs = true) : lpA bs 3 32 = (ppW bs : Int) ∧ lpB bs 3 32 = (ppH bs : Int) ∧ bs.drop (lpE bs 3 32 + 5) = ppX bs := by
  have := pic_sp (read_pic (by rw [← sp_eq]; exact h))
  exact this.2
end Go.Proofs.Ytcgbpcipdanfhaa
