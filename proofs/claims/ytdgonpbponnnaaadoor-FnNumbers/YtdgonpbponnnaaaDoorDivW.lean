/- A digit of a quotient, guessed and taken off in place: the program's guessDigit, takeTimes and addBack. No condition beyond those typed. -/
import Derived.Test.YtdgonpbponnnaaaDoorDivU
namespace Go.Proofs.YtdgonpbponnnaaaDoor
open Go.RowKit
set_option linter.unusedVariables false
set_option maxRecDepth 100000
set_option linter.unusedSimpArgs false

/-- The row qs with zs in it from place j on. -/
def mixW (qs : List Int) (j : Nat) (zs : List Int) : List Int := qs.take j ++ zs ++ qs.drop (j + zs.length)
theorem mixW_nil (qs : List Int) (j : Nat) : mixW qs j [] = qs := by simp [mixW]
theorem mixW_len (qs : List Int) (j : Nat) (zs : List Int) (h : j + zs.length ≤ qs.length) : (mixW qs j zs).length = qs.length := by simp [mixW]; omega
theorem mixW_get (qs : List Int) (j : Nat) (zs : List Int) (h : j + zs.length < qs.length) : (mixW qs j zs).getD (j + zs.length) 0 = qs.getD (j + zs.length) 0 := by
  unfold mixW
  simp only [List.getD_eq_getElem?_getD]
  rw [List.getElem?_append_right (by simp; omega)]
  simp only [List.length_append, List.length_take, List.getElem?_drop]
  congr 2
  omega
theorem mixW_set (qs : List Int) (j : Nat) (zs : List Int) (d : Int) (h : j + zs.length < qs.length) : (mixW qs j zs).set (j + zs.length) d = mixW qs j (zs ++ [d]) := by
  unfold mixW
  rw [List.set_append_right _ _ (by simp; omega)]
  rw [List.drop_eq_getElem_cons h]
  have e : j + zs.length - (List.take j qs ++ zs).length = 0 := by simp; omega
  rw [e, List.set_cons_zero]
  simp [Nat.add_assoc]
theorem mixW_ok {qs zs : List Int} {j : Nat} (h : okL qs) (k : okL zs) : okL (mixW qs j zs) := okL_append (okL_append (okL_take h _) k) (okL_drop h _)
/-- The cell of the row behind zs, and what a store there makes of it. -/
theorem mixW_owns {w : World} {base g L : Nat} {qs zs : List Int} {j k : Nat} (h : w.ownsRow base 3 1 (.slice (some ⟨g, 0, none⟩) L L) L ((mixW qs j zs).map (Value.int .i64))) (hL : qs.length = L) (hk : zs.length = k) (hj : j + k < L) (d : Int) :
    w.cell? ⟨g, j + k, none⟩ = some (.int .i64 (qs.getD (j + k) 0)) ∧ w.frozen? ⟨g, j + k, none⟩ = false ∧ (w.setCell ⟨g, j + k, none⟩ (.int .i64 d)).ownsRow base 3 1 (.slice (some ⟨g, 0, none⟩) L L) L ((mixW qs j (zs ++ [d])).map (Value.int .i64)) := by
  obtain ⟨h1, h2, h3⟩ := row_cell h (by rw [mixW_len _ _ _ (by omega)]; exact hL) hj d
  subst hk
  rw [mixW_get _ _ _ (by omega)] at h1
  rw [mixW_set _ _ _ _ (by omega)] at h3
  exact ⟨h1, h2, h3⟩
theorem row_at {w : World} {base g L : Nat} {qs : List Int} {k : Nat} (h : w.ownsRow base 3 1 (.slice (some ⟨g, 0, none⟩) L L) L (qs.map (Value.int .i64))) (hL : qs.length = L) (hk : k < L) : w.cell? ⟨g, k, none⟩ = some (.int .i64 (qs.getD k 0)) := (row_cell h hL hk 0).1
theorem win_get (qs : List Int) (j k m : Nat) (h : k < m) : ((qs.drop j).take m).getD k 0 = qs.getD (j + k) 0 := by
  simp only [List.getD_eq_getElem?_getD, List.getElem?_take, List.getElem?_drop]
  rw [if_pos h]

/-- A row and, in another block, limbs. -/
structure Win (base : Nat) (w : World) (g L : Nat) (qs : List Int) (b off m : Nat) (ys : List Int) : Prop where
  own : w.ownsRow base 3 1 (.slice (some ⟨g, 0, none⟩) L L) L (qs.map (Value.int .i64))
  len : qs.length = L
  ok : okL qs
  top : L ≤ 1000001
  ne : b ≠ g
  cells : ∀ i, i < m → w.cell? ⟨b, off + i, none⟩ = some (.int .i64 (ys.getD i 0))
  ylen : ys.length = m
  yok : okL ys

/-- What is left of a window: its limbs turned. -/
def Took (base : Nat) (w : World) (g L : Nat) (qs : List Int) (j m : Nat) (V : Int) (w' : World) : Prop :=
  ∃ zs, But g (g + 1) w w' ∧ zs.length = m + 1 ∧ okL zs ∧ val zs = V ∧ w'.ownsRow base 3 1 (.slice (some ⟨g, 0, none⟩) L L) L ((mixW qs j zs).map (Value.int .i64))

theorem Acc.mod {zs : List Int} {n : Nat} {cy V : Int} (h : Acc zs n cy V) : val zs = V % 65536 ^ n ∧ (cy < 0 ↔ V < 0) := by
  have e := h.v
  have l1 := val_nonneg h.ok
  have l2 := val_lt h.ok
  rw [h.len] at l2
  have hp : (0 : Int) < 65536 ^ n := Int.pow_pos (by omega)
  constructor
  · rw [← e, Int.add_mul_emod_self_left, Int.emod_eq_of_lt l1 l2]
  · constructor
    · intro hc
      have : 65536 ^ n * cy ≤ 65536 ^ n * (-1) := Int.mul_le_mul_of_nonneg_left (by omega) (by omega)
      omega
    · intro hv
      rcases Int.lt_or_le cy 0 with h' | h'
      · exact h'
      · have := Int.mul_nonneg (show (0 : Int) ≤ 65536 ^ n by omega) h'
        omega

/-- A guess on its way down. -/
structure GInv (dg lf top v1 v2 u2 : Int) : Prop where
  d0 : 0 ≤ dg
  l0 : 0 ≤ lf
  e : dg * v1 + lf = top
  gt : 65536 ≤ dg + 1 ∨ top * 65536 + u2 < (dg + 1) * (v1 * 65536 + v2)
theorem GInv.start {top v1 v2 u2 : Int} (ht : 0 ≤ top) (h1 : 0 < v1) (h2 : 0 ≤ v2) (hu : u2 ≤ 65535) : GInv (top / v1) (top % v1) top v1 v2 u2 := by
  have e := Int.mul_ediv_add_emod top v1
  have m0 : 0 ≤ top % v1 := Int.emod_nonneg _ (by omega)
  have m1 : top % v1 < v1 := Int.emod_lt_of_pos _ h1
  have q0 : 0 ≤ top / v1 := Int.ediv_nonneg ht (by omega)
  refine ⟨q0, m0, by rw [Int.mul_comm]; exact e, .inr ?_⟩
  have e1 : (top / v1 + 1) * (v1 * 65536 + v2) = (v1 * (top / v1)) * 65536 + v1 * 65536 + (top / v1 + 1) * v2 := by
    rw [Int.mul_add, ← Int.mul_assoc, Int.add_mul (top / v1) 1 v1, Int.add_mul, Int.mul_comm (top / v1) v1, Int.one_mul]
  have e2 : 0 ≤ (top / v1 + 1) * v2 := Int.mul_nonneg (by omega) h2
  rw [e1]
  omega
theorem GInv.bounds {dg lf top v1 v2 u2 : Int} (h : GInv dg lf top v1 v2 u2) (h1 : 1 ≤ v1) (hv0 : 0 ≤ v2) (hv : v2 ≤ 65535) (ht : top ≤ 4294967295) : dg ≤ top ∧ lf ≤ top ∧ 0 ≤ dg * v2 ∧ dg * v2 ≤ 281470681677825 := by
  have a1 : dg * 1 ≤ dg * v1 := Int.mul_le_mul_of_nonneg_left h1 h.d0
  have a2 := h.e
  have a3 := h.l0
  have a4 := h.d0
  have a5 : dg * v2 ≤ 4294967295 * 65535 := Int.mul_le_mul (by omega) hv hv0 (by omega)
  have a6 : 0 ≤ dg * v2 := Int.mul_nonneg h.d0 hv0
  exact ⟨by omega, by omega, a6, by omega⟩
theorem GInv.next {dg lf top v1 v2 u2 : Int} (h : GInv dg lf top v1 v2 u2) (h1 : 0 ≤ v1) (hu : 0 ≤ u2) (hc : 65536 ≤ dg ∨ lf * 65536 + u2 < dg * v2) : 0 < dg ∧ GInv (dg - 1) (lf + v1) top v1 v2 u2 := by
  have hd : 0 < dg := by
    rcases hc with hc | hc
    · omega
    · rcases Int.lt_or_le 0 dg with h' | h'
      · exact h'
      · have e : dg = 0 := by have := h.d0; omega
        rw [e] at hc
        have := h.l0
        omega
  refine ⟨hd, by omega, by have := h.l0; omega, by rw [Int.sub_mul, Int.one_mul]; have := h.e; omega, ?_⟩
  rcases hc with hc | hc
  · exact .inl (by omega)
  · refine .inr ?_
    rw [show dg - 1 + 1 = dg by omega, Int.mul_add, ← Int.mul_assoc]
    have := h.e
    omega
theorem GInv.stop {dg lf top v1 v2 u2 : Int} (h : GInv dg lf top v1 v2 u2) (hd : dg ≤ 65535) (hc : dg * v2 ≤ lf * 65536 + u2) : Guess dg (top * 65536 + u2) (v1 * 65536 + v2) := by
  refine ⟨h.d0, hd, ?_, ?_⟩
  · rw [Int.mul_add, ← Int.mul_assoc]
    have := h.e
    omega
  · rcases h.gt with h' | h'
    · exact .inl (by omega)
    · exact .inr h'

theorem mixW_win (qs : List Int) (j : Nat) (zs : List Int) (h : j ≤ qs.length) {n : Nat} (hn : zs.length = n) : ((mixW qs j zs).drop j).take n = zs := by
  unfold mixW
  rw [List.append_assoc, List.drop_append, List.drop_of_length_le (by simp; omega), List.length_take, Nat.min_eq_left h, Nat.sub_self, List.drop_zero, List.nil_append, ← hn, List.take_left]
theorem mixW_mixW (qs : List Int) (j : Nat) (zs zs' : List Int) (h : j + zs.length ≤ qs.length) (he : zs.length = zs'.length) : mixW (mixW qs j zs) j zs' = mixW qs j zs' := by
  unfold mixW
  rw [← he]
  have e1 : (List.take j qs ++ zs ++ List.drop (j + zs.length) qs).take j = List.take j qs := by
    rw [List.append_assoc, List.take_append, List.take_of_length_le (by simp; omega), List.length_take, Nat.min_eq_left (by omega), Nat.sub_self, List.take_zero, List.append_nil]
  have e2 : (List.take j qs ++ zs ++ List.drop (j + zs.length) qs).drop (j + zs.length) = List.drop (j + zs.length) qs := by
    have : (List.take j qs ++ zs).length = j + zs.length := by simp; omega
    rw [← this, List.drop_left]
  rw [e1, e2]
theorem win_top (W : List Int) (t : Nat) : val (W.take (t + 3)) = val (W.take t) + 65536 ^ t * ((W.getD (t + 2) 0 * 65536 + W.getD (t + 1) 0) * 65536 + W.getD t 0) := by
  rw [val_take_succ W (t + 2), val_take_succ W (t + 1), val_take_succ W t]
  simp only [Int.pow_succ]
  generalize W.getD t 0 = a
  generalize W.getD (t + 1) 0 = b
  generalize W.getD (t + 2) 0 = c
  generalize (65536 : Int) ^ t = p
  have e1 : p * ((c * 65536 + b) * 65536 + a) = p * c * 65536 * 65536 + p * b * 65536 + p * a := by
    rw [Int.mul_add, Int.add_mul, Int.mul_add, ← Int.mul_assoc, ← Int.mul_assoc, ← Int.mul_assoc]
  have e2 : p * 65536 * b = p * b * 65536 := by rw [Int.mul_assoc, Int.mul_comm 65536 b, ← Int.mul_assoc]
  have e3 : p * 65536 * 65536 * c = p * c * 65536 * 65536 := by rw [Int.mul_right_comm (p * 65536) 65536 c, Int.mul_right_comm p 65536 c]
  omega
theorem two_top (Y : List Int) (t : Nat) : val (Y.take (t + 2)) = val (Y.take t) + 65536 ^ t * (Y.getD (t + 1) 0 * 65536 + Y.getD t 0) := by
  rw [val_take_succ Y (t + 1), val_take_succ Y t, Int.pow_succ, Int.mul_add, ← Int.mul_assoc, Int.mul_assoc _ 65536, Int.mul_comm 65536, ← Int.mul_assoc]
  omega
/-- What a guess is worth. -/
theorem guess_good {qs ys : List Int} {j m : Nat} {d : Int} (hq : okL qs) (hy : okL ys) (hyl : ys.length = m) (hm : 2 ≤ m) (hv1 : 1 ≤ ys.getD (m - 1) 0) (hlt : val ((qs.drop j).take (m + 1)) < val ys * 65536)
    (h : Guess d ((qs.getD (j + m) 0 * 65536 + qs.getD (j + (m - 1)) 0) * 65536 + qs.getD (j + (m - 2)) 0) (ys.getD (m - 1) 0 * 65536 + ys.getD (m - 2) 0)) :
    val ((qs.drop j).take (m + 1)) / val ys ≤ d ∧ d ≤ val ((qs.drop j).take (m + 1)) / val ys + 1 := by
  obtain ⟨t, rfl⟩ : ∃ t, m = t + 2 := ⟨m - 2, by omega⟩
  have e1 := win_top ((qs.drop j).take (t + 2 + 1)) t
  have e2 := two_top ys t
  rw [win_get qs j (t + 2) _ (by omega), win_get qs j (t + 1) _ (by omega), win_get qs j t _ (by omega), List.take_take, Nat.min_eq_left (by omega)] at e1
  rw [List.take_of_length_le (l := ys) (i := t + 2) (by omega)] at e2
  simp only [Nat.add_sub_cancel, show t + 2 - 1 = t + 1 by omega] at h hv1
  have hw : okL (((qs.drop j).take (t + 2 + 1)).take t) := okL_take (okL_take (okL_drop hq _) _) _
  have p0 := val_nonneg hw
  have p1 := val_lt hw
  have y0 := val_nonneg (okL_take hy t)
  have y1 := val_lt (okL_take hy t)
  have hp : ∀ l : Nat, l ≤ t → (65536 : Int) ^ l ≤ 65536 ^ t := fun l hl => pow_mono hl
  have hp1 := hp (((qs.drop j).take (t + 2 + 1)).take t).length (by rw [List.length_take]; omega)
  have hp2 := hp (ys.take t).length (by rw [List.length_take]; omega)
  have b2 := okL_get hy t
  have a0 := okL_get hq (j + (t + 2))
  have a1 := okL_get hq (j + (t + 1))
  have a2 := okL_get hq (j + t)
  exact guess_near h (Int.pow_pos (by omega)) e1 p0 (by omega) e2 y0 (by omega) (by omega) hlt (by omega)

theorem Win.drewN {base : Nat} {w : World} {g L : Nat} {qs : List Int} {b off m : Nat} {ys : List Int} (h : Win base w g L qs b off m ys) (N : Nat) : Win base (w.drewN N) g L qs b off m ys :=
  ⟨owns_drewN h.own N, h.len, h.ok, h.top, h.ne, h.cells, h.ylen, h.yok⟩
theorem Took.drewN {base : Nat} {w w' : World} {g L : Nat} {qs : List Int} {j m : Nat} {V : Int} {N : Nat} (h : Took base (w.drewN N) g L qs j m V w') : Took base w g L qs j m V w' := by
  obtain ⟨zs, hb, h1, h2, h3, h4⟩ := h
  exact ⟨zs, ⟨hb.os, hb.tape, hb.output, hb.size, hb.block⟩, h1, h2, h3, h4⟩
theorem Took.win {base : Nat} {w w' : World} {g L : Nat} {qs : List Int} {j b off m : Nat} {ys : List Int} {V : Int} (h : Took base w g L qs j m V w') (hw : Win base w g L qs b off m ys) (hj : j + m < L) :
    ∃ zs, zs.length = m + 1 ∧ okL zs ∧ val zs = V ∧ But g (g + 1) w w' ∧ Win base w' g L (mixW qs j zs) b off m ys := by
  obtain ⟨zs, hb, h1, h2, h3, h4⟩ := h
  refine ⟨zs, h1, h2, h3, hb, h4, ?_, mixW_ok hw.ok h2, hw.top, hw.ne, fun i hi => hb.cell (hw.cells i hi) (by have := hw.ne; omega), hw.ylen, hw.yok⟩
  rw [mixW_len _ _ _ (by rw [hw.len]; omega)]
  exact hw.len
/-- A digit too great by one, put right. -/
theorem take_math {P V d B : Int} (hV : 0 < V) (hVB : V ≤ B) (hd : P / V ≤ d) (hd1 : d ≤ P / V + 1) : (P - d * V < 0 → d - 1 = P / V ∧ ((P - d * V) % B + V) % B = P % V) ∧ (¬ P - d * V < 0 → d = P / V ∧ (P - d * V) % B = P % V) := by
  have e := Int.mul_ediv_add_emod P V
  have m0 : 0 ≤ P % V := Int.emod_nonneg _ (by omega)
  have m1 : P % V < V := Int.emod_lt_of_pos _ hV
  rcases (show d = P / V ∨ d = P / V + 1 from by omega) with h | h
  · have e2 : P - d * V = P % V := by rw [h, Int.mul_comm]; omega
    rw [e2]
    exact ⟨fun h' => by omega, fun _ => ⟨h, Int.emod_eq_of_lt m0 (by omega)⟩⟩
  · have e2 : P - d * V = P % V - V := by rw [h, Int.add_mul, Int.mul_comm]; omega
    rw [e2]
    refine ⟨fun _ => ⟨by omega, ?_⟩, fun h' => by omega⟩
    rw [Int.emod_add_emod, Int.sub_add_cancel, Int.emod_eq_of_lt m0 (by omega)]

end Go.Proofs.YtdgonpbponnnaaaDoor
