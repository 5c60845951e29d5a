/- A digit of a quotient, guessed and taken off in place: the program's guessDigit, takeTimes and addBack. No condition beyond those typed. -/
import Derived.Test.YtdgonpbponnnaaaGreatDoorDivU
namespace Go.Proofs.YtdgonpbponnnaaaGreatDoor
open Go.RowKit
set_option linter.unusedVariables false
set_option maxRecDepth 100000
set_option linter.unusedSimpArgs false

/-- The row qs with zs in it from place j on. -/
def mixW (qs : List Int) (j : Nat) (zs : List Int) : List Int := qs.take j ++ zs ++ qs.drop (j + zs.length)
theorem mixW_nil (qs : List Int) (j : Nat) : mixW qs j [] = qs := by simp [mixW]
theorem mixW_len (qs : List Int) (j : Nat) (zs : List Int) (h : j + zs.length ≤ qs.length) : (mixW qs j zs).length = qs.length := by simp [mixW]; omega
theorem mixW_get (qs : List Int) (j : Nat) (zs : List Int) (h : j + zs.length < qs.length) : (mixW qs j zs).getD (j + zs.length) 0 = qs.getD (j + zs.length) 0 := by
  unfold mixW
  simp only [List.getD_eq_getElem?_getD]
  rw [List.getElem?_append_right (by simp; omega)]
  simp only [List.length_append, List.length_take, List.getElem?_drop]
  congr 2
  omega
theorem mixW_set (qs : List Int) (j : Nat) (zs : List Int) (d : Int) (h : j + zs.length < qs.length) : (mixW qs j zs).set (j + zs.length) d = mixW qs j (zs ++ [d]) := by
  unfold mixW
  rw [List.set_append_right _ _ (by simp; omega)]
  rw [List.drop_eq_getElem_cons h]
  have e : j + zs.length - (List.take j qs ++ zs).length = 0 := by simp; omega
  rw [e, List.set_cons_zero]
  simp [Nat.add_assoc]
theorem mixW_ok {qs zs : List Int} {j : Nat} (h : okL qs) (k : okL zs) : okL (mixW qs j zs) := okL_append (okL_append (okL_take h _) k) (okL_drop h _)
/-- The cell of the row behind zs, and what a store there makes of it. -/
theorem mixW_owns {w : World} {base g L : Nat} {qs zs : List Int} {j k : Nat} (h : w.ownsRow base 3 1 (.slice (some ⟨g, 0, none⟩) L L) L ((mixW qs j zs).map (Value.int .i64))) (hL : qs.length = L) (hk : zs.length = k) (hj : j + k < L) (d : Int) :
    w.cell? ⟨g, j + k, none⟩ = some (.int .i64 (qs.getD (j + k) 0)) ∧ w.frozen? ⟨g, j + k, none⟩ = false ∧ (w.setCell ⟨g, j + k, none⟩ (.int .i64 d)).ownsRow base 3 1 (.slice (some ⟨g, 0, none⟩) L L) L ((mixW qs j (zs ++ [d])).map (Value.int .i64)) := by
  obtain ⟨h1, h2, h3⟩ := row_cell h (by rw [mixW_len _ _ _ (by omega)]; exact hL) hj d
  subst hk
  rw [mixW_get _ _ _ (by omega)] at h1
  rw [mixW_set _ _ _ _ (by omega)] at h3
  exact ⟨h1, h2, h3⟩
theorem row_at {w : World} {base g L : Nat} {qs : List Int} {k : Nat} (h : w.ownsRow base 3 1 (.slice (some ⟨g, 0, none⟩) L L) L (qs.map (Value.int .i64))) (hL : qs.length = L) (hk : k < L) : w.cell? ⟨g, k, none⟩ = some (.int .i64 (qs.getD k 0)) := (row_cell h hL hk 0).1
theorem win_get (qs : List Int) (j k m : Nat) (h : k < m) : ((qs.drop j).take m).getD k 0 = qs.getD (j + k) 0 := by
  simp only [List.getD_eq_getElem?_getD, List.getElem?_take, List.getElem?_drop]
  rw [if_pos h]

/-- A row and, in another block, limbs. -/
structure Win (base : Nat) (w : World) (g L : Nat) (qs : List Int) (b off m : Nat) (ys : List Int) : Prop where
  own : w.ownsRow base 3 1 (.slice (some ⟨g, 0, none⟩) L L) L (qs.map (Value.int .i64))
  len : qs.length = L
  ok : okL qs
  top : L ≤ 1000001
  ne : b ≠ g
  cells : ∀ i, i < m → w.cell? ⟨b, off + i, none⟩ = some (.int .i64 (ys.getD i 0))
  ylen : ys.length = m
  yok : okL ys

/-- What is left of a window: its limbs turned. -/
def Took (base : Nat) (w : World) (g L : Nat) (qs : List Int) (j m : Nat) (V : Int) (w' : World) : Prop :=
  ∃ zs, But g (g + 1) w w' ∧ zs.length = m + 1 ∧ okL zs ∧ val zs = V ∧ w'.ownsRow base 3 1 (.slice (some ⟨g, 0, none⟩) L L) L ((mixW qs j zs).map (Value.int .i64))

theorem Acc.mod {zs : List Int} {n : Nat} {cy V : Int} (h : Acc zs n cy V) : val zs = V % 65536 ^ n ∧ (cy < 0 ↔ V < 0) := by
  have e := h.v
  have l1 := val_nonneg h.ok
  have l2 := val_lt h.ok
  rw [h.len] at l2
  have hp : (0 : Int) < 65536 ^ n := Int.pow_pos (by omega)
  constructor
  · rw [← e, Int.add_mul_emod_self_left, Int.emod_eq_of_lt l1 l2]
  · constructor
    · intro hc
      have : 65536 ^ n * cy ≤ 65536 ^ n * (-1) := Int.mul_le_mul_of_nonneg_left (by omega) (by omega)
      omega
    · intro hv
      rcases Int.lt_or_le cy 0 with h' | h'
      · exact h'
      · have := Int.mul_nonneg (show (0 : Int) ≤ 65536 ^ n by omega) h'
        omega

set_option maxHeartbeats 4000000 in
theorem timesI_any (base : Nat) (w : World) (g L : Nat) (qs : List Int) (b off m : Nat) (ys : List Int) (j c c' : Nat) (d : Int) (hw : Win base w g L qs b off m ys) (hj : j + m < L) (d0 : 0 ≤ d) (d1 : d ≤ 65535) (hc : m + 1 ≤ c) :
    Calls Tryz.prog 119 #[.slice (some ⟨g, j, none⟩) (m + 1) c, .slice (some ⟨b, off, none⟩) m c', .int .i64 d] w fun e w' =>
      e = .returned (.bool (decide (val ((qs.drop j).take (m + 1)) - d * val ys < 0))) ∧ Took base w g L qs j m ((val ((qs.drop j).take (m + 1)) - d * val ys) % 65536 ^ (m + 1)) w' := by
  have HW := hide hw
  have htop := hw.top
  have hbg := hw.ne
  have hmask := and_mask
  clear hw
  go_enter Tryz.func119, Tryz.ntmps119
  go_wp2
  go_loopw [7, 12] (fun cv iv wr => ∃ (k : Nat) (cy : Int) (zs : List Int), k ≤ m ∧ iv = .int .i64 k ∧ cv = .int .i64 cy ∧ -65536 ≤ cy ∧ cy ≤ 0 ∧ Hid (Acc zs k cy (val (((qs.drop j).take (m + 1)).take k) - d * val (ys.take k))) ∧
      Hid (wr.ownsRow base 3 1 (.slice (some ⟨g, 0, none⟩) L L) L ((mixW qs j zs).map (Value.int .i64))) ∧ Hid (But g (g + 1) w wr)) (fun _ iv _ => m - (intOf iv).toNat)
  case atStart => exact ⟨0, 0, [], Nat.zero_le _, rfl, rfl, by omega, by omega, hide (by simpa [val] using Acc.start), hide (by rw [mixW_nil]; exact (unhide HW).own), hide (But.refl _ _ _)⟩
  case round =>
    obtain ⟨k, cy, zs, hk, rfl, rfl, hc0, hc1, HA, HO, HB⟩ := hrel
    by_cases hlt : k < m
    · have hcy := (unhide HB).cell ((unhide HW).cells k hlt) (by omega)
      have hyb := okL_get (unhide HW).yok k
      have hqb := okL_get (unhide HW).ok (j + k)
      have hvy := hide (val_take_succ ys k)
      have hvq := hide (val_take_succ ((qs.drop j).take (m + 1)) k)
      rw [win_get qs j k (m + 1) (by omega)] at hvq
      obtain ⟨r1, r2, r3⟩ := mixW_owns (unhide HO) (unhide HW).len (unhide HA).len (show j + k < L by omega) ((cy + (qs.getD (j + k) 0 - d * ys.getD k 0)) % 65536)
      have R3 := hide r3
      clear r3
      generalize ys.getD k 0 = y at *
      generalize qs.getD (j + k) 0 = q at *
      obtain ⟨hy0, hy1⟩ := hyb
      obtain ⟨hq0, hq1⟩ := hqb
      obtain ⟨hm0, hm1⟩ := mul_bound d0 d1 hy0 hy1
      have hlt' : (k : Int) < (m : Int) := by omega
      have HA2 := hide ((unhide HA).step (cy + (q - d * y)))
      have HB2 := hide ((unhide HB).set (p := ⟨g, j + k, none⟩) (Nat.le_refl _) (Nat.lt_succ_self _) (.int .i64 ((cy + (q - d * y)) % 65536)))
      clear HO
      go_wp2
      go_roundw
      case rel => exact ⟨k + 1, _, _, by omega, by go_num, rfl, by omega, by omega, hide ((unhide HA2).cast (by rw [unhide hvq, unhide hvy, Int.mul_add, show cy + (q - d * y) - cy = q - d * y by omega, Int.mul_sub, ← Int.mul_assoc, ← Int.mul_assoc, Int.mul_comm d (65536 ^ k)]; omega)), R3, HB2⟩
      case measure => simp [intOf]; omega
    · obtain rfl : k = m := by omega
      have hqb := okL_get (unhide HW).ok (j + k)
      have hvq := hide (val_take_succ ((qs.drop j).take (k + 1)) k)
      rw [win_get qs j k (k + 1) (by omega)] at hvq
      obtain ⟨r1, r2, r3⟩ := mixW_owns (unhide HO) (unhide HW).len (unhide HA).len (show j + k < L by omega) ((cy + qs.getD (j + k) 0) % 65536)
      have R3 := hide r3
      clear r3
      generalize qs.getD (j + k) 0 = q at *
      obtain ⟨hq0, hq1⟩ := hqb
      have HA2 := hide ((unhide HA).step (cy + q))
      have HB2 := hide ((unhide HB).set (p := ⟨g, j + k, none⟩) (Nat.le_refl _) (Nat.lt_succ_self _) (.int .i64 ((cy + q) % 65536)))
      clear HO
      go_wp2
      go_ret
      have hA : Acc (zs ++ [(cy + q) % 65536]) (k + 1) ((cy + q) / 65536) (val ((qs.drop j).take (k + 1)) - d * val ys) := (unhide HA2).cast (by
        have e1 := unhide hvq
        rw [List.take_of_length_le (l := (qs.drop j).take (k + 1)) (by rw [List.length_take]; omega)] at e1
        rw [e1, List.take_of_length_le (l := ys) (by rw [(unhide HW).ylen]; exact Nat.le_refl _), show cy + q - cy = q by omega]
        omega)
      obtain ⟨m1, m2⟩ := hA.mod
      refine ⟨?_, _, unhide HB2, hA.len, hA.ok, m1, unhide R3⟩
      have : decide (cy + q < 0) = decide (val ((qs.drop j).take (k + 1)) - d * val ys < 0) := by
        apply decide_eq_decide.2
        rw [← m2]
        omega
      rw [← this]
      rfl

set_option maxHeartbeats 4000000 in
theorem backI_any (base : Nat) (w : World) (g L : Nat) (qs : List Int) (b off m : Nat) (ys : List Int) (j c c' : Nat) (hw : Win base w g L qs b off m ys) (hj : j + m < L) (hc : m + 1 ≤ c) :
    Calls Tryz.prog 120 #[.slice (some ⟨g, j, none⟩) (m + 1) c, .slice (some ⟨b, off, none⟩) m c'] w fun e w' =>
      e = .returned (.tuple #[]) ∧ Took base w g L qs j m ((val ((qs.drop j).take (m + 1)) + val ys) % 65536 ^ (m + 1)) w' := by
  have HW := hide hw
  have htop := hw.top
  have hbg := hw.ne
  have hmask := and_mask
  clear hw
  go_enter Tryz.func120, Tryz.ntmps120
  go_wp2
  go_loopw [4, 9] (fun cv iv wr => ∃ (k : Nat) (cy : Int) (zs : List Int), k ≤ m ∧ iv = .int .i64 k ∧ cv = .int .i64 cy ∧ 0 ≤ cy ∧ cy ≤ 1 ∧ Hid (Acc zs k cy (val (((qs.drop j).take (m + 1)).take k) + val (ys.take k))) ∧
      Hid (wr.ownsRow base 3 1 (.slice (some ⟨g, 0, none⟩) L L) L ((mixW qs j zs).map (Value.int .i64))) ∧ Hid (But g (g + 1) w wr)) (fun _ iv _ => m - (intOf iv).toNat)
  case atStart => exact ⟨0, 0, [], Nat.zero_le _, rfl, rfl, by omega, by omega, hide (by simpa [val] using Acc.start), hide (by rw [mixW_nil]; exact (unhide HW).own), hide (But.refl _ _ _)⟩
  case round =>
    obtain ⟨k, cy, zs, hk, rfl, rfl, hc0, hc1, HA, HO, HB⟩ := hrel
    by_cases hlt : k < m
    · have hcy := (unhide HB).cell ((unhide HW).cells k hlt) (by omega)
      have hyb := okL_get (unhide HW).yok k
      have hqb := okL_get (unhide HW).ok (j + k)
      have hvy := hide (val_take_succ ys k)
      have hvq := hide (val_take_succ ((qs.drop j).take (m + 1)) k)
      rw [win_get qs j k (m + 1) (by omega)] at hvq
      obtain ⟨r1, r2, r3⟩ := mixW_owns (unhide HO) (unhide HW).len (unhide HA).len (show j + k < L by omega) ((cy + (qs.getD (j + k) 0 + ys.getD k 0)) % 65536)
      have R3 := hide r3
      clear r3
      generalize ys.getD k 0 = y at *
      generalize qs.getD (j + k) 0 = q at *
      obtain ⟨hy0, hy1⟩ := hyb
      obtain ⟨hq0, hq1⟩ := hqb
      have hlt' : (k : Int) < (m : Int) := by omega
      have HA2 := hide ((unhide HA).step (cy + (q + y)))
      have HB2 := hide ((unhide HB).set (p := ⟨g, j + k, none⟩) (Nat.le_refl _) (Nat.lt_succ_self _) (.int .i64 ((cy + (q + y)) % 65536)))
      clear HO
      go_wp2
      go_roundw
      case rel => exact ⟨k + 1, _, _, by omega, by go_num, rfl, by omega, by omega, hide ((unhide HA2).cast (by rw [unhide hvq, unhide hvy, show cy + (q + y) - cy = q + y by omega, Int.mul_add]; omega)), R3, HB2⟩
      case measure => simp [intOf]; omega
    · obtain rfl : k = m := by omega
      have hqb := okL_get (unhide HW).ok (j + k)
      have hvq := hide (val_take_succ ((qs.drop j).take (k + 1)) k)
      rw [win_get qs j k (k + 1) (by omega)] at hvq
      obtain ⟨r1, r2, r3⟩ := mixW_owns (unhide HO) (unhide HW).len (unhide HA).len (show j + k < L by omega) ((qs.getD (j + k) 0 + cy) % 65536)
      have R3 := hide r3
      clear r3
      generalize qs.getD (j + k) 0 = q at *
      obtain ⟨hq0, hq1⟩ := hqb
      have HA2 := hide ((unhide HA).step (q + cy))
      have HB2 := hide ((unhide HB).set (p := ⟨g, j + k, none⟩) (Nat.le_refl _) (Nat.lt_succ_self _) (.int .i64 ((q + cy) % 65536)))
      clear HO
      go_wp2
      refine bodyPost_end (v := .tuple #[]) (by simp [results, Tryz.results120, go_sem]) rfl ?_
      have hA : Acc (zs ++ [(q + cy) % 65536]) (k + 1) ((q + cy) / 65536) (val ((qs.drop j).take (k + 1)) + val ys) := (unhide HA2).cast (by
        have e1 := unhide hvq
        rw [List.take_of_length_le (l := (qs.drop j).take (k + 1)) (by rw [List.length_take]; omega)] at e1
        rw [e1, List.take_of_length_le (l := ys) (by rw [(unhide HW).ylen]; exact Nat.le_refl _), show q + cy - cy = q by omega]
        omega)
      obtain ⟨m1, m2⟩ := hA.mod
      exact ⟨rfl, _, unhide HB2, hA.len, hA.ok, m1, unhide R3⟩

/-- A guess on its way down. -/
structure GInv (dg lf top v1 v2 u2 : Int) : Prop where
  d0 : 0 ≤ dg
  l0 : 0 ≤ lf
  e : dg * v1 + lf = top
  gt : 65536 ≤ dg + 1 ∨ top * 65536 + u2 < (dg + 1) * (v1 * 65536 + v2)
theorem GInv.start {top v1 v2 u2 : Int} (ht : 0 ≤ top) (h1 : 0 < v1) (h2 : 0 ≤ v2) (hu : u2 ≤ 65535) : GInv (top / v1) (top % v1) top v1 v2 u2 := by
  have e := Int.mul_ediv_add_emod top v1
  have m0 : 0 ≤ top % v1 := Int.emod_nonneg _ (by omega)
  have m1 : top % v1 < v1 := Int.emod_lt_of_pos _ h1
  have q0 : 0 ≤ top / v1 := Int.ediv_nonneg ht (by omega)
  refine ⟨q0, m0, by rw [Int.mul_comm]; exact e, .inr ?_⟩
  have e1 : (top / v1 + 1) * (v1 * 65536 + v2) = (v1 * (top / v1)) * 65536 + v1 * 65536 + (top / v1 + 1) * v2 := by
    rw [Int.mul_add, ← Int.mul_assoc, Int.add_mul (top / v1) 1 v1, Int.add_mul, Int.mul_comm (top / v1) v1, Int.one_mul]
  have e2 : 0 ≤ (top / v1 + 1) * v2 := Int.mul_nonneg (by omega) h2
  rw [e1]
  omega
theorem GInv.bounds {dg lf top v1 v2 u2 : Int} (h : GInv dg lf top v1 v2 u2) (h1 : 1 ≤ v1) (hv0 : 0 ≤ v2) (hv : v2 ≤ 65535) (ht : top ≤ 4294967295) : dg ≤ top ∧ lf ≤ top ∧ 0 ≤ dg * v2 ∧ dg * v2 ≤ 281470681677825 := by
  have a1 : dg * 1 ≤ dg * v1 := Int.mul_le_mul_of_nonneg_left h1 h.d0
  have a2 := h.e
  have a3 := h.l0
  have a4 := h.d0
  have a5 : dg * v2 ≤ 4294967295 * 65535 := Int.mul_le_mul (by omega) hv hv0 (by omega)
  have a6 : 0 ≤ dg * v2 := Int.mul_nonneg h.d0 hv0
  exact ⟨by omega, by omega, a6, by omega⟩
theorem GInv.next {dg lf top v1 v2 u2 : Int} (h : GInv dg lf top v1 v2 u2) (h1 : 0 ≤ v1) (hu : 0 ≤ u2) (hc : 65536 ≤ dg ∨ lf * 65536 + u2 < dg * v2) : 0 < dg ∧ GInv (dg - 1) (lf + v1) top v1 v2 u2 := by
  have hd : 0 < dg := by
    rcases hc with hc | hc
    · omega
    · rcases Int.lt_or_le 0 dg with h' | h'
      · exact h'
      · have e : dg = 0 := by have := h.d0; omega
        rw [e] at hc
        have := h.l0
        omega
  refine ⟨hd, by omega, by have := h.l0; omega, by rw [Int.sub_mul, Int.one_mul]; have := h.e; omega, ?_⟩
  rcases hc with hc | hc
  · exact .inl (by omega)
  · refine .inr ?_
    rw [show dg - 1 + 1 = dg by omega, Int.mul_add, ← Int.mul_assoc]
    have := h.e
    omega
theorem GInv.stop {dg lf top v1 v2 u2 : Int} (h : GInv dg lf top v1 v2 u2) (hd : dg ≤ 65535) (hc : dg * v2 ≤ lf * 65536 + u2) : Guess dg (top * 65536 + u2) (v1 * 65536 + v2) := by
  refine ⟨h.d0, hd, ?_, ?_⟩
  · rw [Int.mul_add, ← Int.mul_assoc]
    have := h.e
    omega
  · rcases h.gt with h' | h'
    · exact .inl (by omega)
    · exact .inr h'

set_option maxHeartbeats 4000000 in
theorem guessI_any (base : Nat) (w : World) (g L : Nat) (qs : List Int) (b off m : Nat) (ys : List Int) (j c c' : Nat) (hw : Win base w g L qs b off m ys) (hj : j + m < L) (hc : m + 1 ≤ c) (hm : 2 ≤ m) (hv1 : 1 ≤ ys.getD (m - 1) 0) :
    Calls Tryz.prog 118 #[.slice (some ⟨g, j, none⟩) (m + 1) c, .slice (some ⟨b, off, none⟩) m c'] w fun e w' =>
      ∃ d N, e = .returned (.int .i64 d) ∧ w' = w.drewN N ∧ Guess d ((qs.getD (j + m) 0 * 65536 + qs.getD (j + (m - 1)) 0) * 65536 + qs.getD (j + (m - 2)) 0) (ys.getD (m - 1) 0 * 65536 + ys.getD (m - 2) 0) := by
  have htop := hw.top
  have c1 := hw.cells (m - 1) (by omega)
  have c2 := hw.cells (m - 2) (by omega)
  have k0 := row_at hw.own hw.len (show j + m < L by omega)
  have k1 := row_at hw.own hw.len (show j + (m - 1) < L by omega)
  have k2 := row_at hw.own hw.len (show j + (m - 2) < L by omega)
  have b1 := okL_get hw.yok (m - 1)
  have b2 := okL_get hw.yok (m - 2)
  have a0 := okL_get hw.ok (j + m)
  have a1 := okL_get hw.ok (j + (m - 1))
  have a2 := okL_get hw.ok (j + (m - 2))
  clear hw
  generalize ys.getD (m - 1) 0 = v1 at *
  generalize ys.getD (m - 2) 0 = v2 at *
  generalize qs.getD (j + m) 0 = u0 at *
  generalize qs.getD (j + (m - 1)) 0 = u1 at *
  generalize qs.getD (j + (m - 2)) 0 = u2 at *
  obtain ⟨b10, b11⟩ := b1
  obtain ⟨b20, b21⟩ := b2
  obtain ⟨a00, a01⟩ := a0
  obtain ⟨a10, a11⟩ := a1
  obtain ⟨a20, a21⟩ := a2
  have t1 : ((m : Int) - 1).toNat = m - 1 := by omega
  have t2 : ((m : Int) - 2).toNat = m - 2 := by omega
  have i1 : (0 : Int) ≤ (m : Int) - 1 := by omega
  have i2 : (m : Int) - 1 < (m : Int) := by omega
  have i3 : (0 : Int) ≤ (m : Int) - 2 := by omega
  have i4 : (m : Int) - 2 < (m : Int) := by omega
  have i5 : (m : Int) - 1 < (m : Int) + 1 := by omega
  have i6 : (m : Int) - 2 < (m : Int) + 1 := by omega
  have hor := or_hi u0 u1 a00 (by omega) a10 a11
  obtain ⟨top, HT⟩ : ∃ top, Hid (u0 * 65536 + u1 = top) := ⟨_, hide rfl⟩
  rw [unhide HT] at hor
  have ht0 : 0 ≤ top := by have := unhide HT; omega
  have ht1 : top ≤ 4294967295 := by have := unhide HT; omega
  have hbz : (v1 == 0) = false := by simp; omega
  have tq : top.tdiv v1 = top / v1 := Int.tdiv_eq_ediv_of_nonneg (by omega)
  have tm : top.tmod v1 = top % v1 := Int.tmod_eq_emod_of_nonneg (by omega)
  have HG0 := hide (GInv.start (u2 := u2) (v2 := v2) ht0 (show 0 < v1 by omega) b20 a21)
  have q1 := Int.ediv_le_self v1 ht0
  have q0 : 0 ≤ top / v1 := Int.ediv_nonneg ht0 (by omega)
  have m0 : 0 ≤ top % v1 := Int.emod_nonneg _ (by omega)
  have m1 : top % v1 < v1 := Int.emod_lt_of_pos _ (by omega)
  go_enter Tryz.func118, Tryz.ntmps118
  go_wp2
  go_quiet (fail)
  go_wp2
  go_loopw [7, 8] (fun dv lv wr => ∃ (dg lf : Int) (N : Nat), dv = .int .i64 dg ∧ lv = .int .i64 lf ∧ wr = w.drewN N ∧ Hid (GInv dg lf top v1 v2 u2)) (fun dv _ _ => (intOf dv).toNat)
  case atStart => exact ⟨_, _, nq, rfl, rfl, rfl, HG0⟩
  case round =>
    obtain ⟨dg, lf, N, rfl, rfl, rfl, HG⟩ := hrel
    obtain ⟨g1, g2, g3, g4⟩ := (unhide HG).bounds hv1 b20 b21 ht1
    have g0 := (unhide HG).d0
    have l0 := (unhide HG).l0
    have hor2 := or_hi lf u2 l0 (by omega) a20 a21
    clear hor tq tm HG0 q1 q0 m0 m1
    by_cases hge : 65536 ≤ dg
    · obtain ⟨hd, hn⟩ := (unhide HG).next (by omega) a20 (.inl hge)
      have HN := hide hn
      clear hn
      go_wp2
      go_quiet (fail)
      go_wp2
      go_roundw
      case rel => exact ⟨_, _, _, rfl, rfl, rfl, HN⟩
      case measure => simp [intOf]; omega
    · have hged : decide ((65536 : Int) ≤ dg) = false := by simp; omega
      have hw1 : IntKind.i64.wrap (dg * v2) = dg * v2 := by rw [IntKind.wrap_i64]; omega
      have hw2 : IntKind.i64.wrap (lf * 65536) = lf * 65536 := by rw [IntKind.wrap_i64]; omega
      have hw3 : IntKind.i64.wrap ((m : Int) - 2) = (m : Int) - 2 := by rw [IntKind.wrap_i64]; omega
      by_cases hgt : lf * 65536 + u2 < dg * v2
      · obtain ⟨hd, hn⟩ := (unhide HG).next (by omega) a20 (.inr hgt)
        have HN := hide hn
        clear hn
        go_wp2
        go_quiet (fail)
        go_wp2
        go_roundw
        case rel => exact ⟨_, _, _, rfl, rfl, rfl, HN⟩
        case measure => simp [intOf]; omega
      · have HS := hide ((unhide HG).stop (by omega) (by omega))
        go_wp2
        go_quiet (fail)
        go_wp2
        go_ret
        exact ⟨dg, N + nq, rfl, by simp [World.drewN, Nat.add_assoc], by rw [unhide HT]; exact unhide HS⟩

theorem mixW_win (qs : List Int) (j : Nat) (zs : List Int) (h : j ≤ qs.length) {n : Nat} (hn : zs.length = n) : ((mixW qs j zs).drop j).take n = zs := by
  unfold mixW
  rw [List.append_assoc, List.drop_append, List.drop_of_length_le (by simp; omega), List.length_take, Nat.min_eq_left h, Nat.sub_self, List.drop_zero, List.nil_append, ← hn, List.take_left]
theorem mixW_mixW (qs : List Int) (j : Nat) (zs zs' : List Int) (h : j + zs.length ≤ qs.length) (he : zs.length = zs'.length) : mixW (mixW qs j zs) j zs' = mixW qs j zs' := by
  unfold mixW
  rw [← he]
  have e1 : (List.take j qs ++ zs ++ List.drop (j + zs.length) qs).take j = List.take j qs := by
    rw [List.append_assoc, List.take_append, List.take_of_length_le (by simp; omega), List.length_take, Nat.min_eq_left (by omega), Nat.sub_self, List.take_zero, List.append_nil]
  have e2 : (List.take j qs ++ zs ++ List.drop (j + zs.length) qs).drop (j + zs.length) = List.drop (j + zs.length) qs := by
    have : (List.take j qs ++ zs).length = j + zs.length := by simp; omega
    rw [← this, List.drop_left]
  rw [e1, e2]
theorem win_top (W : List Int) (t : Nat) : val (W.take (t + 3)) = val (W.take t) + 65536 ^ t * ((W.getD (t + 2) 0 * 65536 + W.getD (t + 1) 0) * 65536 + W.getD t 0) := by
  rw [val_take_succ W (t + 2), val_take_succ W (t + 1), val_take_succ W t]
  simp only [Int.pow_succ]
  generalize W.getD t 0 = a
  generalize W.getD (t + 1) 0 = b
  generalize W.getD (t + 2) 0 = c
  generalize (65536 : Int) ^ t = p
  have e1 : p * ((c * 65536 + b) * 65536 + a) = p * c * 65536 * 65536 + p * b * 65536 + p * a := by
    rw [Int.mul_add, Int.add_mul, Int.mul_add, ← Int.mul_assoc, ← Int.mul_assoc, ← Int.mul_assoc]
  have e2 : p * 65536 * b = p * b * 65536 := by rw [Int.mul_assoc, Int.mul_comm 65536 b, ← Int.mul_assoc]
  have e3 : p * 65536 * 65536 * c = p * c * 65536 * 65536 := by rw [Int.mul_right_comm (p * 65536) 65536 c, Int.mul_right_comm p 65536 c]
  omega
theorem two_top (Y : List Int) (t : Nat) : val (Y.take (t + 2)) = val (Y.take t) + 65536 ^ t * (Y.getD (t + 1) 0 * 65536 + Y.getD t 0) := by
  rw [val_take_succ Y (t + 1), val_take_succ Y t, Int.pow_succ, Int.mul_add, ← Int.mul_assoc, Int.mul_assoc _ 65536, Int.mul_comm 65536, ← Int.mul_assoc]
  omega
/-- What a guess is worth. -/
theorem guess_good {qs ys : List Int} {j m : Nat} {d : Int} (hq : okL qs) (hy : okL ys) (hyl : ys.length = m) (hm : 2 ≤ m) (hv1 : 1 ≤ ys.getD (m - 1) 0) (hlt : val ((qs.drop j).take (m + 1)) < val ys * 65536)
    (h : Guess d ((qs.getD (j + m) 0 * 65536 + qs.getD (j + (m - 1)) 0) * 65536 + qs.getD (j + (m - 2)) 0) (ys.getD (m - 1) 0 * 65536 + ys.getD (m - 2) 0)) :
    val ((qs.drop j).take (m + 1)) / val ys ≤ d ∧ d ≤ val ((qs.drop j).take (m + 1)) / val ys + 1 := by
  obtain ⟨t, rfl⟩ : ∃ t, m = t + 2 := ⟨m - 2, by omega⟩
  have e1 := win_top ((qs.drop j).take (t + 2 + 1)) t
  have e2 := two_top ys t
  rw [win_get qs j (t + 2) _ (by omega), win_get qs j (t + 1) _ (by omega), win_get qs j t _ (by omega), List.take_take, Nat.min_eq_left (by omega)] at e1
  rw [List.take_of_length_le (l := ys) (i := t + 2) (by omega)] at e2
  simp only [Nat.add_sub_cancel, show t + 2 - 1 = t + 1 by omega] at h hv1
  have hw : okL (((qs.drop j).take (t + 2 + 1)).take t) := okL_take (okL_take (okL_drop hq _) _) _
  have p0 := val_nonneg hw
  have p1 := val_lt hw
  have y0 := val_nonneg (okL_take hy t)
  have y1 := val_lt (okL_take hy t)
  have hp : ∀ l : Nat, l ≤ t → (65536 : Int) ^ l ≤ 65536 ^ t := fun l hl => pow_mono hl
  have hp1 := hp (((qs.drop j).take (t + 2 + 1)).take t).length (by rw [List.length_take]; omega)
  have hp2 := hp (ys.take t).length (by rw [List.length_take]; omega)
  have b2 := okL_get hy t
  have a0 := okL_get hq (j + (t + 2))
  have a1 := okL_get hq (j + (t + 1))
  have a2 := okL_get hq (j + t)
  exact guess_near h (Int.pow_pos (by omega)) e1 p0 (by omega) e2 y0 (by omega) (by omega) hlt (by omega)

theorem Win.drewN {base : Nat} {w : World} {g L : Nat} {qs : List Int} {b off m : Nat} {ys : List Int} (h : Win base w g L qs b off m ys) (N : Nat) : Win base (w.drewN N) g L qs b off m ys :=
  ⟨owns_drewN h.own N, h.len, h.ok, h.top, h.ne, h.cells, h.ylen, h.yok⟩
theorem Took.drewN {base : Nat} {w w' : World} {g L : Nat} {qs : List Int} {j m : Nat} {V : Int} {N : Nat} (h : Took base (w.drewN N) g L qs j m V w') : Took base w g L qs j m V w' := by
  obtain ⟨zs, hb, h1, h2, h3, h4⟩ := h
  exact ⟨zs, ⟨hb.os, hb.tape, hb.output, hb.size, hb.block⟩, h1, h2, h3, h4⟩
theorem Took.win {base : Nat} {w w' : World} {g L : Nat} {qs : List Int} {j b off m : Nat} {ys : List Int} {V : Int} (h : Took base w g L qs j m V w') (hw : Win base w g L qs b off m ys) (hj : j + m < L) :
    ∃ zs, zs.length = m + 1 ∧ okL zs ∧ val zs = V ∧ But g (g + 1) w w' ∧ Win base w' g L (mixW qs j zs) b off m ys := by
  obtain ⟨zs, hb, h1, h2, h3, h4⟩ := h
  refine ⟨zs, h1, h2, h3, hb, h4, ?_, mixW_ok hw.ok h2, hw.top, hw.ne, fun i hi => hb.cell (hw.cells i hi) (by have := hw.ne; omega), hw.ylen, hw.yok⟩
  rw [mixW_len _ _ _ (by rw [hw.len]; omega)]
  exact hw.len
/-- A digit too great by one, put right. -/
theorem take_math {P V d B : Int} (hV : 0 < V) (hVB : V ≤ B) (hd : P / V ≤ d) (hd1 : d ≤ P / V + 1) : (P - d * V < 0 → d - 1 = P / V ∧ ((P - d * V) % B + V) % B = P % V) ∧ (¬ P - d * V < 0 → d = P / V ∧ (P - d * V) % B = P % V) := by
  have e := Int.mul_ediv_add_emod P V
  have m0 : 0 ≤ P % V := Int.emod_nonneg _ (by omega)
  have m1 : P % V < V := Int.emod_lt_of_pos _ hV
  rcases (show d = P / V ∨ d = P / V + 1 from by omega) with h | h
  · have e2 : P - d * V = P % V := by rw [h, Int.mul_comm]; omega
    rw [e2]
    exact ⟨fun h' => by omega, fun _ => ⟨h, Int.emod_eq_of_lt m0 (by omega)⟩⟩
  · have e2 : P - d * V = P % V - V := by rw [h, Int.add_mul, Int.mul_comm]; omega
    rw [e2]
    refine ⟨fun _ => ⟨by omega, ?_⟩, fun h' => by omega⟩
    rw [Int.emod_add_emod, Int.sub_add_cancel, Int.emod_eq_of_lt m0 (by omega)]

set_option maxHeartbeats 4000000 in
theorem takeI_any (base : Nat) (w : World) (g L : Nat) (qs : List Int) (b off m : Nat) (ys : List Int) (j c c' : Nat) (hw : Win base w g L qs b off m ys) (hj : j + m < L) (hc : m + 1 ≤ c) (hm : 2 ≤ m) (hv1 : 1 ≤ ys.getD (m - 1) 0) (hlt : val ((qs.drop j).take (m + 1)) < val ys * 65536) :
    Calls Tryz.prog 112 #[.slice (some ⟨g, j, none⟩) (m + 1) c, .slice (some ⟨b, off, none⟩) m c'] w fun e w' =>
      e = .returned (.int .i64 (val ((qs.drop j).take (m + 1)) / val ys)) ∧ Took base w g L qs j m (val ((qs.drop j).take (m + 1)) % val ys) w' := by
  have HW := hide hw
  have HV := hide hv1
  have HLT := hide hlt
  have hV0 : 0 < val ys := by
    have h0 : okL ((qs.drop j).take (m + 1)) := okL_take (okL_drop hw.ok _) _
    have := val_nonneg h0
    omega
  have HVB : Hid (val ys ≤ 65536 ^ (m + 1)) := hide (by
    have h1 := val_lt hw.yok
    rw [hw.ylen] at h1
    have h2 := pow_mono (show m ≤ m + 1 by omega)
    omega)
  clear hw hv1 hlt
  go_enter Tryz.func112, Tryz.ntmps112
  go_wp2_with fail
  refine (guessI_any base w g L qs b off m ys j c c' (unhide HW) hj hc hm (unhide HV)).mono ?_
  rintro e w1 ⟨d, N, rfl, rfl, hg⟩
  have hgood := guess_good (unhide HW).ok (unhide HW).yok (unhide HW).ylen hm (unhide HV) (unhide HLT) hg
  have d0 := hg.d0
  have d1 := hg.d1
  have HM := hide (take_math hV0 (unhide HVB) hgood.1 hgood.2)
  clear hg hgood
  go_wp2_with fail
  refine (timesI_any base (w.drewN N) g L qs b off m ys j c c' d ((unhide HW).drewN N) hj d0 d1 hc).mono ?_
  rintro e w1 ⟨rfl, ht⟩
  have HT := hide ht.drewN
  clear ht
  by_cases hneg : val ((qs.drop j).take (m + 1)) - d * val ys < 0
  · have hdec : decide (val ((qs.drop j).take (m + 1)) - d * val ys < 0) = true := decide_eq_true hneg
    rw [hdec]
    obtain ⟨zs, z1, z2, z3, hb, hw1⟩ := (unhide HT).win (unhide HW) hj
    have HZ := hide (And.intro z1 (And.intro z2 (And.intro z3 (And.intro hb hw1))))
    have HMM := hide ((unhide HM).1 hneg)
    clear z1 z2 z3 hb hw1 hneg hdec
    go_wp2_with fail
    refine (backI_any base w1 g L (mixW qs j zs) b off m ys j c c' (unhide HZ).2.2.2.2 hj hc).mono ?_
    rintro e w2 ⟨rfl, ht2⟩
    have HF : Hid (Took base w g L qs j m (val ((qs.drop j).take (m + 1)) % val ys) w2) := by
      obtain ⟨zs2, b2, l2, k2, v2, o2⟩ := ht2
      have hl := (unhide HW).len
      refine hide ⟨zs2, (unhide HZ).2.2.2.1.trans b2, l2, k2, ?_, ?_⟩
      · rw [v2, mixW_win qs j zs (by omega) (unhide HZ).1, (unhide HZ).2.2.1]
        exact (unhide HMM).2
      · rw [mixW_mixW qs j zs zs2 (by rw [(unhide HZ).1]; omega) (by rw [(unhide HZ).1, l2])] at o2
        exact o2
    clear ht2
    go_wp2
    go_ret
    refine ⟨?_, unhide HF⟩
    rw [← (unhide HMM).1]
    rfl
  · have hdec : decide (val ((qs.drop j).take (m + 1)) - d * val ys < 0) = false := decide_eq_false hneg
    rw [hdec]
    have HMM := hide ((unhide HM).2 (by omega))
    clear hneg hdec
    go_wp2
    go_ret
    refine ⟨?_, ?_⟩
    · rw [← (unhide HMM).1]
      rfl
    · rw [← (unhide HMM).2]
      exact unhide HT
end Go.Proofs.YtdgonpbponnnaaaGreatDoor
