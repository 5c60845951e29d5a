/- Sums of limbs without noughts at their end have none: the specification's l1AddLimbs; and its l1Low, l1High, l1Shift. No condition beyond those typed. -/
import Derived.Test.YtdgonpbponnnaaaHalvR
namespace Go.Proofs.Ytdgonpbponnnaaa
open Go.RowKit
set_option linter.unusedVariables false
set_option maxRecDepth 100000
set_option linter.unusedSimpArgs false

theorem trim_of_top {zs : List Int} (h : okL zs) (h0 : 0 < zs.length) (ht : (65536 : Int) ^ (zs.length - 1) ≤ val zs) : trim zs = zs := by
  have e : zs = zs.take (zs.length - 1) ++ [zs.getD (zs.length - 1) 0] := by
    rw [← take_succ' (by omega), show zs.length - 1 + 1 = zs.length by omega, List.take_length]
  by_cases hz : zs.getD (zs.length - 1) 0 = 0
  · have hv : val zs = val (zs.take (zs.length - 1)) := by
      conv => lhs; rw [e]
      rw [val_snoc, hz]; simp
    have hl := val_lt (okL_take h (zs.length - 1))
    rw [List.length_take, Nat.min_eq_left (by omega)] at hl
    omega
  · conv => lhs; rw [e]
    rw [trim_snoc_ne _ hz]
    exact e.symm

set_option maxHeartbeats 4000000 in
theorem addT_any (a a' : Option Addr) (n m c c' : Nat) (xs ys : List Int) (w : World) (hx : Arg w a n c xs) (hy : Arg w a' m c' ys) (ox : okL xs) (oy : okL ys) (tx : trim xs = xs) (ty : trim ys = ys) (h1 : n ≤ 1048576) (h2 : m ≤ 1048576) :
    Calls Try.prog 11 #[.slice a n c, .slice a' m c'] w (Out w (val xs + val ys)) := by
  obtain ⟨i0, hi, hz0, hz1, hz2⟩ := info_parts Try.info3
  have HN := hide hx.len
  have HM := hide hy.len
  have HX := hide hx.sl
  have HY := hide hy.sl
  have TX := hide tx
  have TY := hide ty
  clear hx hy tx ty
  go_enter Try.func11, Try.ntmps11
  go_wp2
  go_loopw [5, 6, 7] (fun v cv i wr => ∃ (k : Nat) (cy : Int) (zs : List Int), k ≤ max n m + 1 ∧ i = .int .i64 k ∧ cv = .int .i64 cy ∧ 0 ≤ cy ∧ cy ≤ 1 ∧ (k = max n m + 1 → cy = 0) ∧ Hid (k = max n m + 1 → 65536 ^ (max n m) ≤ val xs + val ys) ∧ Hid (Acc zs k cy (val (xs.take k) + val (ys.take k))) ∧
      Hid (wr.ownsRow w.heap.size 3 1 v k (zs.map (Value.int .i64))) ∧ Hid (Below w.heap.size w wr)) (fun _ _ i _ => max n m + 1 - (intOf i).toNat)
  case atStart => exact ⟨0, 0, [], Nat.zero_le _, rfl, rfl, by omega, by omega, fun _ => rfl, hide (fun h => by omega), hide (by simpa [val] using Acc.start), hide (World.ownsRow_nil _ _ _ _), hide (Below.refl _ _)⟩
  case round =>
    obtain ⟨k, cy, zs, hk, rfl, rfl, hc0, hc1, hcz, HW, HA, HO, HB⟩ := hrel
    by_cases hgo : k < n ∨ k < m ∨ 0 < cy
    · have hklt : k < max n m + 1 := by
        rcases hgo with h | h | h
        · omega
        · omega
        · by_cases hq : k = max n m + 1
          · have := hcz hq; omega
          · omega
      have hxb := okL_get ox k
      have hyb := okL_get oy k
      have hvx := hide (val_take_succ xs k)
      have hvy := hide (val_take_succ ys k)
      have SX := hide ((unhide HX).later (Nat.le_refl _) (unhide HB))
      have SY := hide ((unhide HY).later (Nat.le_refl _) (unhide HB))
      have hlast : k = max n m → xs.getD k 0 = 0 ∧ ys.getD k 0 = 0 := fun e => ⟨getD_out (unhide HN) (by omega), getD_out (unhide HM) (by omega)⟩
      have LX := hide (fun w h => limb_any a n c xs k w h (unhide HN))
      have LY := hide (fun w h => limb_any a' m c' ys k w h (unhide HM))
      generalize xs.getD k 0 = x at *
      generalize ys.getD k 0 = y at *
      obtain ⟨hx0, hx1⟩ := hxb
      obtain ⟨hy0, hy1⟩ := hyb
      have HLast := hide hlast
      have HCZ := hide hcz
      have HW2 : Hid (k + 1 = max n m + 1 → 65536 ^ (max n m) ≤ val xs + val ys) := hide (by
        intro e
        have hcy : 1 ≤ cy := by
          rcases hgo with h | h | h
          · omega
          · omega
          · omega
        have e1 := (unhide HA).v
        rw [List.take_of_length_le (by rw [unhide HN]; omega), List.take_of_length_le (by rw [unhide HM]; omega)] at e1
        have e2 := val_nonneg (unhide HA).ok
        have e3 : (65536 : Int) ^ k * 1 ≤ 65536 ^ k * cy := Int.mul_le_mul_of_nonneg_left hcy (Int.le_of_lt (Int.pow_pos (by omega)))
        rw [show max n m = k by omega]
        omega)
      have HA2 := hide ((unhide HA).step (x + y + cy))
      clear hlast hcz
      rcases (show (k < n) ∨ (¬ k < n ∧ k < m) ∨ (¬ k < n ∧ ¬ k < m ∧ 0 < cy) from by omega) with g1 | ⟨g1, g2⟩ | ⟨g1, g2, g3⟩
      · have d1 : (k : Int) < (n : Int) := by omega
        go_wp2_with fail
        refine (unhide LX _ (unhide SX)).mono ?_
        rintro e w2 ⟨rfl, rfl⟩
        go_wp2_with fail
        refine (unhide LY _ (unhide SY)).mono ?_
        rintro e w3 ⟨rfl, rfl⟩
        go_wp2_with (at_builtin; refine wpList_append_own _ rfl (.tmp 34) (.tmp 37) 22 rfl w.heap.size 3 i0 (.int .i64 0) 1 8 Try.underlying22 hi hz0 hz1 hz2 rfl (by decide) _ _ _ rfl ((unhide HO).alloc _) ⟨_, 0, none⟩ 1 1 [.int .i64 ((x + y + cy) % 65536)] rfl rfl (new_cell _ _) (fun u hu => by simp at hu; subst hu; rfl) (by unfold maxLen; omega) (by omega) (by have := (unhide HB).size; simp; omega) ?_)
        intro v' w1 hown hg _
        have HR := hide (push_owns (w := w) (v := v') hown)
        have HB2 := hide (below_push (base := 0) (unhide HB) (unhide HO) hg)
        clear hown hg
        go_wp2
        go_roundw
        case rel => exact ⟨k + 1, (x + y + cy) / 65536, zs ++ [(x + y + cy) % 65536], by omega, by go_num, rfl, by omega, by omega, fun e => by have := unhide HLast (by omega); omega, HW2, hide ((unhide HA2).cast (by rw [unhide hvx, unhide hvy, Int.mul_sub, Int.mul_add, Int.mul_add]; omega)), HR, HB2⟩
        case measure => simp [intOf]; omega
      · have d1 : decide ((k : Int) < (n : Int)) = false := by simp; omega
        have d2 : (k : Int) < (m : Int) := by omega
        go_wp2_with fail
        refine (unhide LX _ (unhide SX)).mono ?_
        rintro e w2 ⟨rfl, rfl⟩
        go_wp2_with fail
        refine (unhide LY _ (unhide SY)).mono ?_
        rintro e w3 ⟨rfl, rfl⟩
        go_wp2_with (at_builtin; refine wpList_append_own _ rfl (.tmp 34) (.tmp 37) 22 rfl w.heap.size 3 i0 (.int .i64 0) 1 8 Try.underlying22 hi hz0 hz1 hz2 rfl (by decide) _ _ _ rfl ((unhide HO).alloc _) ⟨_, 0, none⟩ 1 1 [.int .i64 ((x + y + cy) % 65536)] rfl rfl (new_cell _ _) (fun u hu => by simp at hu; subst hu; rfl) (by unfold maxLen; omega) (by omega) (by have := (unhide HB).size; simp; omega) ?_)
        intro v' w1 hown hg _
        have HR := hide (push_owns (w := w) (v := v') hown)
        have HB2 := hide (below_push (base := 0) (unhide HB) (unhide HO) hg)
        clear hown hg
        go_wp2
        go_roundw
        case rel => exact ⟨k + 1, (x + y + cy) / 65536, zs ++ [(x + y + cy) % 65536], by omega, by go_num, rfl, by omega, by omega, fun e => by have := unhide HLast (by omega); omega, HW2, hide ((unhide HA2).cast (by rw [unhide hvx, unhide hvy, Int.mul_sub, Int.mul_add, Int.mul_add]; omega)), HR, HB2⟩
        case measure => simp [intOf]; omega
      · have d1 : decide ((k : Int) < (n : Int)) = false := by simp; omega
        have d2 : decide ((k : Int) < (m : Int)) = false := by simp; omega
        go_wp2_with fail
        refine (unhide LX _ (unhide SX)).mono ?_
        rintro e w2 ⟨rfl, rfl⟩
        go_wp2_with fail
        refine (unhide LY _ (unhide SY)).mono ?_
        rintro e w3 ⟨rfl, rfl⟩
        go_wp2_with (at_builtin; refine wpList_append_own _ rfl (.tmp 34) (.tmp 37) 22 rfl w.heap.size 3 i0 (.int .i64 0) 1 8 Try.underlying22 hi hz0 hz1 hz2 rfl (by decide) _ _ _ rfl ((unhide HO).alloc _) ⟨_, 0, none⟩ 1 1 [.int .i64 ((x + y + cy) % 65536)] rfl rfl (new_cell _ _) (fun u hu => by simp at hu; subst hu; rfl) (by unfold maxLen; omega) (by omega) (by have := (unhide HB).size; simp; omega) ?_)
        intro v' w1 hown hg _
        have HR := hide (push_owns (w := w) (v := v') hown)
        have HB2 := hide (below_push (base := 0) (unhide HB) (unhide HO) hg)
        clear hown hg
        go_wp2
        go_roundw
        case rel => exact ⟨k + 1, (x + y + cy) / 65536, zs ++ [(x + y + cy) % 65536], by omega, by go_num, rfl, by omega, by omega, fun e => by have := unhide HLast (by omega); omega, HW2, hide ((unhide HA2).cast (by rw [unhide hvx, unhide hvy, Int.mul_sub, Int.mul_add, Int.mul_add]; omega)), HR, HB2⟩
        case measure => simp [intOf]; omega
    · have d1 : decide ((k : Int) < (n : Int)) = false := by simp; omega
      have d2 : decide ((k : Int) < (m : Int)) = false := by simp; omega
      have d3 : ¬ (0 : Int) < cy := by omega
      obtain ⟨a2, c2, rfl, ho, ha⟩ := owns_shape (unhide HO) (unhide HA).len
      have HF := hide (And.intro ho ha)
      clear ho ha
      go_wp2
      go_ret
      have e1 := (unhide HA).v
      rw [List.take_of_length_le (by rw [unhide HN]; omega), List.take_of_length_le (by rw [unhide HM]; omega)] at e1
      have e2 : cy = 0 := by omega
      rw [e2] at e1
      have e3 : val zs = val xs + val ys := by simpa using e1
      refine ⟨a2, _, c2, zs, rfl, unhide HB, (unhide HF).1, (unhide HF).2, (unhide HA).ok, ?_, e3⟩
      by_cases hz : zs = []
      · rw [hz]; rfl
      · have hlz : 0 < zs.length := List.length_pos_iff.2 hz
        refine trim_of_top (unhide HA).ok hlz ?_
        rw [e3]
        have hl := (unhide HA).len
        have x0 := val_nonneg ox
        have y0 := val_nonneg oy
        by_cases hq : k = max n m + 1
        · rw [hl, show k - 1 = max n m by omega]
          exact unhide HW hq
        · by_cases hnm : n ≤ m
          · have := top_le oy (unhide TY) (by rw [unhide HM]; omega)
            rw [unhide HM] at this
            rw [hl, show k - 1 = m - 1 by omega]
            omega
          · have := top_le ox (unhide TX) (by rw [unhide HN]; omega)
            rw [unhide HN] at this
            rw [hl, show k - 1 = n - 1 by omega]
            omega
end Go.Proofs.Ytdgonpbponnnaaa
