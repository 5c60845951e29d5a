/- Sums and differences of limbs: the program's addLimbs and subLimbs, the specification's l1AddLimbs and l1SubLimbs. No condition beyond those typed. -/
import Derived.Test.YtdgonpbponnnaaaGreatDoorAcc
namespace Go.Proofs.YtdgonpbponnnaaaGreatDoor
open Go.RowKit
set_option linter.unusedVariables false
set_option maxRecDepth 100000
set_option linter.unusedSimpArgs false

set_option maxHeartbeats 2000000 in
theorem addI_ge (a a' : Option Addr) (n m c c' : Nat) (xs ys : List Int) (w : World) (hx : Arg w a n c xs) (hy : Arg w a' m c' ys) (ox : okL xs) (oy : okL ys) (h1 : n ≤ 1048576) (hmn : m ≤ n) :
    Calls Tryz.prog 90 #[.slice a n c, .slice a' m c'] w (Out w (val xs + val ys)) := by
  obtain ⟨i0, hi, hz0, hz1, hz2⟩ := info_parts Tryz.info3
  have HN := hide hx.len
  have HM := hide hy.len
  have HX := hide hx.sl
  have HY := hide hy.sl
  have hmask := and_mask
  have hord : ¬ (n : Int) < (m : Int) := by omega
  clear hx hy
  go_enter Tryz.func90, Tryz.ntmps90
  go_wp2_with (at_make; refine wpList_make_full _ rfl _ _ 23 rfl w.heap.size 3 i0 (.int .i64 0) 1 Tryz.underlying23 hi hz0 hz1 .i64 .i64 _ _ (n + 1) rfl rfl (by omega) (by omega) (by rw [hz2]; omega) (by unfold maxLen; omega) (Nat.le_refl _) ?_)
  intro w1 hown hgrow
  have hown0 : w1.ownsRow w.heap.size 3 1 (.slice (some ⟨w.heap.size, 0, none⟩) (n + 1) (n + 1)) (n + 1) ((rowL [] (n + 1)).map (Value.int .i64)) := by
    rw [rowL_nil]; rw [made_ints] at hown; exact hown
  have hb0 : Below w.heap.size w w1 := (Below.refl _ _).grown hgrow (Nat.le_refl _) (fun k e => by cases e)
  clear hown hgrow
  go_wp2
  go_loopw [6, 22] (fun cv i wr => ∃ (k : Nat) (cy : Int) (zs : List Int), k ≤ n ∧ i = .int .i64 k ∧ cv = .int .i64 cy ∧ 0 ≤ cy ∧ cy ≤ 1 ∧ Hid (Acc zs k cy (val (xs.take k) + val (ys.take k))) ∧
      Hid (wr.ownsRow w.heap.size 3 1 (.slice (some ⟨w.heap.size, 0, none⟩) (n + 1) (n + 1)) (n + 1) ((rowL zs (n + 1)).map (Value.int .i64))) ∧ Hid (Below w.heap.size w wr)) (fun _ i _ => n - (intOf i).toNat)
  case atStart => exact ⟨0, 0, [], Nat.zero_le _, rfl, rfl, by omega, by omega, hide (by simpa [val] using Acc.start), hide hown0, hide hb0⟩
  case round =>
    obtain ⟨k, cy, zs, hk, rfl, rfl, hc0, hc1, HA, HO, HB⟩ := hrel
    by_cases hlt : k < n
    · obtain ⟨b, off, rfl, hcx⟩ := ((unhide HX).later (Nat.le_refl _) (unhide HB)).at (k := k) (by rw [unhide HN]; exact hlt)
      have hxb := okL_get ox k
      have hyb := okL_get oy k
      have hvx := hide (val_take_succ xs k)
      have hvy := hide (val_take_succ ys k)
      by_cases hkm : k < m
      · obtain ⟨b', off', rfl, hcy⟩ := ((unhide HY).later (Nat.le_refl _) (unhide HB)).at (k := k) (by rw [unhide HM]; exact hkm)
        generalize xs.getD k 0 = x at *
        generalize ys.getD k 0 = y at *
        obtain ⟨hx0, hx1⟩ := hxb
        obtain ⟨hy0, hy1⟩ := hyb
        have hkm' : (k : Int) < (m : Int) := by omega
        obtain ⟨r1, r2, r3⟩ := rowL_owns (unhide HO) (unhide HA).len (show k < n + 1 by omega) ((cy + x + y) % 65536)
        have HR := hide r3
        have HB2 := hide ((unhide HB).setCell (p := ⟨w.heap.size, k, none⟩) (Nat.le_refl _) (.int .i64 ((cy + x + y) % 65536)))
        have HA2 := hide ((unhide HA).step (cy + x + y))
        clear r3 HO
        go_wp2
        go_roundw
        case rel => exact ⟨k + 1, (cy + x + y) / 65536, zs ++ [(cy + x + y) % 65536], by omega, by go_num, rfl, by omega, by omega, hide ((unhide HA2).cast (by rw [unhide hvx, unhide hvy, Int.mul_sub, Int.mul_add, Int.mul_add]; omega)), HR, HB2⟩
        case measure => simp [intOf]; omega
      · have hy00 : ys.getD k 0 = 0 := by simp only [List.getD_eq_getElem?_getD]; rw [List.getElem?_eq_none (by rw [unhide HM]; omega)]; rfl
        rw [hy00] at hvy
        clear hy00 hyb
        generalize xs.getD k 0 = x at *
        obtain ⟨hx0, hx1⟩ := hxb
        have hkm' : ¬ (k : Int) < (m : Int) := by omega
        obtain ⟨r1, r2, r3⟩ := rowL_owns (unhide HO) (unhide HA).len (show k < n + 1 by omega) ((cy + x) % 65536)
        have HR := hide r3
        have HB2 := hide ((unhide HB).setCell (p := ⟨w.heap.size, k, none⟩) (Nat.le_refl _) (.int .i64 ((cy + x) % 65536)))
        have HA2 := hide ((unhide HA).step (cy + x))
        clear r3 HO
        go_wp2
        go_roundw
        case rel => exact ⟨k + 1, (cy + x) / 65536, zs ++ [(cy + x) % 65536], by omega, by go_num, rfl, by omega, by omega, hide ((unhide HA2).cast (by rw [unhide hvx, unhide hvy, Int.mul_sub, Int.mul_add]; omega)), HR, HB2⟩
        case measure => simp [intOf]; omega
    · obtain rfl : k = n := by omega
      obtain ⟨r1, r2, r3⟩ := rowL_owns (unhide HO) (unhide HA).len (show k < k + 1 by omega) cy
      have HR := hide r3
      have HB2 := hide ((unhide HB).setCell (p := ⟨w.heap.size, k, none⟩) (Nat.le_refl _) (.int .i64 cy))
      clear r3 HO
      have hln : (zs ++ [cy]).length = k + 1 := by simp [(unhide HA).len]
      have HL := hide hln
      clear hln
      go_wp2_with fail
      have ho := Own.of_owns (zs := zs ++ [cy]) (by have := unhide HR; rw [rowL_full _ _ (unhide HL)] at this; exact this) (unhide HL)
      refine (trim_any _ (k + 1) (k + 1) (zs ++ [cy]) _ ⟨ho.sl, unhide HL, Nat.le_refl _, by unfold maxLen; omega, .inr ⟨_, _, rfl⟩⟩).mono ?_
      rintro e w2 ⟨a2, n2, c2, rfl, rfl, harg, hown⟩
      have HF : Hid (Own w.heap.size (wr.setCell ⟨w.heap.size, k, none⟩ (.int .i64 cy)) a2 (trim (zs ++ [cy])) ∧ Arg (wr.setCell ⟨w.heap.size, k, none⟩ (.int .i64 cy)) a2 n2 c2 (trim (zs ++ [cy])) ∧ Nm (trim (zs ++ [cy])) (val xs + val ys)) := by
        refine hide ⟨hown _ _ ho, harg _ ⟨ho.sl, unhide HL, Nat.le_refl _, by unfold maxLen; omega, .inr ⟨_, _, rfl⟩⟩, ?_⟩
        have hA := unhide HA
        have e1 := hA.v
        rw [List.take_of_length_le (by rw [unhide HN]; exact Nat.le_refl _), List.take_of_length_le (by rw [unhide HM]; omega)] at e1
        have e2 : val (zs ++ [cy]) = val xs + val ys := by rw [val_snoc, hA.len]; exact e1
        rw [← e2]
        exact Nm.trimmed (okL_append hA.ok (okL_one hc0 (by omega)))
      clear harg hown ho
      go_wp2
      go_ret
      exact ⟨a2, n2, c2, _, rfl, unhide HB2, (unhide HF).1, (unhide HF).2.1, (unhide HF).2.2⟩

set_option maxHeartbeats 2000000 in
theorem addI_lt (a a' : Option Addr) (n m c c' : Nat) (xs ys : List Int) (w : World) (hx : Arg w a n c xs) (hy : Arg w a' m c' ys) (ox : okL xs) (oy : okL ys) (h1 : n ≤ 1048576) (hmn : m < n) :
    Calls Tryz.prog 90 #[.slice a' m c', .slice a n c] w (Out w (val xs + val ys)) := by
  obtain ⟨i0, hi, hz0, hz1, hz2⟩ := info_parts Tryz.info3
  have HN := hide hx.len
  have HM := hide hy.len
  have HX := hide hx.sl
  have HY := hide hy.sl
  have hmask := and_mask
  have hord : (m : Int) < (n : Int) := by omega
  clear hx hy
  go_enter Tryz.func90, Tryz.ntmps90
  go_wp2_with (at_make; refine wpList_make_full _ rfl _ _ 23 rfl w.heap.size 3 i0 (.int .i64 0) 1 Tryz.underlying23 hi hz0 hz1 .i64 .i64 _ _ (n + 1) rfl rfl (by omega) (by omega) (by rw [hz2]; omega) (by unfold maxLen; omega) (Nat.le_refl _) ?_)
  intro w1 hown hgrow
  have hown0 : w1.ownsRow w.heap.size 3 1 (.slice (some ⟨w.heap.size, 0, none⟩) (n + 1) (n + 1)) (n + 1) ((rowL [] (n + 1)).map (Value.int .i64)) := by
    rw [rowL_nil]; rw [made_ints] at hown; exact hown
  have hb0 : Below w.heap.size w w1 := (Below.refl _ _).grown hgrow (Nat.le_refl _) (fun k e => by cases e)
  clear hown hgrow
  go_wp2
  go_loopw [6, 22] (fun cv i wr => ∃ (k : Nat) (cy : Int) (zs : List Int), k ≤ n ∧ i = .int .i64 k ∧ cv = .int .i64 cy ∧ 0 ≤ cy ∧ cy ≤ 1 ∧ Hid (Acc zs k cy (val (xs.take k) + val (ys.take k))) ∧
      Hid (wr.ownsRow w.heap.size 3 1 (.slice (some ⟨w.heap.size, 0, none⟩) (n + 1) (n + 1)) (n + 1) ((rowL zs (n + 1)).map (Value.int .i64))) ∧ Hid (Below w.heap.size w wr)) (fun _ i _ => n - (intOf i).toNat)
  case atStart => exact ⟨0, 0, [], Nat.zero_le _, rfl, rfl, by omega, by omega, hide (by simpa [val] using Acc.start), hide hown0, hide hb0⟩
  case round =>
    obtain ⟨k, cy, zs, hk, rfl, rfl, hc0, hc1, HA, HO, HB⟩ := hrel
    by_cases hlt : k < n
    · obtain ⟨b, off, rfl, hcx⟩ := ((unhide HX).later (Nat.le_refl _) (unhide HB)).at (k := k) (by rw [unhide HN]; exact hlt)
      have hxb := okL_get ox k
      have hyb := okL_get oy k
      have hvx := hide (val_take_succ xs k)
      have hvy := hide (val_take_succ ys k)
      by_cases hkm : k < m
      · obtain ⟨b', off', rfl, hcy⟩ := ((unhide HY).later (Nat.le_refl _) (unhide HB)).at (k := k) (by rw [unhide HM]; exact hkm)
        generalize xs.getD k 0 = x at *
        generalize ys.getD k 0 = y at *
        obtain ⟨hx0, hx1⟩ := hxb
        obtain ⟨hy0, hy1⟩ := hyb
        have hkm' : (k : Int) < (m : Int) := by omega
        obtain ⟨r1, r2, r3⟩ := rowL_owns (unhide HO) (unhide HA).len (show k < n + 1 by omega) ((cy + x + y) % 65536)
        have HR := hide r3
        have HB2 := hide ((unhide HB).setCell (p := ⟨w.heap.size, k, none⟩) (Nat.le_refl _) (.int .i64 ((cy + x + y) % 65536)))
        have HA2 := hide ((unhide HA).step (cy + x + y))
        clear r3 HO
        go_wp2
        go_roundw
        case rel => exact ⟨k + 1, (cy + x + y) / 65536, zs ++ [(cy + x + y) % 65536], by omega, by go_num, rfl, by omega, by omega, hide ((unhide HA2).cast (by rw [unhide hvx, unhide hvy, Int.mul_sub, Int.mul_add, Int.mul_add]; omega)), HR, HB2⟩
        case measure => simp [intOf]; omega
      · have hy00 : ys.getD k 0 = 0 := by simp only [List.getD_eq_getElem?_getD]; rw [List.getElem?_eq_none (by rw [unhide HM]; omega)]; rfl
        rw [hy00] at hvy
        clear hy00 hyb
        generalize xs.getD k 0 = x at *
        obtain ⟨hx0, hx1⟩ := hxb
        have hkm' : ¬ (k : Int) < (m : Int) := by omega
        obtain ⟨r1, r2, r3⟩ := rowL_owns (unhide HO) (unhide HA).len (show k < n + 1 by omega) ((cy + x) % 65536)
        have HR := hide r3
        have HB2 := hide ((unhide HB).setCell (p := ⟨w.heap.size, k, none⟩) (Nat.le_refl _) (.int .i64 ((cy + x) % 65536)))
        have HA2 := hide ((unhide HA).step (cy + x))
        clear r3 HO
        go_wp2
        go_roundw
        case rel => exact ⟨k + 1, (cy + x) / 65536, zs ++ [(cy + x) % 65536], by omega, by go_num, rfl, by omega, by omega, hide ((unhide HA2).cast (by rw [unhide hvx, unhide hvy, Int.mul_sub, Int.mul_add]; omega)), HR, HB2⟩
        case measure => simp [intOf]; omega
    · obtain rfl : k = n := by omega
      obtain ⟨r1, r2, r3⟩ := rowL_owns (unhide HO) (unhide HA).len (show k < k + 1 by omega) cy
      have HR := hide r3
      have HB2 := hide ((unhide HB).setCell (p := ⟨w.heap.size, k, none⟩) (Nat.le_refl _) (.int .i64 cy))
      clear r3 HO
      have hln : (zs ++ [cy]).length = k + 1 := by simp [(unhide HA).len]
      have HL := hide hln
      clear hln
      go_wp2_with fail
      have ho := Own.of_owns (zs := zs ++ [cy]) (by have := unhide HR; rw [rowL_full _ _ (unhide HL)] at this; exact this) (unhide HL)
      refine (trim_any _ (k + 1) (k + 1) (zs ++ [cy]) _ ⟨ho.sl, unhide HL, Nat.le_refl _, by unfold maxLen; omega, .inr ⟨_, _, rfl⟩⟩).mono ?_
      rintro e w2 ⟨a2, n2, c2, rfl, rfl, harg, hown⟩
      have HF : Hid (Own w.heap.size (wr.setCell ⟨w.heap.size, k, none⟩ (.int .i64 cy)) a2 (trim (zs ++ [cy])) ∧ Arg (wr.setCell ⟨w.heap.size, k, none⟩ (.int .i64 cy)) a2 n2 c2 (trim (zs ++ [cy])) ∧ Nm (trim (zs ++ [cy])) (val xs + val ys)) := by
        refine hide ⟨hown _ _ ho, harg _ ⟨ho.sl, unhide HL, Nat.le_refl _, by unfold maxLen; omega, .inr ⟨_, _, rfl⟩⟩, ?_⟩
        have hA := unhide HA
        have e1 := hA.v
        rw [List.take_of_length_le (by rw [unhide HN]; exact Nat.le_refl _), List.take_of_length_le (by rw [unhide HM]; omega)] at e1
        have e2 : val (zs ++ [cy]) = val xs + val ys := by rw [val_snoc, hA.len]; exact e1
        rw [← e2]
        exact Nm.trimmed (okL_append hA.ok (okL_one hc0 (by omega)))
      clear harg hown ho
      go_wp2
      go_ret
      exact ⟨a2, n2, c2, _, rfl, unhide HB2, (unhide HF).1, (unhide HF).2.1, (unhide HF).2.2⟩

theorem addI_any (a a' : Option Addr) (n m c c' : Nat) (xs ys : List Int) (w : World) (hx : Arg w a n c xs) (hy : Arg w a' m c' ys) (ox : okL xs) (oy : okL ys) (h1 : n ≤ 1048576) (h2 : m ≤ 1048576) :
    Calls Tryz.prog 90 #[.slice a n c, .slice a' m c'] w (Out w (val xs + val ys)) := by
  by_cases h : m ≤ n
  · exact addI_ge a a' n m c c' xs ys w hx hy ox oy h1 h
  · rw [Int.add_comm]; exact addI_lt a' a m n c' c ys xs w hy hx oy ox h2 (by omega)
end Go.Proofs.YtdgonpbponnnaaaGreatDoor
