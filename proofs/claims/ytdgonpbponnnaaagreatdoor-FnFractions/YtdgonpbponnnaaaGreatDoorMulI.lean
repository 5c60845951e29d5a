/- Products of limbs: the program's mulLimbs and the specification's l1MulLimbs. No condition beyond those typed. -/
import Derived.Test.YtdgonpbponnnaaaGreatDoorMulM
namespace Go.Proofs.YtdgonpbponnnaaaGreatDoor
open Go.RowKit
set_option linter.unusedVariables false
set_option maxRecDepth 100000
set_option linter.unusedSimpArgs false

theorem row_cell {w : World} {base g L : Nat} {qs : List Int} (h : w.ownsRow base 3 1 (.slice (some ⟨g, 0, none⟩) L L) L (qs.map (Value.int .i64))) (hl : qs.length = L) {k : Nat} (hk : k < L) (d : Int) :
    w.cell? ⟨g, k, none⟩ = some (.int .i64 (qs.getD k 0)) ∧ w.frozen? ⟨g, k, none⟩ = false ∧ (w.setCell ⟨g, k, none⟩ (.int .i64 d)).ownsRow base 3 1 (.slice (some ⟨g, 0, none⟩) L L) L ((qs.set k d).map (Value.int .i64)) := by
  refine ⟨?_, h.frozenAt k, ?_⟩
  · rw [h.cellAt k (by omega)]
    simp [show k < qs.length by omega]
  · rw [List.map_set]
    exact (h.stored k (.int .i64 d)).1

set_option maxHeartbeats 8000000 in
theorem mulI_any (a a' : Option Addr) (n m c c' : Nat) (xs ys : List Int) (w : World) (hx : Arg w a n c xs) (hy : Arg w a' m c' ys) (ox : okL xs) (oy : okL ys) (h1 : n ≤ 500000) (h2 : m ≤ 500000) :
    Calls Tryz.prog 93 #[.slice a n c, .slice a' m c'] w (Out w (val xs * val ys)) := by
  obtain ⟨i0, hi, hz0, hz1, hz2⟩ := info_parts Tryz.info3
  have HN := hide hx.len
  have HM := hide hy.len
  have HX := hide hx.sl
  have HY := hide hy.sl
  have hmask := and_mask
  clear hx hy
  go_enter Tryz.func93, Tryz.ntmps93
  go_wp2_with (at_make; refine wpList_make_full _ rfl _ _ 23 rfl w.heap.size 3 i0 (.int .i64 0) 1 Tryz.underlying23 hi hz0 hz1 .i64 .i64 _ _ (n + m) rfl rfl (by omega) (by omega) (by rw [hz2]; omega) (by unfold maxLen; omega) (Nat.le_refl _) ?_)
  intro w1 hown hgrow
  have HO0 : Hid (w1.ownsRow w.heap.size 3 1 (.slice (some ⟨w.heap.size, 0, none⟩) (n + m) (n + m)) (n + m) ((List.replicate (n + m) 0).map (Value.int .i64))) := by
    rw [made_ints] at hown; exact hide hown
  have HB0 : Hid (Below w.heap.size w w1) := hide ((Below.refl _ _).grown hgrow (Nat.le_refl _) (fun k e => by cases e))
  clear hown hgrow
  go_wp2
  go_loopw [19] (fun iv wr => ∃ (i : Nat) (ps : List Int), i ≤ n ∧ iv = .int .i64 i ∧ Hid (MulOut ps xs ys i (n + m)) ∧
      Hid (wr.ownsRow w.heap.size 3 1 (.slice (some ⟨w.heap.size, 0, none⟩) (n + m) (n + m)) (n + m) (ps.map (Value.int .i64))) ∧ Hid (Below w.heap.size w wr)) (fun iv _ => n - (intOf iv).toNat)
  case atStart => exact ⟨0, _, Nat.zero_le _, rfl, hide (MulOut.start _ _ _), HO0, HB0⟩
  case round =>
    obtain ⟨i, ps, hi', rfl, HA, HO, HB⟩ := hrel
    by_cases hlt : i < n
    · obtain ⟨b, off, rfl, hcx⟩ := ((unhide HX).later (Nat.le_refl _) (unhide HB)).at (k := i) (by rw [unhide HN]; exact hlt)
      have hxb := okL_get ox i
      obtain ⟨x, hxe⟩ : ∃ x, Hid (xs.getD i 0 = x) := ⟨_, hide rfl⟩
      rw [unhide hxe] at hcx hxb
      obtain ⟨hx0, hx1⟩ := hxb
      have hlt' : (i : Int) < (n : Int) := by omega
      go_wp2
      go_loopw [8, 26] (fun cv jv wq => ∃ (j : Nat) (cy : Int) (qs : List Int), j ≤ m ∧ jv = .int .i64 j ∧ cv = .int .i64 cy ∧ 0 ≤ cy ∧ cy ≤ 65535 ∧ Hid (MulIn ps qs i j x cy ys (n + m)) ∧
        Hid (wq.ownsRow w.heap.size 3 1 (.slice (some ⟨w.heap.size, 0, none⟩) (n + m) (n + m)) (n + m) (qs.map (Value.int .i64))) ∧ Hid (Below w.heap.size w wq)) (fun _ jv _ => m - (intOf jv).toNat)
      case atStart => exact ⟨0, 0, ps, Nat.zero_le _, rfl, rfl, by omega, by omega, hide (MulIn.start (unhide HA).len (unhide HA).ok), HO, HB⟩
      case round =>
        obtain ⟨j, cy, qs, hj, rfl, rfl, hc0, hc1, KA, KO, KB⟩ := hrel
        by_cases hjm : j < m
        · obtain ⟨b', off', rfl, hcy⟩ := ((unhide HY).later (Nat.le_refl _) (unhide KB)).at (k := j) (by rw [unhide HM]; exact hjm)
          have hyb := okL_get oy j
          have hqb := okL_get (unhide KA).ok (i + j)
          have hxy := mul_bound hx0 hx1 hyb.1 hyb.2
          have K2 := hide ((unhide KA).step (by omega) hx0 hx1 oy _ rfl)
          obtain ⟨r1, r2, r3⟩ := row_cell (unhide KO) (unhide KA).len (show i + j < n + m by omega) ((cy + (qs.getD (i + j) 0 + x * ys.getD j 0)) % 65536)
          have R3 := hide r3
          clear r3
          generalize ys.getD j 0 = y at *
          generalize qs.getD (i + j) 0 = q at *
          obtain ⟨hy0, hy1⟩ := hyb
          obtain ⟨hq0, hq1⟩ := hqb
          obtain ⟨hxy0, hxy1⟩ := hxy
          have hjm' : (j : Int) < (m : Int) := by omega
          have hij : (i : Int) + (j : Int) < (n : Int) + (m : Int) := by omega
          have KB2 := hide ((unhide KB).setCell (p := ⟨w.heap.size, i + j, none⟩) (Nat.le_refl _) (.int .i64 ((cy + (q + x * y)) % 65536)))
          go_wp2
          go_roundw
          case rel => exact ⟨j + 1, _, _, by omega, by go_num, rfl, (unhide K2).c0, (unhide K2).c1, K2, R3, KB2⟩
          case measure => simp [intOf]; omega
        · obtain rfl : j = m := by omega
          obtain ⟨r1, r2, r3⟩ := row_cell (unhide KO) (unhide KA).len (show i + j < n + j by omega) cy
          have R3 := hide r3
          have KB2 := hide ((unhide KB).setCell (p := ⟨w.heap.size, i + j, none⟩) (Nat.le_refl _) (.int .i64 cy))
          have HA2 : Hid (MulOut (qs.set (i + j) cy) xs ys (i + 1) (n + j)) := by
            have k := unhide KA
            rw [← unhide hxe] at k
            have hm := unhide HM
            have := (unhide HA).next (by rw [hm]; exact k) (by rw [hm]; omega)
            rw [hm] at this
            exact hide this
          have hij : (i : Int) + (j : Int) < (n : Int) + (j : Int) := by omega
          clear r3 KO
          go_wp2
          go_roundw
          case rel => exact ⟨i + 1, _, by omega, by go_num, HA2, R3, KB2⟩
          case measure => simp [intOf]; omega
    · obtain rfl : i = n := by omega
      have ho := Own.of_owns (zs := ps) (unhide HO) (unhide HA).len
      have harg0 : Arg wr (some ⟨w.heap.size, 0, none⟩) (i + m) (i + m) ps := ⟨ho.sl, (unhide HA).len, Nat.le_refl _, by unfold maxLen; omega, .inr ⟨_, _, rfl⟩⟩
      have H0 := hide (And.intro ho harg0)
      clear ho harg0
      go_wp2_with fail
      refine (trim_any _ (i + m) (i + m) ps _ (unhide H0).2).mono ?_
      rintro e w2 ⟨a2, n2, c2, rfl, rfl, harg, hown⟩
      have HF : Hid (Own w.heap.size w2 a2 (trim ps) ∧ Arg w2 a2 n2 c2 (trim ps) ∧ Nm (trim ps) (val xs * val ys)) := by
        refine hide ⟨hown _ _ (unhide H0).1, harg _ (unhide H0).2, ?_⟩
        have hv := (unhide HA).v
        rw [List.take_of_length_le (by rw [unhide HN]; exact Nat.le_refl _)] at hv
        rw [← hv]
        exact Nm.trimmed (unhide HA).ok
      clear harg hown
      go_wp2
      go_ret
      exact ⟨a2, n2, c2, _, rfl, unhide HB, (unhide HF).1, (unhide HF).2.1, (unhide HF).2.2⟩

set_option maxHeartbeats 8000000 in
theorem mulS_any (a a' : Option Addr) (n m c c' : Nat) (xs ys : List Int) (w : World) (hx : Arg w a n c xs) (hy : Arg w a' m c' ys) (ox : okL xs) (oy : okL ys) (h1 : n ≤ 500000) (h2 : m ≤ 500000) :
    Calls Tryz.prog 96 #[.slice a n c, .slice a' m c'] w (Out w (val xs * val ys)) := by
  obtain ⟨i0, hi, hz0, hz1, hz2⟩ := info_parts Tryz.info3
  have HN := hide hx.len
  have HM := hide hy.len
  have HX := hide hx.sl
  have HY := hide hy.sl
  clear hx hy
  go_enter Tryz.func96, Tryz.ntmps96
  go_wp2_with (at_make; refine wpList_make_full _ rfl _ _ 23 rfl w.heap.size 3 i0 (.int .i64 0) 1 Tryz.underlying23 hi hz0 hz1 .i64 .i64 _ _ (n + m + 1) rfl rfl (by omega) (by omega) (by rw [hz2]; omega) (by unfold maxLen; omega) (Nat.le_refl _) ?_)
  intro w1 hown hgrow
  have HO0 : Hid (w1.ownsRow w.heap.size 3 1 (.slice (some ⟨w.heap.size, 0, none⟩) (n + m + 1) (n + m + 1)) (n + m + 1) ((List.replicate (n + m + 1) 0).map (Value.int .i64))) := by
    rw [made_ints] at hown; exact hide hown
  have HB0 : Hid (Below w.heap.size w w1) := hide ((Below.refl _ _).grown hgrow (Nat.le_refl _) (fun k e => by cases e))
  clear hown hgrow
  go_wp2
  go_loopw [20] (fun iv wr => ∃ (i : Nat) (ps : List Int), i ≤ n ∧ iv = .int .i64 i ∧ Hid (MulOut ps xs ys i (n + m + 1)) ∧
      Hid (wr.ownsRow w.heap.size 3 1 (.slice (some ⟨w.heap.size, 0, none⟩) (n + m + 1) (n + m + 1)) (n + m + 1) (ps.map (Value.int .i64))) ∧ Hid (Below w.heap.size w wr)) (fun iv _ => n - (intOf iv).toNat)
  case atStart => exact ⟨0, _, Nat.zero_le _, rfl, hide (MulOut.start _ _ _), HO0, HB0⟩
  case round =>
    obtain ⟨i, ps, hi', rfl, HA, HO, HB⟩ := hrel
    by_cases hlt : i < n
    · obtain ⟨b, off, rfl, hcx⟩ := ((unhide HX).later (Nat.le_refl _) (unhide HB)).at (k := i) (by rw [unhide HN]; exact hlt)
      have hxb := okL_get ox i
      obtain ⟨x, hxe⟩ : ∃ x, Hid (xs.getD i 0 = x) := ⟨_, hide rfl⟩
      rw [unhide hxe] at hcx hxb
      obtain ⟨hx0, hx1⟩ := hxb
      have hlt' : (i : Int) < (n : Int) := by omega
      go_wp2
      go_loopw [8, 9] (fun cv jv wq => ∃ (j : Nat) (cy : Int) (qs : List Int), j ≤ m + 1 ∧ jv = .int .i64 j ∧ cv = .int .i64 cy ∧ 0 ≤ cy ∧ cy ≤ 65535 ∧ (j = m + 1 → cy = 0) ∧ Hid (MulIn ps qs i j x cy ys (n + m + 1)) ∧
        Hid (wq.ownsRow w.heap.size 3 1 (.slice (some ⟨w.heap.size, 0, none⟩) (n + m + 1) (n + m + 1)) (n + m + 1) (qs.map (Value.int .i64))) ∧ Hid (Below w.heap.size w wq)) (fun _ jv _ => m + 1 - (intOf jv).toNat)
      case atStart => exact ⟨0, 0, ps, Nat.zero_le _, rfl, rfl, by omega, by omega, fun _ => rfl, hide (MulIn.start (unhide HA).len (unhide HA).ok), HO, HB⟩
      case round =>
        obtain ⟨j, cy, qs, hj, rfl, rfl, hc0, hc1, hcz, KA, KO, KB⟩ := hrel
        by_cases hgo : j < m ∨ 0 < cy
        · have hjl : j < m + 1 := by
            rcases hgo with h | h
            · omega
            · by_cases hq : j = m + 1
              · have := hcz hq; omega
              · omega
          have hyb := okL_get oy j
          have hqb := okL_get (unhide KA).ok (i + j)
          have hxy := mul_bound hx0 hx1 hyb.1 hyb.2
          have K2 := hide ((unhide KA).step (by omega) hx0 hx1 oy (qs.getD (i + j) 0 + x * ys.getD j 0 + cy) (by omega))
          obtain ⟨r1, r2, r3⟩ := row_cell (unhide KO) (unhide KA).len (show i + j < n + m + 1 by omega) 0
          have SY := hide ((unhide HY).later (Nat.le_refl _) (unhide KB))
          have LY := hide (fun w h => limb_any a' m c' ys j w h (unhide HM))
          have HLast : Hid (j = m → ys.getD j 0 = 0 ∧ qs.getD (i + j) 0 = 0) := hide (fun e => ⟨getD_out (unhide HM) (by omega), by rw [(unhide KA).same _ (Nat.le_refl _)]; exact (unhide HA).z _ (by rw [unhide HM]; omega)⟩)
          have HCZ := hide hcz
          clear r3 hcz
          generalize ys.getD j 0 = y at *
          generalize qs.getD (i + j) 0 = q at *
          obtain ⟨hy0, hy1⟩ := hyb
          obtain ⟨hq0, hq1⟩ := hqb
          obtain ⟨hxy0, hxy1⟩ := hxy
          have hij : (i : Int) + (j : Int) < (n : Int) + (m : Int) + 1 := by omega
          have hij0 : (0 : Int) ≤ (i : Int) + (j : Int) := by omega
          rcases (show j < m ∨ (¬ j < m ∧ 0 < cy) from by omega) with g1 | ⟨g1, g2⟩
          · have d1 : (j : Int) < (m : Int) := by omega
            go_wp2
            go_quiet ((go_at_call 109; exact Calls.quiet_of_same (unhide LY _ ((unhide SY).drewN _))))
            have KOd := hide (owns_drewN (unhide KO) nq)
            have KBd := hide (below_drewN (unhide KB) nq)
            clear KO KB SY r1 r2 hcx
            generalize wr.drewN nq = wq at *
            obtain ⟨r1, r2, r3⟩ := row_cell (unhide KOd) (unhide KA).len (show i + j < n + m + 1 by omega) ((q + x * y + cy) % 65536)
            have R3 := hide r3
            have KB2 := hide ((unhide KBd).setCell (p := ⟨w.heap.size, i + j, none⟩) (Nat.le_refl _) (.int .i64 ((q + x * y + cy) % 65536)))
            clear r3
            go_wp2
            go_roundw
            case rel => exact ⟨j + 1, _, _, by omega, by go_num, rfl, (unhide K2).c0, (unhide K2).c1, fun e => by obtain ⟨e1, e2⟩ := unhide HLast (by omega); subst e1; subst e2; simp; omega, K2, R3, KB2⟩
            case measure => simp [intOf]; omega
          · have d1 : decide ((j : Int) < (m : Int)) = false := by simp; omega
            go_wp2
            go_quiet ((go_at_call 109; exact Calls.quiet_of_same (unhide LY _ ((unhide SY).drewN _))))
            have KOd := hide (owns_drewN (unhide KO) nq)
            have KBd := hide (below_drewN (unhide KB) nq)
            clear KO KB SY r1 r2 hcx
            generalize wr.drewN nq = wq at *
            obtain ⟨r1, r2, r3⟩ := row_cell (unhide KOd) (unhide KA).len (show i + j < n + m + 1 by omega) ((q + x * y + cy) % 65536)
            have R3 := hide r3
            have KB2 := hide ((unhide KBd).setCell (p := ⟨w.heap.size, i + j, none⟩) (Nat.le_refl _) (.int .i64 ((q + x * y + cy) % 65536)))
            clear r3
            go_wp2
            go_roundw
            case rel => exact ⟨j + 1, _, _, by omega, by go_num, rfl, (unhide K2).c0, (unhide K2).c1, fun e => by obtain ⟨e1, e2⟩ := unhide HLast (by omega); subst e1; subst e2; simp; omega, K2, R3, KB2⟩
            case measure => simp [intOf]; omega
        · have d1 : decide ((j : Int) < (m : Int)) = false := by simp; omega
          have d2 : ¬ (0 : Int) < cy := by omega
          have hcy : cy = 0 := by omega
          subst hcy
          have HA2 : Hid (MulOut qs xs ys (i + 1) (n + m + 1)) := by
            have k := unhide KA
            rw [← unhide hxe] at k
            exact hide ((unhide HA).nextS k (by rw [unhide HM]; omega) (by rw [unhide HM]; omega))
          clear hcz
          go_wp2
          go_roundw
          case rel => exact ⟨i + 1, _, by omega, by go_num, HA2, KO, KB⟩
          case measure => simp [intOf]; omega
    · obtain rfl : i = n := by omega
      have ho := Own.of_owns (zs := ps) (unhide HO) (unhide HA).len
      have harg0 : Arg wr (some ⟨w.heap.size, 0, none⟩) (i + m + 1) (i + m + 1) ps := ⟨ho.sl, (unhide HA).len, Nat.le_refl _, by unfold maxLen; omega, .inr ⟨_, _, rfl⟩⟩
      have H0 := hide (And.intro ho harg0)
      clear ho harg0
      go_wp2_with fail
      refine (cut_any _ (i + m + 1) (i + m + 1) ps _ (unhide H0).2 (by omega)).mono ?_
      rintro e w2 ⟨a2, n2, c2, rfl, hb2, hown, harg⟩
      have HF : Hid (Below w.heap.size w w2 ∧ Own w.heap.size w2 a2 (trim ps) ∧ Arg w2 a2 n2 c2 (trim ps) ∧ Nm (trim ps) (val xs * val ys)) := by
        refine hide ⟨(unhide HB).trans (hb2.mono (unhide HB).size), hown.mono (unhide HB).size, harg, ?_⟩
        have hv := (unhide HA).v
        rw [List.take_of_length_le (by rw [unhide HN]; exact Nat.le_refl _)] at hv
        rw [← hv]
        exact Nm.trimmed (unhide HA).ok
      clear harg hown hb2
      go_wp2
      go_ret
      exact ⟨a2, n2, c2, _, rfl, (unhide HF).1, (unhide HF).2.1, (unhide HF).2.2.1, (unhide HF).2.2.2⟩
end Go.Proofs.YtdgonpbponnnaaaGreatDoor
