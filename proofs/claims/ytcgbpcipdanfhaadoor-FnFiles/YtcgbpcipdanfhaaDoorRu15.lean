/- The runs of a row, of both sides. No condition beyond those typed. Written by mkru15.py. -/
import Derived.Test.YtcgbpcipdanfhaaDoorRn15
namespace Go.Proofs.YtcgbpcipdanfhaaDoor
open Go.RowKit
set_option linter.unusedVariables false
set_option maxRecDepth 100000
set_option linter.unusedSimpArgs false

set_option maxHeartbeats 8000000 in
theorem runsI (a : Option Addr) (n c : Nat) (xs : List Int) (w : World) (h : Arg w a n c xs) (h1 : n ≤ 1048576) :
    Calls Tryd.prog 42 #[.slice a n c] w fun e w' => ∃ v, e = .returned v ∧ Below w.heap.size w w' ∧ RwN w.heap.size w' v (rns xs) := by
  obtain ⟨i0, hi0, hz0, hz1, hz2⟩ := info_parts infoPt
  have HS := hide h.sl
  have HN := hide h.len
  clear h
  go_enter Tryd.func42, Tryd.ntmps42
  go_wp2_with (at_make; refine wpList_make_own _ rfl _ _ 25 rfl w.heap.size 66 i0 (.agg #[.int .i64 0, .int .i64 0]) 2 Tryd.underlying25 hi0 hz0 hz1 .i64 .i64 _ n rfl rfl rfl ?c1 ?c2 ?c3 ?_)
  case c1 => rw [hz2]; omega
  case c2 => unfold maxLen; omega
  case c3 => exact Nat.le_refl _
  intro w0 hown hgrow
  have P0 : Hid (∃ v, Value.slice (some ⟨w.heap.size, 0, none⟩) 0 n = v ∧ RwN w.heap.size w0 v []) := hide ⟨_, rfl, ⟨by simpa [flatP] using hown⟩⟩
  have B0 : Hid (Below w.heap.size w w0) := hide ((Below.refl _ _).grown hgrow (Nat.le_refl _) (fun k e => by cases e))
  clear hown hgrow
  go_wp2
  go_loopw [3, 11] (fun v iv wr => ∃ i : Nat, i ≤ n ∧ iv = .int .i64 i ∧ Hid (RwN w.heap.size wr v (rns (xs.take i))) ∧ Hid (Below w.heap.size w wr)) (fun _ iv _ => n - (intOf iv).toNat)
  case atStart => obtain ⟨v, rfl, r⟩ := unhide P0; exact ⟨0, Nat.zero_le _, rfl, hide (by simpa [rns] using r), B0⟩
  case round =>
    clear P0 B0
    rename_i v0 _ _
    obtain ⟨i, hi, rfl, HR, HW⟩ := hrel
    by_cases hlt : i < n
    · have hlt' : (i : Int) < (n : Int) := by omega
      have hil : i < xs.length := by rw [unhide HN]; exact hlt
      have LB := hide (show (rns (xs.take i)).length ≤ 1048576 by have := rns_len (xs.take i); rw [List.length_take] at this; omega)
      rcases unhide HS with e | ⟨b, off, rfl, hb, hc⟩
      · exact absurd (unhide HN) (by rw [e]; simp; omega)
      have e0 := hc i hil
      obtain ⟨x, hx⟩ : ∃ x, x = xs.getD i 0 := ⟨_, rfl⟩
      rw [← hx] at e0
      have TK : Hid (rns (xs.take (i + 1)) = rnS (rns (xs.take i)) x) := hide (by rw [take_succ14 hil, rns_snoc, hx])
      have E0 : wr.cell? ⟨b, off + i, none⟩ = some (.int .i64 x) := ((unhide HW).cell (p := ⟨b, off + i, none⟩) hb).trans e0
      have hbr : b < wr.heap.size := Nat.lt_of_lt_of_le hb (unhide HW).size
      clear e0
      by_cases h0 : i = 0
      · have dg : ((i : Int) == 0) = true := by rw [beq_iff_eq]; omega
        have EL : rns (xs.take i) = [] := by rw [h0]; rfl
        rw [EL] at HR TK LB
        rw [rnS_nil] at TK
        clear hc hx EL h0
        go_wp2_with (at_builtin; refine wpList_append_own _ rfl (.tmp 27) (.tmp 30) 25 rfl w.heap.size 66 i0 (.agg #[.int .i64 0, .int .i64 0]) 2 16 Tryd.underlying25 hi0 hz0 hz1 hz2 rfl (by decide) _ _ _ rfl ((unhide HR).row.alloc _) ⟨_, 0, none⟩ 1 1 [.int .i64 x, .int .i64 0] rfl rfl (new_cellN _ _ _) (fun u hu => by simp at hu; rcases hu with rfl | rfl <;> rfl) (by unfold maxLen; have := unhide LB; omega) (by have := unhide LB; omega) (by have := (unhide HW).size; simp; omega) ?_)
        intro v' w6 hown hgr _
        have RN := hide (RwN.snoc (L := []) (by first | exact hown | (rw [show ([]).length + 1 = D.length + 1 + 1 by simp]; exact hown)))
        replace HW := hide (owns_belowR (unhide HW) (unhide HW).size (unhide HR).row hgr)
        clear hown hgr HR E0
        obtain ⟨g, cc, n1, d, rfl, nd, q1, q2, q3, q4, K0, K1, fr, put⟩ := (unhide RN).tip
        have wd : IntKind.i64.wrap ((n1 : Int) - 1) = (d : Int) := by have := unhide LB; rw [IntKind.wrap_i64]; omega
        have ld : (d : Int) < (n1 : Int) := by omega
        have R7 := hide (put 1)
        have HW7 := hide (set_bel15 (k := d * 2 + 1) (u := .int .i64 1) (unhide HW) q1 q2)
        replace nd := hide nd
        clear put
        replace R7 := hide (show RwN _ _ _ (rns (xs.take (i + 1))) by rw [unhide TK]; exact unhide R7)
        clear RN TK LB HN HS
        go_wp2
        go_roundw
        case rel => exact ⟨i + 1, by omega, by go_num, R7, HW7⟩
        case measure => simp [intOf]; omega
      · obtain ⟨j, hj⟩ : ∃ j, i = j + 1 := ⟨i - 1, by omega⟩
        have hjl : j < xs.length := by omega
        obtain ⟨D, m, eL, m1, m2, m3⟩ := rns_last xs j hjl
        have f0 := hc j hjl
        obtain ⟨y, hy⟩ : ∃ y, y = xs.getD j 0 := ⟨_, rfl⟩
        rw [← hy] at f0
        rw [← hy, ← hj] at eL
        have F0 : wr.cell? ⟨b, off + j, none⟩ = some (.int .i64 y) := ((unhide HW).cell (p := ⟨b, off + j, none⟩) hb).trans f0
        have dg : ((i : Int) == 0) = false := by rw [beq_eq_false_iff_ne]; omega
        have wj : IntKind.i64.wrap ((i : Int) - 1) = (j : Int) := by rw [IntKind.wrap_i64]; omega
        have lj : (j : Int) < (n : Int) := by omega
        have wm : IntKind.i64.wrap (m + 1) = m + 1 := by rw [IntKind.wrap_i64]; omega
        rw [eL] at HR TK LB
        clear f0 hc hx hy eL hjl m1 m2
        replace hj := hide hj
        replace m3 := hide m3
        by_cases ep : y = x
        · have dn : (x != y) = false := by rw [ep]; simp
          have dn2 : (y == x) = true := by rw [ep]; simp
          rw [ep, rnS_same] at TK
          obtain ⟨g, cc, n1, d, rfl, nd, q1, q2, q3, q4, K0, K1, fr, put⟩ := (unhide HR).tip
          have wd : IntKind.i64.wrap ((n1 : Int) - 1) = (d : Int) := by have := unhide LB; have := unhide m3; rw [IntKind.wrap_i64]; omega
          have ld : (d : Int) < (n1 : Int) := by omega
          have pn : decide ((0 : Int) < (n1 : Int)) = true := decide_eq_true (by omega)
          have pn' : decide (0 < n1) = true := decide_eq_true (by omega)
          have R7 := hide (show RwN _ _ _ (rns (xs.take (i + 1))) by rw [unhide TK, ← ep]; exact put (m + 1))
          have HW7 := hide (set_bel15 (k := d * 2 + 1) (u := .int .i64 (m + 1)) (unhide HW) q1 q2)
          replace nd := hide nd
          replace ep := hide ep
          clear put HR TK LB HN HS
          go_wp2
          go_roundw
          case rel => exact ⟨i + 1, by omega, by go_num, R7, HW7⟩
          case measure => simp [intOf]; omega
        · have dn : (x != y) = true := by simp; exact fun e => ep e.symm
          have dn2 : (y == x) = false := by rw [beq_eq_false_iff_ne]; exact ep
          rw [rnS_other D m ep] at TK
          replace ep := hide ep
          go_wp2_with (at_builtin; refine wpList_append_own _ rfl (.tmp 27) (.tmp 30) 25 rfl w.heap.size 66 i0 (.agg #[.int .i64 0, .int .i64 0]) 2 16 Tryd.underlying25 hi0 hz0 hz1 hz2 rfl (by decide) _ _ _ rfl ((unhide HR).row.alloc _) ⟨_, 0, none⟩ 1 1 [.int .i64 x, .int .i64 0] rfl rfl (new_cellN _ _ _) (fun u hu => by simp at hu; rcases hu with rfl | rfl <;> rfl) (by unfold maxLen; have := unhide LB; omega) (by have := unhide LB; omega) (by have := (unhide HW).size; simp; omega) ?_)
          intro v' w6 hown hgr _
          have RN := hide (RwN.snoc (L := D ++ [(y, m)]) (by first | exact hown | (rw [show (D ++ [(y, m)]).length + 1 = D.length + 1 + 1 by simp]; exact hown)))
          replace HW := hide (owns_belowR (unhide HW) (unhide HW).size (unhide HR).row hgr)
          clear hown hgr HR E0
          obtain ⟨g, cc, n1, d, rfl, nd, q1, q2, q3, q4, K0, K1, fr, put⟩ := (unhide RN).tip
          have wd : IntKind.i64.wrap ((n1 : Int) - 1) = (d : Int) := by have := unhide LB; rw [IntKind.wrap_i64]; omega
          have ld : (d : Int) < (n1 : Int) := by omega
          have R7 := hide (put 1)
          have HW7 := hide (set_bel15 (k := d * 2 + 1) (u := .int .i64 1) (unhide HW) q1 q2)
          replace nd := hide nd
          clear put
          replace R7 := hide (show RwN _ _ _ (rns (xs.take (i + 1))) by rw [unhide TK]; exact unhide R7)
          clear RN TK LB HN HS
          go_wp2
          go_roundw
          case rel => exact ⟨i + 1, by omega, by go_num, R7, HW7⟩
          case measure => simp [intOf]; omega
    · obtain rfl : i = n := by omega
      have ET : xs.take i = xs := by rw [← unhide HN, List.take_length]
      rw [ET] at HR
      clear ET HS
      go_wp2
      go_ret
      exact ⟨_, rfl, unhide HW, unhide HR⟩
set_option maxHeartbeats 8000000 in
theorem runsS (a : Option Addr) (n c : Nat) (xs : List Int) (w : World) (h : Arg w a n c xs) (h1 : n ≤ 1048576) :
    Calls Tryd.prog 44 #[.slice a n c] w fun e w' => ∃ v, e = .returned v ∧ Below w.heap.size w w' ∧ RwN w.heap.size w' v (rns xs) := by
  obtain ⟨i0, hi0, hz0, hz1, hz2⟩ := info_parts infoPt
  have HS := hide h.sl
  have HN := hide h.len
  clear h
  go_enter Tryd.func44, Tryd.ntmps44
  have B0 := hide (Below.refl w.heap.size w)
  have P0 : Hid (∃ v, Value.slice none 0 0 = v ∧ RwN w.heap.size w v []) := hide ⟨_, rfl, RwN.nil _ _⟩
  go_wp2
  go_loopw [3, 9] (fun v iv wr => ∃ i : Nat, i ≤ n ∧ iv = .int .i64 i ∧ Hid (RwN w.heap.size wr v (rns (xs.take i))) ∧ Hid (Below w.heap.size w wr)) (fun _ iv _ => n - (intOf iv).toNat)
  case atStart => obtain ⟨v, rfl, r⟩ := unhide P0; exact ⟨0, Nat.zero_le _, rfl, hide (by simpa [rns] using r), B0⟩
  case round =>
    clear P0 B0
    rename_i v0 _ _
    obtain ⟨i, hi, rfl, HR, HW⟩ := hrel
    by_cases hlt : i < n
    · have hlt' : (i : Int) < (n : Int) := by omega
      have hil : i < xs.length := by rw [unhide HN]; exact hlt
      have LB := hide (show (rns (xs.take i)).length ≤ 1048576 by have := rns_len (xs.take i); rw [List.length_take] at this; omega)
      rcases unhide HS with e | ⟨b, off, rfl, hb, hc⟩
      · exact absurd (unhide HN) (by rw [e]; simp; omega)
      have e0 := hc i hil
      obtain ⟨x, hx⟩ : ∃ x, x = xs.getD i 0 := ⟨_, rfl⟩
      rw [← hx] at e0
      have TK : Hid (rns (xs.take (i + 1)) = rnS (rns (xs.take i)) x) := hide (by rw [take_succ14 hil, rns_snoc, hx])
      have E0 : wr.cell? ⟨b, off + i, none⟩ = some (.int .i64 x) := ((unhide HW).cell (p := ⟨b, off + i, none⟩) hb).trans e0
      have hbr : b < wr.heap.size := Nat.lt_of_lt_of_le hb (unhide HW).size
      clear e0
      by_cases h0 : i = 0
      · have dg : ((i : Int) == 0) = true := by rw [beq_iff_eq]; omega
        have EL : rns (xs.take i) = [] := by rw [h0]; rfl
        rw [EL] at HR TK LB
        rw [rnS_nil] at TK
        clear hc hx EL h0
        obtain ⟨av, cv, rfl, _⟩ := (unhide HR).rt
        go_wp2_with (at_builtin; refine wpList_append_own _ rfl (.tmp 36) (.tmp 39) 25 rfl w.heap.size 66 i0 (.agg #[.int .i64 0, .int .i64 0]) 2 16 Tryd.underlying25 hi0 hz0 hz1 hz2 rfl (by decide) _ _ _ rfl ((unhide HR).row.alloc _) ⟨_, 0, none⟩ 1 1 [.int .i64 x, .int .i64 1] rfl rfl (new_cellN _ _ _) (fun u hu => by simp at hu; rcases hu with rfl | rfl <;> rfl) (by unfold maxLen; have := unhide LB; omega) (by have := unhide LB; omega) (by have := (unhide HW).size; simp; omega) ?_)
        intro v' w6 hown hgr _
        have RN := hide (RwN.snoc (L := []) (by first | exact hown | (rw [show ([]).length + 1 = D.length + 1 + 1 by simp]; exact hown)))
        replace HW := hide (owns_belowR (unhide HW) (unhide HW).size (unhide HR).row hgr)
        clear hown hgr HR E0
        have R7 := RN
        have HW7 := HW
        replace R7 := hide (show RwN _ _ _ (rns (xs.take (i + 1))) by rw [unhide TK]; exact unhide R7)
        clear RN TK LB HN HS
        go_wp2
        go_roundw
        case rel => exact ⟨i + 1, by omega, by go_num, R7, HW7⟩
        case measure => simp [intOf]; omega
      · obtain ⟨j, hj⟩ : ∃ j, i = j + 1 := ⟨i - 1, by omega⟩
        have hjl : j < xs.length := by omega
        obtain ⟨D, m, eL, m1, m2, m3⟩ := rns_last xs j hjl
        have f0 := hc j hjl
        obtain ⟨y, hy⟩ : ∃ y, y = xs.getD j 0 := ⟨_, rfl⟩
        rw [← hy] at f0
        rw [← hy, ← hj] at eL
        have F0 : wr.cell? ⟨b, off + j, none⟩ = some (.int .i64 y) := ((unhide HW).cell (p := ⟨b, off + j, none⟩) hb).trans f0
        have dg : ((i : Int) == 0) = false := by rw [beq_eq_false_iff_ne]; omega
        have wj : IntKind.i64.wrap ((i : Int) - 1) = (j : Int) := by rw [IntKind.wrap_i64]; omega
        have lj : (j : Int) < (n : Int) := by omega
        have wm : IntKind.i64.wrap (m + 1) = m + 1 := by rw [IntKind.wrap_i64]; omega
        rw [eL] at HR TK LB
        clear f0 hc hx hy eL hjl m1 m2
        replace hj := hide hj
        replace m3 := hide m3
        by_cases ep : y = x
        · have dn : (x != y) = false := by rw [ep]; simp
          have dn2 : (y == x) = true := by rw [ep]; simp
          rw [ep, rnS_same] at TK
          obtain ⟨g, cc, n1, d, rfl, nd, q1, q2, q3, q4, K0, K1, fr, put⟩ := (unhide HR).tip
          have wd : IntKind.i64.wrap ((n1 : Int) - 1) = (d : Int) := by have := unhide LB; have := unhide m3; rw [IntKind.wrap_i64]; omega
          have ld : (d : Int) < (n1 : Int) := by omega
          have pn : decide ((0 : Int) < (n1 : Int)) = true := decide_eq_true (by omega)
          have pn' : decide (0 < n1) = true := decide_eq_true (by omega)
          have R7 := hide (show RwN _ _ _ (rns (xs.take (i + 1))) by rw [unhide TK, ← ep]; exact put (m + 1))
          have HW7 := hide (set_bel15 (k := d * 2 + 1) (u := .int .i64 (m + 1)) (unhide HW) q1 q2)
          replace nd := hide nd
          replace ep := hide ep
          clear put HR TK LB HN HS
          go_wp2
          go_roundw
          case rel => exact ⟨i + 1, by omega, by go_num, R7, HW7⟩
          case measure => simp [intOf]; omega
        · have dn : (x != y) = true := by simp; exact fun e => ep e.symm
          have dn2 : (y == x) = false := by rw [beq_eq_false_iff_ne]; exact ep
          rw [rnS_other D m ep] at TK
          obtain ⟨g, cc, n1, d, rfl, nd, q1, q2, q3, q4, K0, K1, fr, put⟩ := (unhide HR).tip
          have wd : IntKind.i64.wrap ((n1 : Int) - 1) = (d : Int) := by have := unhide LB; have := unhide m3; rw [IntKind.wrap_i64]; omega
          have ld : (d : Int) < (n1 : Int) := by omega
          have pn : decide ((0 : Int) < (n1 : Int)) = true := decide_eq_true (by omega)
          have pn' : decide (0 < n1) = true := decide_eq_true (by omega)
          replace nd := hide nd
          clear put
          replace ep := hide ep
          go_wp2_with (at_builtin; refine wpList_append_own _ rfl (.tmp 36) (.tmp 39) 25 rfl w.heap.size 66 i0 (.agg #[.int .i64 0, .int .i64 0]) 2 16 Tryd.underlying25 hi0 hz0 hz1 hz2 rfl (by decide) _ _ _ rfl ((unhide HR).row.alloc _) ⟨_, 0, none⟩ 1 1 [.int .i64 x, .int .i64 1] rfl rfl (new_cellN _ _ _) (fun u hu => by simp at hu; rcases hu with rfl | rfl <;> rfl) (by unfold maxLen; have := unhide LB; omega) (by have := unhide LB; omega) (by have := (unhide HW).size; simp; omega) ?_)
          intro v' w6 hown hgr _
          have RN := hide (RwN.snoc (L := D ++ [(y, m)]) (by first | exact hown | (rw [show (D ++ [(y, m)]).length + 1 = D.length + 1 + 1 by simp]; exact hown)))
          replace HW := hide (owns_belowR (unhide HW) (unhide HW).size (unhide HR).row hgr)
          clear hown hgr HR E0
          have R7 := RN
          have HW7 := HW
          replace R7 := hide (show RwN _ _ _ (rns (xs.take (i + 1))) by rw [unhide TK]; exact unhide R7)
          clear RN TK LB HN HS
          go_wp2
          go_roundw
          case rel => exact ⟨i + 1, by omega, by go_num, R7, HW7⟩
          case measure => simp [intOf]; omega
    · obtain rfl : i = n := by omega
      have ET : xs.take i = xs := by rw [← unhide HN, List.take_length]
      rw [ET] at HR
      clear ET HS
      go_wp2
      go_ret
      exact ⟨_, rfl, unhide HW, unhide HR⟩
end Go.Proofs.YtcgbpcipdanfhaaDoor
