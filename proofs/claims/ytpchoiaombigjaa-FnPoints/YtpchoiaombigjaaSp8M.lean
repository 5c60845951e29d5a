/- MovePts of the specification. No condition beyond those typed. -/
import Derived.Test.YtpchoiaombigjaaSp8T
namespace Go.Proofs.Ytpchoiaombigjaa
open Go.RowKit
set_option linter.unusedVariables false
set_option maxRecDepth 100000
set_option linter.unusedSimpArgs false

def mvL (l : List (Int × Int)) (q : Int × Int) : List (Int × Int) := l.map (fun p => (p.1 + q.1, p.2 + q.2))
def mvB (l : List (Int × Int)) (q : Int × Int) : Bool := (wayB l && gPt q) && (mvL l q).all gPt
def mvV (l : List (Int × Int)) (q : Int × Int) : List (Int × Int) := if mvB l q then mvL l q else []
theorem mvL_succ {l : List (Int × Int)} (q : Int × Int) {j : Nat} (h : j < l.length) : mvL (l.take (j + 1)) q = mvL (l.take j) q ++ [((l.getD j (0, 0)).1 + q.1, (l.getD j (0, 0)).2 + q.2)] := by
  unfold mvL
  rw [take_succP h, List.map_append, getD_gt h]
  rfl
set_option maxHeartbeats 8000000 in
theorem MovePtsS (a : Option Addr) (n c : Nat) (l : List (Int × Int)) (q : Int × Int) (w : World) (h : ArP w a n c l) (h1 : n ≤ 1048576) :
    Calls Try.prog 30 #[.slice a n c, .agg #[.int .i64 q.1, .int .i64 q.2]] w fun e w' => ∃ a' n' c', e = .returned (.tuple #[.slice a' n' c', .bool (mvB l q)]) ∧ Below w.heap.size w w' ∧ RtP w.heap.size w' a' n' c' (mvV l q) ∧ n' ≤ 1048576 := by
  obtain ⟨i0, hi, hz0, hz1, hz2⟩ := info_parts infoPt
  have HN := hide h.len
  have al : Below w.heap.size w (w.alloc (.cells #[.int .i64 q.1, .int .i64 q.2] 24)) := (Below.refl _ _).alloc (Nat.le_refl _) _
  have HS := hide (h.sl.later al)
  have C1 := hide (fun w (k : SlP w a l) => wayS a n c l w k h.len (by unfold maxLen; omega))
  have C2 := hide (fun w => goodPS q.1 q.2 w)
  have HA := hide al
  have K0 : Hid ((w.alloc (.cells #[.int .i64 q.1, .int .i64 q.2] 24)).cell? ⟨w.heap.size, 0, none⟩ = some (.int .i64 q.1) ∧ (w.alloc (.cells #[.int .i64 q.1, .int .i64 q.2] 24)).cell? ⟨w.heap.size, 1, none⟩ = some (.int .i64 q.2)) := hide (by simp [go_sem])
  clear h al
  unfold mvV mvB
  cases hg : wayB l
  · rw [hg] at C1
    go_enter Try.func30, Try.ntmps30
    go_wp2_with fail
    refine (unhide C1 _ (unhide HS)).mono ?_
    rintro e w1 ⟨rfl, hb⟩
    go_wp2_with fail
    go_ret2
    exact ⟨none, 0, 0, rfl, below_on (unhide HA) hb, ⟨rfl, .inl rfl⟩, by omega⟩
  · rw [hg] at C1
    cases hq : gPt q
    · have hq2 : gPt (q.1, q.2) = false := hq
      rw [hq2] at C2
      go_enter Try.func30, Try.ntmps30
      go_wp2_with fail
      refine (unhide C1 _ (unhide HS)).mono ?_
      rintro e w1 ⟨rfl, hb⟩
      have k0 := cell_later hb (unhide K0).1
      have k1 := cell_later hb (unhide K0).2
      have HB := hide (below_on (unhide HA) hb)
      clear hb
      go_wp2_with fail
      refine (unhide C2 _).mono ?_
      rintro e w2 ⟨rfl, hb⟩
      go_wp2_with fail
      go_ret2
      exact ⟨none, 0, 0, rfl, below_on (unhide HB) hb, ⟨rfl, .inl rfl⟩, by omega⟩
    · have hq2 : gPt (q.1, q.2) = true := hq
      rw [hq2] at C2
      have wp := way_parts hg
      have ln := wp.1
      rw [unhide HN] at ln
      have NR := hide wp.2
      have nq := near_of hq
      have NQ := hide nq
      clear hg hq hq2 wp nq
      cases ha : (mvL l q).all gPt
      · have HA2 := hide ha
        clear ha
        simp only [Bool.and_self, Bool.true_and, Bool.and_false, Bool.and_true, if_true, if_false, Bool.false_eq_true]
        go_enter Try.func30, Try.ntmps30
        go_wp2_with fail
        refine (unhide C1 _ (unhide HS)).mono ?_
        rintro e w1 ⟨rfl, hb⟩
        have k0 := cell_later hb (unhide K0).1
        have k1 := cell_later hb (unhide K0).2
        replace HS := hide ((unhide HS).later hb)
        have HB := hide (below_on (unhide HA) hb)
        clear hb K0
        go_wp2_with fail
        refine (unhide C2 _).mono ?_
        rintro e w2 ⟨rfl, hb⟩
        have K2 := hide (And.intro (cell_later hb k0) (cell_later hb k1))
        have lt2 : w.heap.size < w2.heap.size := World.block_lt_of_cell? _ _ (cell_later hb k0)
        replace HS := hide ((unhide HS).later hb)
        replace HB := hide (below_on (unhide HB) hb)
        clear hb k0 k1 C1 C2 HA
        go_wp2
        go_loopw [6, 19] (fun v iv wr => ∃ j : Nat, j ≤ n ∧ iv = .int .i64 j ∧ Hid (wr.ownsRow w2.heap.size 24 2 v j (flatP (mvL (l.take j) q))) ∧ Hid (Below w2.heap.size w2 wr)) (fun _ iv _ => n - (intOf iv).toNat)
        case atStart => exact ⟨0, by omega, rfl, hide ⟨rfl, .inl ⟨rfl, rfl⟩⟩, hide (Below.refl _ _)⟩
        case round =>
          obtain ⟨j, hj, rfl, HO, HR⟩ := hrel
          by_cases hlt : j < n
          · have hlt' : (j : Int) < (n : Int) := by omega
            rcases (unhide HS) with e | ⟨b, off, rfl, hb0, hc⟩
            · exact absurd (unhide HN) (by rw [e]; simp; omega)
            have e0 := hc j (by rw [unhide HN]; exact hlt)
            rw [← getD_gt (by rw [unhide HN]; exact hlt)] at e0
            have ET : Hid (mvL (l.take (j + 1)) q = mvL (l.take j) q ++ [((l.getD j (0, 0)).1 + q.1, (l.getD j (0, 0)).2 + q.2)]) := hide (mvL_succ q (by rw [unhide HN]; exact hlt))
            have np := unhide NR (l.getD j (0, 0)) (by rw [getD_gt (by rw [unhide HN]; exact hlt)]; exact List.getElem_mem _)
            generalize l.getD j (0, 0) = y at *
            have n0 := np.x0
            have n1 := np.x1
            have n2 := np.y0
            have n3 := np.y1
            have n4 := (unhide NQ).x0
            have n5 := (unhide NQ).x1
            have n6 := (unhide NQ).y0
            have n7 := (unhide NQ).y1
            have v1 : IntKind.i64.wrap (y.1 + q.1) = y.1 + q.1 := by rw [IntKind.wrap_i64]; omega
            have v2 : IntKind.i64.wrap (y.2 + q.2) = y.2 + q.2 := by rw [IntKind.wrap_i64]; omega
            clear n0 n1 n2 n3 n4 n5 n6 n7 np hc
            have E0 : wr.cell? ⟨b, off + j * 2, none⟩ = some (.int .i64 y.1) := ((unhide HR).cell (p := ⟨b, off + j * 2, none⟩) hb0).trans e0.1
            have E1 : wr.cell? ⟨b, off + j * 2 + 1, none⟩ = some (.int .i64 y.2) := ((unhide HR).cell (p := ⟨b, off + j * 2 + 1, none⟩) hb0).trans e0.2
            have q0 : wr.cell? ⟨w.heap.size, 0, none⟩ = some (.int .i64 q.1) := ((unhide HR).cell (p := ⟨w.heap.size, 0, none⟩) lt2).trans (unhide K2).1
            have q1 : wr.cell? ⟨w.heap.size, 1, none⟩ = some (.int .i64 q.2) := ((unhide HR).cell (p := ⟨w.heap.size, 1, none⟩) lt2).trans (unhide K2).2
            have al : Below wr.heap.size wr (wr.alloc (.cells #[.int .i64 y.1, .int .i64 y.2] 24)) := (Below.refl _ _).alloc (Nat.le_refl _) _
            have ltr : w.heap.size < wr.heap.size := World.block_lt_of_cell? _ _ q0
            have q0a := cell_later al q0
            have q1a := cell_later al q1
            have NC := hide (by have k := new_cellP (wr.alloc (.cells #[.int .i64 y.1, .int .i64 y.2] 24)) (y.1 + q.1) (y.2 + q.2); rw [show (wr.alloc (.cells #[.int .i64 y.1, .int .i64 y.2] 24)).heap.size = wr.heap.size + 1 by simp] at k; exact k)
            have HO1 : Hid ((wr.alloc (.cells #[.int .i64 y.1, .int .i64 y.2] 24)).ownsRow w2.heap.size 24 2 _ j (flatP (mvL (l.take j) q))) := hide ((unhide HO).alloc _)
            have HR1 := hide (below_on (unhide HR) al)
            clear e0 al
            go_wp2_with (at_builtin; refine wpList_append_own _ rfl (.tmp 23) (.tmp 35) 36 rfl w2.heap.size 24 i0 (.agg #[.int .i64 0, .int .i64 0]) 2 16 Try.underlying36 hi hz0 hz1 hz2 rfl (by decide) _ _ _ rfl ((unhide HO1).alloc _) ⟨_, 0, none⟩ 1 1 [.int .i64 (y.1 + q.1), .int .i64 (y.2 + q.2)] rfl rfl (unhide NC) (fun u hu => by simp at hu; rcases hu with rfl | rfl <;> rfl) (by unfold maxLen; omega) (by omega) (by have := (unhide HR).size; simp; omega) ?_)
            intro v' w3 hown hgr _
            have HO2 : Hid (w3.ownsRow w2.heap.size 24 2 v' (j + 1) (flatP (mvL (l.take (j + 1)) q))) := hide (by rw [unhide ET, flatP_append, flatP_one]; exact hown)
            have HR2 := hide (push_belowP (unhide HR1) (unhide HR1).size (unhide HO1) hgr)
            clear hown hgr E0 E1 q0 q1 q0a q1a
            go_wp2
            go_roundw
            case rel => exact ⟨j + 1, by omega, by go_num, HO2, HR2⟩
            case measure => simp [intOf]; omega
          · obtain rfl : j = n := by omega
            obtain ⟨a', c', rfl, rt⟩ := own_rt (unhide HO) (by rw [mvL, List.length_map, List.length_take, unhide HN]; omega)
            have RT : Hid (RtP w2.heap.size wr a' j c' (mvL l q)) := hide (by rw [← unhide HN, List.take_length] at rt; rw [← unhide HN]; exact rt)
            have CP := hide (ptsS a' j c' (mvL l q) wr (unhide RT).sl (unhide RT).len (by unfold maxLen; omega))
            have HB3 := hide (below_on (unhide HB) (unhide HR))
            clear rt HO HS
            rw [unhide HA2] at CP
            go_wp2_with fail
            refine (unhide CP).mono ?_
            rintro e w4 ⟨rfl, hb⟩
            go_wp2_with fail
            go_ret2
            exact ⟨none, 0, 0, rfl, below_on (unhide HB3) hb, ⟨rfl, .inl rfl⟩, by omega⟩
      · have HA2 := hide ha
        clear ha
        simp only [Bool.and_self, Bool.true_and, Bool.and_false, Bool.and_true, if_true, if_false, Bool.false_eq_true]
        go_enter Try.func30, Try.ntmps30
        go_wp2_with fail
        refine (unhide C1 _ (unhide HS)).mono ?_
        rintro e w1 ⟨rfl, hb⟩
        have k0 := cell_later hb (unhide K0).1
        have k1 := cell_later hb (unhide K0).2
        replace HS := hide ((unhide HS).later hb)
        have HB := hide (below_on (unhide HA) hb)
        clear hb K0
        go_wp2_with fail
        refine (unhide C2 _).mono ?_
        rintro e w2 ⟨rfl, hb⟩
        have K2 := hide (And.intro (cell_later hb k0) (cell_later hb k1))
        have lt2 : w.heap.size < w2.heap.size := World.block_lt_of_cell? _ _ (cell_later hb k0)
        replace HS := hide ((unhide HS).later hb)
        replace HB := hide (below_on (unhide HB) hb)
        clear hb k0 k1 C1 C2 HA
        go_wp2
        go_loopw [6, 19] (fun v iv wr => ∃ j : Nat, j ≤ n ∧ iv = .int .i64 j ∧ Hid (wr.ownsRow w2.heap.size 24 2 v j (flatP (mvL (l.take j) q))) ∧ Hid (Below w2.heap.size w2 wr)) (fun _ iv _ => n - (intOf iv).toNat)
        case atStart => exact ⟨0, by omega, rfl, hide ⟨rfl, .inl ⟨rfl, rfl⟩⟩, hide (Below.refl _ _)⟩
        case round =>
          obtain ⟨j, hj, rfl, HO, HR⟩ := hrel
          by_cases hlt : j < n
          · have hlt' : (j : Int) < (n : Int) := by omega
            rcases (unhide HS) with e | ⟨b, off, rfl, hb0, hc⟩
            · exact absurd (unhide HN) (by rw [e]; simp; omega)
            have e0 := hc j (by rw [unhide HN]; exact hlt)
            rw [← getD_gt (by rw [unhide HN]; exact hlt)] at e0
            have ET : Hid (mvL (l.take (j + 1)) q = mvL (l.take j) q ++ [((l.getD j (0, 0)).1 + q.1, (l.getD j (0, 0)).2 + q.2)]) := hide (mvL_succ q (by rw [unhide HN]; exact hlt))
            have np := unhide NR (l.getD j (0, 0)) (by rw [getD_gt (by rw [unhide HN]; exact hlt)]; exact List.getElem_mem _)
            generalize l.getD j (0, 0) = y at *
            have n0 := np.x0
            have n1 := np.x1
            have n2 := np.y0
            have n3 := np.y1
            have n4 := (unhide NQ).x0
            have n5 := (unhide NQ).x1
            have n6 := (unhide NQ).y0
            have n7 := (unhide NQ).y1
            have v1 : IntKind.i64.wrap (y.1 + q.1) = y.1 + q.1 := by rw [IntKind.wrap_i64]; omega
            have v2 : IntKind.i64.wrap (y.2 + q.2) = y.2 + q.2 := by rw [IntKind.wrap_i64]; omega
            clear n0 n1 n2 n3 n4 n5 n6 n7 np hc
            have E0 : wr.cell? ⟨b, off + j * 2, none⟩ = some (.int .i64 y.1) := ((unhide HR).cell (p := ⟨b, off + j * 2, none⟩) hb0).trans e0.1
            have E1 : wr.cell? ⟨b, off + j * 2 + 1, none⟩ = some (.int .i64 y.2) := ((unhide HR).cell (p := ⟨b, off + j * 2 + 1, none⟩) hb0).trans e0.2
            have q0 : wr.cell? ⟨w.heap.size, 0, none⟩ = some (.int .i64 q.1) := ((unhide HR).cell (p := ⟨w.heap.size, 0, none⟩) lt2).trans (unhide K2).1
            have q1 : wr.cell? ⟨w.heap.size, 1, none⟩ = some (.int .i64 q.2) := ((unhide HR).cell (p := ⟨w.heap.size, 1, none⟩) lt2).trans (unhide K2).2
            have al : Below wr.heap.size wr (wr.alloc (.cells #[.int .i64 y.1, .int .i64 y.2] 24)) := (Below.refl _ _).alloc (Nat.le_refl _) _
            have ltr : w.heap.size < wr.heap.size := World.block_lt_of_cell? _ _ q0
            have q0a := cell_later al q0
            have q1a := cell_later al q1
            have NC := hide (by have k := new_cellP (wr.alloc (.cells #[.int .i64 y.1, .int .i64 y.2] 24)) (y.1 + q.1) (y.2 + q.2); rw [show (wr.alloc (.cells #[.int .i64 y.1, .int .i64 y.2] 24)).heap.size = wr.heap.size + 1 by simp] at k; exact k)
            have HO1 : Hid ((wr.alloc (.cells #[.int .i64 y.1, .int .i64 y.2] 24)).ownsRow w2.heap.size 24 2 _ j (flatP (mvL (l.take j) q))) := hide ((unhide HO).alloc _)
            have HR1 := hide (below_on (unhide HR) al)
            clear e0 al
            go_wp2_with (at_builtin; refine wpList_append_own _ rfl (.tmp 23) (.tmp 35) 36 rfl w2.heap.size 24 i0 (.agg #[.int .i64 0, .int .i64 0]) 2 16 Try.underlying36 hi hz0 hz1 hz2 rfl (by decide) _ _ _ rfl ((unhide HO1).alloc _) ⟨_, 0, none⟩ 1 1 [.int .i64 (y.1 + q.1), .int .i64 (y.2 + q.2)] rfl rfl (unhide NC) (fun u hu => by simp at hu; rcases hu with rfl | rfl <;> rfl) (by unfold maxLen; omega) (by omega) (by have := (unhide HR).size; simp; omega) ?_)
            intro v' w3 hown hgr _
            have HO2 : Hid (w3.ownsRow w2.heap.size 24 2 v' (j + 1) (flatP (mvL (l.take (j + 1)) q))) := hide (by rw [unhide ET, flatP_append, flatP_one]; exact hown)
            have HR2 := hide (push_belowP (unhide HR1) (unhide HR1).size (unhide HO1) hgr)
            clear hown hgr E0 E1 q0 q1 q0a q1a
            go_wp2
            go_roundw
            case rel => exact ⟨j + 1, by omega, by go_num, HO2, HR2⟩
            case measure => simp [intOf]; omega
          · obtain rfl : j = n := by omega
            obtain ⟨a', c', rfl, rt⟩ := own_rt (unhide HO) (by rw [mvL, List.length_map, List.length_take, unhide HN]; omega)
            have RT : Hid (RtP w2.heap.size wr a' j c' (mvL l q)) := hide (by rw [← unhide HN, List.take_length] at rt; rw [← unhide HN]; exact rt)
            have CP := hide (ptsS a' j c' (mvL l q) wr (unhide RT).sl (unhide RT).len (by unfold maxLen; omega))
            have HB3 := hide (below_on (unhide HB) (unhide HR))
            clear rt HO HS
            rw [unhide HA2] at CP
            go_wp2_with fail
            refine (unhide CP).mono ?_
            rintro e w4 ⟨rfl, hb⟩
            have RT2 := hide ((unhide RT).later hb)
            have HB4 := hide (below_on (unhide HB3) hb)
            clear hb
            go_wp2_with fail
            go_ret2
            refine ⟨a', j, c', rfl, unhide HB4, ⟨(unhide RT2).len, ?_⟩, by omega⟩
            rcases (unhide RT2).own with h0 | ⟨G, e, hG, ho⟩
            · exact .inl h0
            · exact .inr ⟨G, e, by omega, ho⟩
end Go.Proofs.Ytpchoiaombigjaa
