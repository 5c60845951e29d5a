/- Good runs, of both sides, by value. No condition beyond those typed. Written by mkgr15.py. -/
import Derived.Test.YtcgbpcipdanfhaaDoorCp14
import Derived.Test.YtcgbpcipdanfhaaDoorRw11
namespace Go.Proofs.YtcgbpcipdanfhaaDoor
open Go.RowKit
set_option linter.unusedVariables false
set_option maxRecDepth 100000
set_option linter.unusedSimpArgs false

theorem byoQ (x : Int) (w : World) : Calls Tryd.prog 41 #[.int .i64 x] w fun e w' => e = .returned (.bool (byo x)) ∧ w' = w := by
  by_cases h : x < 0
  · have hd : decide (x < 0) = true := decide_eq_true h
    go_enter Tryd.func41, Tryd.ntmps41
    go_wp2
    go_ret
    exact ⟨by unfold byo; rw [hd]; rfl, rfl⟩
  · have hd : decide (x < 0) = false := decide_eq_false h
    go_enter Tryd.func41, Tryd.ntmps41
    go_wp2
    go_ret
    exact ⟨by unfold byo; rw [hd]; rfl, rfl⟩
/-- How many alike all together. -/
def sumM (l : List (Int × Int)) : Int := (l.map (fun p => p.2)).sum
theorem sumM_snoc (l : List (Int × Int)) (p : Int × Int) : sumM (l ++ [p]) = sumM l + p.2 := by simp [sumM]
/-- The run at i may stand there. -/
def okAt (l : List (Int × Int)) (i : Nat) : Bool := (!byo (l.getD i (0, 0)).1 && !(decide (0 < i) && decide ((l.getD i (0, 0)).1 = (l.getD (i - 1) (0, 0)).1))) && (decide (1 ≤ (l.getD i (0, 0)).2) && decide ((l.getD i (0, 0)).2 ≤ 100 - sumM (l.take i)))
def gRuns (l : List (Int × Int)) : Bool := (List.range l.length).all (okAt l)
theorem gR_no {l : List (Int × Int)} {i : Nat} (hi : i < l.length) (h : okAt l i = false) : gRuns l = false := by
  unfold gRuns
  rw [Bool.eq_false_iff]
  intro k
  have := List.all_eq_true.1 k i (List.mem_range.2 hi)
  rw [h] at this
  cases this
theorem gR_all {l : List (Int × Int)} (h : ∀ j, j < l.length → okAt l j = true) : gRuns l = true := by
  unfold gRuns
  exact List.all_eq_true.2 (fun j hj => h j (List.mem_range.1 hj))
theorem gR_at {l : List (Int × Int)} (h : gRuns l = true) {j : Nat} (hj : j < l.length) : okAt l j = true := List.all_eq_true.1 h j (List.mem_range.2 hj)
theorem okAt_eq {l : List (Int × Int)} {i : Nat} {v m left : Int} (hi : i < l.length) (hv : v = l[i].1) (hm : m = l[i].2) (hl : left = 100 - sumM (l.take i)) (p : Int) (hp : ∀ j (hj : j < l.length), i = j + 1 → p = l[j].1) :
    okAt l i = ((!byo v && !(decide (0 < i) && decide (v = p))) && (decide (1 ≤ m) && decide (m ≤ left))) := by
  have e : l.getD i (0, 0) = l[i] := by simp [List.getD, hi]
  unfold okAt
  rw [e, ← hv, ← hm, ← hl]
  by_cases h0 : 0 < i
  · have e2 : l.getD (i - 1) (0, 0) = l[i - 1]'(by omega) := by simp [List.getD, show i - 1 < l.length by omega]
    rw [e2, ← hp (i - 1) (by omega) (by omega)]
  · simp [h0]
theorem byo_in (v : Int) : (decide (0 ≤ v) && decide (v ≤ 255)) = !byo v := by
  unfold byo
  by_cases a : v < 0 <;> by_cases b : 255 < v <;> simp [a, b] <;> omega
set_option maxHeartbeats 8000000 in
theorem gRunI (a : Option Addr) (n c : Nat) (l : List (Int × Int)) (w : World) (h : SlP w a l) (hn : l.length = n) (hm : n ≤ maxLen) :
    Calls Tryd.prog 13 #[.slice a n c] w fun e w' => e = .returned (.bool (gRuns l)) ∧ Below w.heap.size w w' := by
  have HS := hide h
  have HN := hide hn
  clear h hn
  unfold maxLen at hm
  go_enter Tryd.func13, Tryd.ntmps13
  go_wp2
  go_loopw [3, 8] (fun lv iv wr => ∃ (i : Nat) (left : Int), i ≤ n ∧ iv = .int .i64 i ∧ lv = .int .i64 left ∧ 0 ≤ left ∧ left ≤ 100 ∧ Hid (left = 100 - sumM (l.take i)) ∧ Hid (∀ j, j < i → okAt l j = true) ∧ Hid (Below w.heap.size w wr)) (fun _ iv _ => n - (intOf iv).toNat)
  case atStart => exact ⟨0, 100, Nat.zero_le _, rfl, rfl, by omega, by omega, hide (by simp [sumM]), hide (fun j hj => by omega), hide (Below.refl _ _)⟩
  case round =>
    obtain ⟨i, left, hi, rfl, rfl, l0, l1, HL, HA, HB⟩ := hrel
    by_cases hlt : i < n
    · have hlt' : (i : Int) < (n : Int) := by omega
      have hil : i < l.length := by rw [unhide HN]; exact hlt
      rcases (unhide HS) with e | ⟨b, off, rfl, hb, hc⟩
      · exact absurd (unhide HN) (by rw [e]; simp; omega)
      have e0 := hc i hil
      obtain ⟨v, hv⟩ : ∃ v, v = l[i].1 := ⟨_, rfl⟩
      obtain ⟨m, hmv⟩ : ∃ m, m = l[i].2 := ⟨_, rfl⟩
      have TK : Hid (sumM (l.take (i + 1)) = sumM (l.take i) + m) := hide (by rw [(List.take_append_getElem hil).symm, sumM_snoc, hmv])
      have E0 : wr.cell? ⟨b, off + i * 2, none⟩ = some (.int .i64 v) := by rw [hv]; exact ((unhide HB).cell (p := ⟨b, off + i * 2, none⟩) hb).trans (e0.1)
      have E1 : wr.cell? ⟨b, off + i * 2 + 1, none⟩ = some (.int .i64 m) := by rw [hmv]; exact ((unhide HB).cell (p := ⟨b, off + i * 2 + 1, none⟩) hb).trans (e0.2)
      have hbr : b < wr.heap.size := Nat.lt_of_lt_of_le hb (unhide HB).size
      clear e0
      have BA : Below wr.heap.size wr (wr.alloc (.cells #[.int .i64 v, .int .i64 m] 66)) := (Below.refl _ _).alloc (Nat.le_refl _) _
      have HB1 := hide (below_on (unhide HB) BA)
      have K0 : (wr.alloc (.cells #[.int .i64 v, .int .i64 m] 66)).cell? ⟨wr.heap.size, 0, none⟩ = some (.int .i64 v) := by simp [go_sem]
      have K1 : (wr.alloc (.cells #[.int .i64 v, .int .i64 m] 66)).cell? ⟨wr.heap.size, 1, none⟩ = some (.int .i64 m) := by simp [go_sem]
      by_cases h0 : 0 < i
      · obtain ⟨j, hj⟩ : ∃ j, i = j + 1 := ⟨i - 1, by omega⟩
        have hjl : j < l.length := by omega
        obtain ⟨p, hp⟩ : ∃ p, p = l[j].1 := ⟨_, rfl⟩
        have f0 := (hc j hjl).1
        have F0 : (wr.alloc (.cells #[.int .i64 v, .int .i64 m] 66)).cell? ⟨b, off + j * 2, none⟩ = some (.int .i64 p) := by rw [hp]; exact cell_later BA (((unhide HB).cell (p := ⟨b, off + j * 2, none⟩) hb).trans f0)
        clear f0
        have OK := hide (okAt_eq hil hv hmv (unhide HL) p (fun j' hj' e => (show j' = j by omega) ▸ hp))
        have wj : IntKind.i64.wrap ((i : Int) - 1) = (j : Int) := by rw [IntKind.wrap_i64]; omega
        have lj : (j : Int) < (n : Int) := by omega
        have dg : decide ((0 : Int) < (i : Int)) = true := decide_eq_true (by omega)
        have dg' : decide (0 < i) = true := decide_eq_true h0
        rw [show decide (0 < i) = true from dg', Bool.true_and] at OK
        clear hp hjl
        replace hj := hide hj
        have CB := hide (fun w => byoQ v w)
        cases hby : byo v
        · rw [hby] at CB OK
          by_cases ep : v = p
          · have dp : (v == p) = true := by rw [ep]; exact beq_self_eq_true p
            have dp2 : decide (v = p) = true := decide_eq_true ep
            have NO := hide (gR_no hil (by rw [unhide OK, dp2]; rfl))
            clear hc hv hmv ep
            go_upto_region 5 with fail
            generalize (wr.alloc (.cells #[.int .i64 v, .int .i64 m] 66)) = w6 at *
            go_quiet (first | (go_at_call 41; exact Calls.quiet_of_same (unhide CB _)) | fail)
            replace K0 : (w6.drewN nq).cell? ⟨wr.heap.size, 0, none⟩ = some (.int .i64 v) := K0
            replace K1 : (w6.drewN nq).cell? ⟨wr.heap.size, 1, none⟩ = some (.int .i64 m) := K1
            replace HB1 := hide ((unhide HB1).trans ((below_drewN (Below.refl _ _) nq).mono (by have := (unhide HB).size; omega)))
            generalize w6.drewN nq = w7 at *
            go_wp2
            go_ret
            exact ⟨by rw [unhide NO]; rfl, unhide HB1⟩
          · have dp : (v == p) = false := by rw [beq_eq_false_iff_ne]; exact ep
            have dp2 : decide (v = p) = false := decide_eq_false ep
            rw [dp2] at OK
            by_cases c1 : m < 1
            · have d1 : decide (m < 1) = true := decide_eq_true c1
              have NO := hide (gR_no hil (by rw [unhide OK]; simp; omega))
              clear hc hv hmv
              go_upto_region 5 with fail
              generalize (wr.alloc (.cells #[.int .i64 v, .int .i64 m] 66)) = w6 at *
              go_quiet (first | (go_at_call 41; exact Calls.quiet_of_same (unhide CB _)) | fail)
              replace K0 : (w6.drewN nq).cell? ⟨wr.heap.size, 0, none⟩ = some (.int .i64 v) := K0
              replace K1 : (w6.drewN nq).cell? ⟨wr.heap.size, 1, none⟩ = some (.int .i64 m) := K1
              replace HB1 := hide ((unhide HB1).trans ((below_drewN (Below.refl _ _) nq).mono (by have := (unhide HB).size; omega)))
              generalize w6.drewN nq = w7 at *
              go_wp2
              go_ret
              exact ⟨by rw [unhide NO]; rfl, unhide HB1⟩
            · have d1 : decide (m < 1) = false := decide_eq_false c1
              by_cases c2 : left < m
              · have d2 : decide (left < m) = true := decide_eq_true c2
                have NO := hide (gR_no hil (by rw [unhide OK]; simp; omega))
                clear hc hv hmv
                go_upto_region 5 with fail
                generalize (wr.alloc (.cells #[.int .i64 v, .int .i64 m] 66)) = w6 at *
                go_quiet (first | (go_at_call 41; exact Calls.quiet_of_same (unhide CB _)) | fail)
                replace K0 : (w6.drewN nq).cell? ⟨wr.heap.size, 0, none⟩ = some (.int .i64 v) := K0
                replace K1 : (w6.drewN nq).cell? ⟨wr.heap.size, 1, none⟩ = some (.int .i64 m) := K1
                replace HB1 := hide ((unhide HB1).trans ((below_drewN (Below.refl _ _) nq).mono (by have := (unhide HB).size; omega)))
                generalize w6.drewN nq = w7 at *
                go_wp2
                go_ret
                exact ⟨by rw [unhide NO]; rfl, unhide HB1⟩
              · have d2 : decide (left < m) = false := decide_eq_false c2
                have YES := hide (show okAt l i = true by rw [unhide OK]; simp; omega)
                clear hc hv hmv
                go_upto_region 5 with fail
                generalize (wr.alloc (.cells #[.int .i64 v, .int .i64 m] 66)) = w6 at *
                go_quiet (first | (go_at_call 41; exact Calls.quiet_of_same (unhide CB _)) | fail)
                replace K0 : (w6.drewN nq).cell? ⟨wr.heap.size, 0, none⟩ = some (.int .i64 v) := K0
                replace K1 : (w6.drewN nq).cell? ⟨wr.heap.size, 1, none⟩ = some (.int .i64 m) := K1
                replace HB1 := hide ((unhide HB1).trans ((below_drewN (Below.refl _ _) nq).mono (by have := (unhide HB).size; omega)))
                generalize w6.drewN nq = w7 at *
                have wl : IntKind.i64.wrap (left - m) = left - m := by rw [IntKind.wrap_i64]; omega
                go_wp2
                go_roundw
                case rel => exact ⟨i + 1, left - m, by omega, by go_num, rfl, by omega, by omega, hide (by rw [unhide TK, unhide HL]; omega), hide (fun j hj => if e : j = i then by rw [e]; exact unhide YES else unhide HA j (by omega)), HB1⟩
                case measure => simp [intOf]; omega
        · rw [hby] at CB OK
          have NO := hide (gR_no hil (by rw [unhide OK]; rfl))
          clear hc hv hmv
          go_upto_region 5 with fail
          generalize (wr.alloc (.cells #[.int .i64 v, .int .i64 m] 66)) = w6 at *
          go_quiet (first | (go_at_call 41; exact Calls.quiet_of_same (unhide CB _)) | fail)
          replace K0 : (w6.drewN nq).cell? ⟨wr.heap.size, 0, none⟩ = some (.int .i64 v) := K0
          replace K1 : (w6.drewN nq).cell? ⟨wr.heap.size, 1, none⟩ = some (.int .i64 m) := K1
          replace HB1 := hide ((unhide HB1).trans ((below_drewN (Below.refl _ _) nq).mono (by have := (unhide HB).size; omega)))
          generalize w6.drewN nq = w7 at *
          go_wp2
          go_ret
          exact ⟨by rw [unhide NO]; rfl, unhide HB1⟩
      · have OK := hide (okAt_eq hil hv hmv (unhide HL) 0 (fun j' hj' e => by omega))
        have dg : decide ((0 : Int) < (i : Int)) = false := decide_eq_false (by omega)
        have dg' : decide (0 < i) = false := decide_eq_false h0
        rw [show decide (0 < i) = false from dg', Bool.false_and] at OK
        have CB := hide (fun w => byoQ v w)
        cases hby : byo v
        · rw [hby] at CB OK
          by_cases c1 : m < 1
          · have d1 : decide (m < 1) = true := decide_eq_true c1
            have NO := hide (gR_no hil (by rw [unhide OK]; simp; omega))
            clear hc hv hmv
            go_upto_region 5 with fail
            generalize (wr.alloc (.cells #[.int .i64 v, .int .i64 m] 66)) = w6 at *
            go_quiet (first | (go_at_call 41; exact Calls.quiet_of_same (unhide CB _)) | fail)
            replace K0 : (w6.drewN nq).cell? ⟨wr.heap.size, 0, none⟩ = some (.int .i64 v) := K0
            replace K1 : (w6.drewN nq).cell? ⟨wr.heap.size, 1, none⟩ = some (.int .i64 m) := K1
            replace HB1 := hide ((unhide HB1).trans ((below_drewN (Below.refl _ _) nq).mono (by have := (unhide HB).size; omega)))
            generalize w6.drewN nq = w7 at *
            go_wp2
            go_ret
            exact ⟨by rw [unhide NO]; rfl, unhide HB1⟩
          · have d1 : decide (m < 1) = false := decide_eq_false c1
            by_cases c2 : left < m
            · have d2 : decide (left < m) = true := decide_eq_true c2
              have NO := hide (gR_no hil (by rw [unhide OK]; simp; omega))
              clear hc hv hmv
              go_upto_region 5 with fail
              generalize (wr.alloc (.cells #[.int .i64 v, .int .i64 m] 66)) = w6 at *
              go_quiet (first | (go_at_call 41; exact Calls.quiet_of_same (unhide CB _)) | fail)
              replace K0 : (w6.drewN nq).cell? ⟨wr.heap.size, 0, none⟩ = some (.int .i64 v) := K0
              replace K1 : (w6.drewN nq).cell? ⟨wr.heap.size, 1, none⟩ = some (.int .i64 m) := K1
              replace HB1 := hide ((unhide HB1).trans ((below_drewN (Below.refl _ _) nq).mono (by have := (unhide HB).size; omega)))
              generalize w6.drewN nq = w7 at *
              go_wp2
              go_ret
              exact ⟨by rw [unhide NO]; rfl, unhide HB1⟩
            · have d2 : decide (left < m) = false := decide_eq_false c2
              have YES := hide (show okAt l i = true by rw [unhide OK]; simp; omega)
              clear hc hv hmv
              go_upto_region 5 with fail
              generalize (wr.alloc (.cells #[.int .i64 v, .int .i64 m] 66)) = w6 at *
              go_quiet (first | (go_at_call 41; exact Calls.quiet_of_same (unhide CB _)) | fail)
              replace K0 : (w6.drewN nq).cell? ⟨wr.heap.size, 0, none⟩ = some (.int .i64 v) := K0
              replace K1 : (w6.drewN nq).cell? ⟨wr.heap.size, 1, none⟩ = some (.int .i64 m) := K1
              replace HB1 := hide ((unhide HB1).trans ((below_drewN (Below.refl _ _) nq).mono (by have := (unhide HB).size; omega)))
              generalize w6.drewN nq = w7 at *
              have wl : IntKind.i64.wrap (left - m) = left - m := by rw [IntKind.wrap_i64]; omega
              go_wp2
              go_roundw
              case rel => exact ⟨i + 1, left - m, by omega, by go_num, rfl, by omega, by omega, hide (by rw [unhide TK, unhide HL]; omega), hide (fun j hj => if e : j = i then by rw [e]; exact unhide YES else unhide HA j (by omega)), HB1⟩
              case measure => simp [intOf]; omega
        · rw [hby] at CB OK
          have NO := hide (gR_no hil (by rw [unhide OK]; rfl))
          clear hc hv hmv
          go_upto_region 5 with fail
          generalize (wr.alloc (.cells #[.int .i64 v, .int .i64 m] 66)) = w6 at *
          go_quiet (first | (go_at_call 41; exact Calls.quiet_of_same (unhide CB _)) | fail)
          replace K0 : (w6.drewN nq).cell? ⟨wr.heap.size, 0, none⟩ = some (.int .i64 v) := K0
          replace K1 : (w6.drewN nq).cell? ⟨wr.heap.size, 1, none⟩ = some (.int .i64 m) := K1
          replace HB1 := hide ((unhide HB1).trans ((below_drewN (Below.refl _ _) nq).mono (by have := (unhide HB).size; omega)))
          generalize w6.drewN nq = w7 at *
          go_wp2
          go_ret
          exact ⟨by rw [unhide NO]; rfl, unhide HB1⟩
    · obtain rfl : i = n := by omega
      have YES := hide (gR_all (l := l) (fun j hj => unhide HA j (by rw [unhide HN] at hj; exact hj)))
      go_wp2
      go_ret
      exact ⟨by rw [unhide YES]; rfl, unhide HB⟩
set_option maxHeartbeats 8000000 in
theorem gRunS (a : Option Addr) (n c : Nat) (l : List (Int × Int)) (w : World) (h : SlP w a l) (hn : l.length = n) (hm : n ≤ maxLen) :
    Calls Tryd.prog 49 #[.slice a n c] w fun e w' => e = .returned (.bool (gRuns l)) ∧ Below w.heap.size w w' := by
  have HS := hide h
  have HN := hide hn
  clear h hn
  unfold maxLen at hm
  go_enter Tryd.func49, Tryd.ntmps49
  go_wp2
  go_loopw [3, 8] (fun lv iv wr => ∃ (i : Nat) (left : Int), i ≤ n ∧ iv = .int .i64 i ∧ lv = .int .i64 left ∧ 0 ≤ left ∧ left ≤ 100 ∧ Hid (left = 100 - sumM (l.take i)) ∧ Hid (∀ j, j < i → okAt l j = true) ∧ Hid (Below w.heap.size w wr)) (fun _ iv _ => n - (intOf iv).toNat)
  case atStart => exact ⟨0, 100, Nat.zero_le _, rfl, rfl, by omega, by omega, hide (by simp [sumM]), hide (fun j hj => by omega), hide (Below.refl _ _)⟩
  case round =>
    obtain ⟨i, left, hi, rfl, rfl, l0, l1, HL, HA, HB⟩ := hrel
    by_cases hlt : i < n
    · have hlt' : (i : Int) < (n : Int) := by omega
      have hil : i < l.length := by rw [unhide HN]; exact hlt
      rcases (unhide HS) with e | ⟨b, off, rfl, hb, hc⟩
      · exact absurd (unhide HN) (by rw [e]; simp; omega)
      have e0 := hc i hil
      obtain ⟨v, hv⟩ : ∃ v, v = l[i].1 := ⟨_, rfl⟩
      obtain ⟨m, hmv⟩ : ∃ m, m = l[i].2 := ⟨_, rfl⟩
      have TK : Hid (sumM (l.take (i + 1)) = sumM (l.take i) + m) := hide (by rw [(List.take_append_getElem hil).symm, sumM_snoc, hmv])
      have E0 : wr.cell? ⟨b, off + i * 2, none⟩ = some (.int .i64 v) := by rw [hv]; exact ((unhide HB).cell (p := ⟨b, off + i * 2, none⟩) hb).trans (e0.1)
      have E1 : wr.cell? ⟨b, off + i * 2 + 1, none⟩ = some (.int .i64 m) := by rw [hmv]; exact ((unhide HB).cell (p := ⟨b, off + i * 2 + 1, none⟩) hb).trans (e0.2)
      have hbr : b < wr.heap.size := Nat.lt_of_lt_of_le hb (unhide HB).size
      clear e0
      have BA : Below wr.heap.size wr (wr.alloc (.cells #[.int .i64 v, .int .i64 m] 66)) := (Below.refl _ _).alloc (Nat.le_refl _) _
      have HB1 := hide (below_on (unhide HB) BA)
      have K0 : (wr.alloc (.cells #[.int .i64 v, .int .i64 m] 66)).cell? ⟨wr.heap.size, 0, none⟩ = some (.int .i64 v) := by simp [go_sem]
      have K1 : (wr.alloc (.cells #[.int .i64 v, .int .i64 m] 66)).cell? ⟨wr.heap.size, 1, none⟩ = some (.int .i64 m) := by simp [go_sem]
      by_cases h0 : 0 < i
      · obtain ⟨j, hj⟩ : ∃ j, i = j + 1 := ⟨i - 1, by omega⟩
        have hjl : j < l.length := by omega
        obtain ⟨p, hp⟩ : ∃ p, p = l[j].1 := ⟨_, rfl⟩
        have f0 := (hc j hjl).1
        have F0 : (wr.alloc (.cells #[.int .i64 v, .int .i64 m] 66)).cell? ⟨b, off + j * 2, none⟩ = some (.int .i64 p) := by rw [hp]; exact cell_later BA (((unhide HB).cell (p := ⟨b, off + j * 2, none⟩) hb).trans f0)
        clear f0
        have OK := hide (okAt_eq hil hv hmv (unhide HL) p (fun j' hj' e => (show j' = j by omega) ▸ hp))
        have wj : IntKind.i64.wrap ((i : Int) - 1) = (j : Int) := by rw [IntKind.wrap_i64]; omega
        have lj : (j : Int) < (n : Int) := by omega
        have dg : decide ((0 : Int) < (i : Int)) = true := decide_eq_true (by omega)
        have dg' : decide (0 < i) = true := decide_eq_true h0
        rw [show decide (0 < i) = true from dg', Bool.true_and] at OK
        clear hp hjl
        replace hj := hide hj
        have CB := hide (fun w => l1In_any v 0 255 w)
        have CM := hide (fun w => l1In_any m 1 left w)
        rw [byo_in v] at CB
        generalize hmb : (decide (1 ≤ m) && decide (m ≤ left)) = mb at CM OK
        cases hby : byo v
        · rw [hby] at CB OK
          cases mb
          · have NO := hide (gR_no hil (by rw [unhide OK]; simp))
            clear hc hv hmv hmb
            go_upto_region 5 with fail
            generalize (wr.alloc (.cells #[.int .i64 v, .int .i64 m] 66)) = w6 at *
            go_quiet (first | (go_at_call 63; first | (with_reducible exact Calls.quiet_of_same (unhide CB _)) | (with_reducible exact Calls.quiet_of_same (unhide CM _))) | fail)
            replace K0 : (w6.drewN nq).cell? ⟨wr.heap.size, 0, none⟩ = some (.int .i64 v) := K0
            replace K1 : (w6.drewN nq).cell? ⟨wr.heap.size, 1, none⟩ = some (.int .i64 m) := K1
            replace HB1 := hide ((unhide HB1).trans ((below_drewN (Below.refl _ _) nq).mono (by have := (unhide HB).size; omega)))
            generalize w6.drewN nq = w7 at *
            go_wp2
            go_ret
            exact ⟨by rw [unhide NO]; rfl, unhide HB1⟩
          · have hm2 : 1 ≤ m ∧ m ≤ left := by have := (Bool.and_eq_true _ _).mp hmb; exact ⟨of_decide_eq_true this.1, of_decide_eq_true this.2⟩
            by_cases ep : v = p
            · have dp : (p == v) = true := by rw [ep]; exact beq_self_eq_true p
              have dp2 : decide (v = p) = true := decide_eq_true ep
              have NO := hide (gR_no hil (by rw [unhide OK, dp2]; rfl))
              clear hc hv hmv ep hmb
              go_upto_region 5 with fail
              generalize (wr.alloc (.cells #[.int .i64 v, .int .i64 m] 66)) = w6 at *
              go_quiet (first | (go_at_call 63; first | (with_reducible exact Calls.quiet_of_same (unhide CB _)) | (with_reducible exact Calls.quiet_of_same (unhide CM _))) | fail)
              replace K0 : (w6.drewN nq).cell? ⟨wr.heap.size, 0, none⟩ = some (.int .i64 v) := K0
              replace K1 : (w6.drewN nq).cell? ⟨wr.heap.size, 1, none⟩ = some (.int .i64 m) := K1
              replace HB1 := hide ((unhide HB1).trans ((below_drewN (Below.refl _ _) nq).mono (by have := (unhide HB).size; omega)))
              generalize w6.drewN nq = w7 at *
              go_wp2
              go_ret
              exact ⟨by rw [unhide NO]; rfl, unhide HB1⟩
            · have dp : (p == v) = false := by rw [beq_eq_false_iff_ne]; exact fun e => ep e.symm
              have dp2 : decide (v = p) = false := decide_eq_false ep
              rw [dp2] at OK
              have YES := hide (show okAt l i = true by rw [unhide OK]; rfl)
              clear hc hv hmv hmb
              go_upto_region 5 with fail
              generalize (wr.alloc (.cells #[.int .i64 v, .int .i64 m] 66)) = w6 at *
              go_quiet (first | (go_at_call 63; first | (with_reducible exact Calls.quiet_of_same (unhide CB _)) | (with_reducible exact Calls.quiet_of_same (unhide CM _))) | fail)
              replace K0 : (w6.drewN nq).cell? ⟨wr.heap.size, 0, none⟩ = some (.int .i64 v) := K0
              replace K1 : (w6.drewN nq).cell? ⟨wr.heap.size, 1, none⟩ = some (.int .i64 m) := K1
              replace HB1 := hide ((unhide HB1).trans ((below_drewN (Below.refl _ _) nq).mono (by have := (unhide HB).size; omega)))
              generalize w6.drewN nq = w7 at *
              have wl : IntKind.i64.wrap (left - m) = left - m := by rw [IntKind.wrap_i64]; omega
              go_wp2
              go_roundw
              case rel => exact ⟨i + 1, left - m, by omega, by go_num, rfl, by omega, by omega, hide (by rw [unhide TK, unhide HL]; omega), hide (fun j hj => if e : j = i then by rw [e]; exact unhide YES else unhide HA j (by omega)), HB1⟩
              case measure => simp [intOf]; omega
        · rw [hby] at CB OK
          have NO := hide (gR_no hil (by rw [unhide OK]; rfl))
          clear hc hv hmv hmb
          go_upto_region 5 with fail
          generalize (wr.alloc (.cells #[.int .i64 v, .int .i64 m] 66)) = w6 at *
          go_quiet (first | (go_at_call 63; first | (with_reducible exact Calls.quiet_of_same (unhide CB _)) | (with_reducible exact Calls.quiet_of_same (unhide CM _))) | fail)
          replace K0 : (w6.drewN nq).cell? ⟨wr.heap.size, 0, none⟩ = some (.int .i64 v) := K0
          replace K1 : (w6.drewN nq).cell? ⟨wr.heap.size, 1, none⟩ = some (.int .i64 m) := K1
          replace HB1 := hide ((unhide HB1).trans ((below_drewN (Below.refl _ _) nq).mono (by have := (unhide HB).size; omega)))
          generalize w6.drewN nq = w7 at *
          go_wp2
          go_ret
          exact ⟨by rw [unhide NO]; rfl, unhide HB1⟩
      · have OK := hide (okAt_eq hil hv hmv (unhide HL) 0 (fun j' hj' e => by omega))
        have dg : decide ((0 : Int) < (i : Int)) = false := decide_eq_false (by omega)
        have dg' : decide (0 < i) = false := decide_eq_false h0
        rw [show decide (0 < i) = false from dg', Bool.false_and] at OK
        have CB := hide (fun w => l1In_any v 0 255 w)
        have CM := hide (fun w => l1In_any m 1 left w)
        rw [byo_in v] at CB
        generalize hmb : (decide (1 ≤ m) && decide (m ≤ left)) = mb at CM OK
        cases hby : byo v
        · rw [hby] at CB OK
          cases mb
          · have NO := hide (gR_no hil (by rw [unhide OK]; simp))
            clear hc hv hmv hmb
            go_upto_region 5 with fail
            generalize (wr.alloc (.cells #[.int .i64 v, .int .i64 m] 66)) = w6 at *
            go_quiet (first | (go_at_call 63; first | (with_reducible exact Calls.quiet_of_same (unhide CB _)) | (with_reducible exact Calls.quiet_of_same (unhide CM _))) | fail)
            replace K0 : (w6.drewN nq).cell? ⟨wr.heap.size, 0, none⟩ = some (.int .i64 v) := K0
            replace K1 : (w6.drewN nq).cell? ⟨wr.heap.size, 1, none⟩ = some (.int .i64 m) := K1
            replace HB1 := hide ((unhide HB1).trans ((below_drewN (Below.refl _ _) nq).mono (by have := (unhide HB).size; omega)))
            generalize w6.drewN nq = w7 at *
            go_wp2
            go_ret
            exact ⟨by rw [unhide NO]; rfl, unhide HB1⟩
          · have hm2 : 1 ≤ m ∧ m ≤ left := by have := (Bool.and_eq_true _ _).mp hmb; exact ⟨of_decide_eq_true this.1, of_decide_eq_true this.2⟩
            have YES := hide (show okAt l i = true by rw [unhide OK]; rfl)
            clear hc hv hmv hmb
            go_upto_region 5 with fail
            generalize (wr.alloc (.cells #[.int .i64 v, .int .i64 m] 66)) = w6 at *
            go_quiet (first | (go_at_call 63; first | (with_reducible exact Calls.quiet_of_same (unhide CB _)) | (with_reducible exact Calls.quiet_of_same (unhide CM _))) | fail)
            replace K0 : (w6.drewN nq).cell? ⟨wr.heap.size, 0, none⟩ = some (.int .i64 v) := K0
            replace K1 : (w6.drewN nq).cell? ⟨wr.heap.size, 1, none⟩ = some (.int .i64 m) := K1
            replace HB1 := hide ((unhide HB1).trans ((below_drewN (Below.refl _ _) nq).mono (by have := (unhide HB).size; omega)))
            generalize w6.drewN nq = w7 at *
            have wl : IntKind.i64.wrap (left - m) = left - m := by rw [IntKind.wrap_i64]; omega
            go_wp2
            go_roundw
            case rel => exact ⟨i + 1, left - m, by omega, by go_num, rfl, by omega, by omega, hide (by rw [unhide TK, unhide HL]; omega), hide (fun j hj => if e : j = i then by rw [e]; exact unhide YES else unhide HA j (by omega)), HB1⟩
            case measure => simp [intOf]; omega
        · rw [hby] at CB OK
          have NO := hide (gR_no hil (by rw [unhide OK]; rfl))
          clear hc hv hmv hmb
          go_upto_region 5 with fail
          generalize (wr.alloc (.cells #[.int .i64 v, .int .i64 m] 66)) = w6 at *
          go_quiet (first | (go_at_call 63; first | (with_reducible exact Calls.quiet_of_same (unhide CB _)) | (with_reducible exact Calls.quiet_of_same (unhide CM _))) | fail)
          replace K0 : (w6.drewN nq).cell? ⟨wr.heap.size, 0, none⟩ = some (.int .i64 v) := K0
          replace K1 : (w6.drewN nq).cell? ⟨wr.heap.size, 1, none⟩ = some (.int .i64 m) := K1
          replace HB1 := hide ((unhide HB1).trans ((below_drewN (Below.refl _ _) nq).mono (by have := (unhide HB).size; omega)))
          generalize w6.drewN nq = w7 at *
          go_wp2
          go_ret
          exact ⟨by rw [unhide NO]; rfl, unhide HB1⟩
    · obtain rfl : i = n := by omega
      have YES := hide (gR_all (l := l) (fun j hj => unhide HA j (by rw [unhide HN] at hj; exact hj)))
      go_wp2
      go_ret
      exact ⟨by rw [unhide YES]; rfl, unhide HB⟩
end Go.Proofs.YtcgbpcipdanfhaaDoor
