/- Chapter 8 of the program: points in range, turns, segments, greatest divisors. No condition beyond those typed. Written by mkim8.py. -/
import Derived.Test.YtoffondgdnmhkaaDoorRRRSp8X
import Derived.Test.YtoffondgdnmhkaaDoorRRRSp8M
import Derived.Test.YtoffondgdnmhkaaDoorRRRLaw2
import Derived.BigQuiet
namespace Go.Proofs.YtoffondgdnmhkaaDoorRRR
open Go.RowKit
set_option linter.unusedVariables false
set_option maxRecDepth 100000
set_option linter.unusedSimpArgs false

theorem withinI (n far : Int) (w : World) (h0 : 0 ≤ far) (h1 : far ≤ 1000000) :
    Calls Tryd.prog 14 #[.int .i64 n, .int .i64 far] w fun e w' => e = .returned (.bool (inR n (-far) far)) ∧ w' = w := by
  unfold inR
  have iw : IntKind.i64.wrap (-far) = -far := by rw [IntKind.wrap_i64]; omega
  clear h0 h1
  cases d1 : decide (-far ≤ n) <;> cases d2 : decide (n ≤ far) <;>
    (go_enter Tryd.func14, Tryd.ntmps14
     go_wp2
     go_ret
     exact ⟨rfl, rfl⟩)
theorem goodPI (x y : Int) (w : World) :
    Calls Tryd.prog 43 #[.agg #[.int .i64 x, .int .i64 y]] w fun e w' => e = .returned (.bool (gPt (x, y))) ∧ Below w.heap.size w w' := by
  unfold gPt
  cases h1 : inR x (-1000) 1000
  · have C1 := hide (fun w => withinI x 1000 w (by omega) (by omega))
    rw [h1] at C1
    go_enter Tryd.func43, Tryd.ntmps43
    go_wp2_with fail
    refine (unhide C1 _).mono ?_
    rintro e w1 ⟨rfl, rfl⟩
    go_wp2_with fail
    go_ret
    exact ⟨rfl, (Below.refl _ _).alloc (Nat.le_refl _) _⟩
  · have C1 := hide (fun w => withinI x 1000 w (by omega) (by omega))
    have C2 := hide (fun w => withinI y 1000 w (by omega) (by omega))
    rw [h1] at C1
    generalize inR y (-1000) 1000 = r at *
    go_enter Tryd.func43, Tryd.ntmps43
    go_wp2_with fail
    refine (unhide C1 _).mono ?_
    rintro e w1 ⟨rfl, rfl⟩
    go_wp2_with fail
    refine (unhide C2 _).mono ?_
    rintro e w1 ⟨rfl, rfl⟩
    go_wp2_with fail
    go_ret
    exact ⟨by cases r <;> rfl, (Below.refl _ _).alloc (Nat.le_refl _) _⟩
set_option maxHeartbeats 2000000 in
theorem ptsI (a : Option Addr) (n c : Nat) (l : List (Int × Int)) (w : World) (h : SlP w a l) (hn : l.length = n) (hm : n ≤ maxLen) :
    Calls Tryd.prog 34 #[.slice a n c] w fun e w' => e = .returned (.bool (l.all gPt)) ∧ Below w.heap.size w w' := by
  have HS := hide h
  have HN := hide hn
  clear h hn
  unfold maxLen at hm
  go_enter Tryd.func34, Tryd.ntmps34
  go_wp2
  go_loopw [7] (fun iv wr => ∃ i : Nat, i ≤ n ∧ iv = .int .i64 i ∧ Hid ((l.take i).all gPt = true) ∧ Hid (Below w.heap.size w wr)) (fun iv _ => n - (intOf iv).toNat)
  case atStart => exact ⟨0, Nat.zero_le _, rfl, hide rfl, hide (Below.refl _ _)⟩
  case round =>
    obtain ⟨i, hi, rfl, HA, HB⟩ := hrel
    by_cases hlt : i < n
    · have hlt' : (i : Int) < (n : Int) := by omega
      rcases (unhide HS) with e | ⟨b, off, rfl, hb, hc⟩
      · exact absurd (unhide HN) (by rw [e]; simp; omega)
      have e0 := hc i (by rw [unhide HN]; exact hlt)
      obtain ⟨y, hy⟩ : ∃ y, y = l[i]'(by rw [unhide HN]; exact hlt) := ⟨_, rfl⟩
      rw [← hy] at e0
      have MY : Hid (y ∈ l) := hide (by rw [hy]; exact List.getElem_mem _)
      have TK : Hid ((l.take (i + 1)).all gPt = gPt y) := hide (by rw [take_succP (by rw [unhide HN]; exact hlt), List.all_append, unhide HA, ← hy]; simp)
      clear hy hc
      have E0 : wr.cell? ⟨b, off + i * 2, none⟩ = some (.int .i64 y.1) := ((unhide HB).cell (p := ⟨b, off + i * 2, none⟩) hb).trans (e0.1)
      have E1 : wr.cell? ⟨b, off + i * 2 + 1, none⟩ = some (.int .i64 y.2) := ((unhide HB).cell (p := ⟨b, off + i * 2 + 1, none⟩) hb).trans (e0.2)
      clear e0
      have C1 := hide (fun w => goodPI y.1 y.2 w)
      cases hg : gPt y
      · have hg2 : gPt (y.1, y.2) = false := hg
        rw [hg2] at C1
        have NA : Hid (l.all gPt = false) := hide (by rw [List.all_eq_false]; exact ⟨y, unhide MY, by rw [hg]; simp⟩)
        go_wp2_with fail
        refine (unhide C1 _).mono ?_
        rintro e w1 ⟨rfl, hb1⟩
        have HB1 := hide (below_on (below_on (unhide HB) ((Below.refl _ _).alloc (Nat.le_refl _) _)) hb1)
        clear hb1 E0 E1
        go_wp2
        go_ret
        exact ⟨by rw [unhide NA]; rfl, unhide HB1⟩
      · have hg2 : gPt (y.1, y.2) = true := hg
        rw [hg2] at C1
        go_wp2_with fail
        refine (unhide C1 _).mono ?_
        rintro e w1 ⟨rfl, hb1⟩
        have HB1 := hide (below_on (below_on (unhide HB) ((Below.refl _ _).alloc (Nat.le_refl _) _)) hb1)
        clear hb1 E0 E1
        go_wp2
        go_roundw
        case rel => exact ⟨i + 1, by omega, by go_num, hide (by rw [unhide TK, hg]), HB1⟩
        case measure => simp [intOf]; omega
    · obtain rfl : i = n := by omega
      have EA : Hid (l.all gPt = true) := hide (by have := unhide HA; rw [← unhide HN, List.take_length] at this; exact this)
      go_wp2
      go_ret
      exact ⟨by rw [unhide EA]; rfl, unhide HB⟩
set_option maxHeartbeats 4000000 in
theorem wayI (a : Option Addr) (n c : Nat) (l : List (Int × Int)) (w : World) (h : SlP w a l) (hn : l.length = n) (hm : n ≤ maxLen) :
    Calls Tryd.prog 29 #[.slice a n c] w fun e w' => e = .returned (.bool (wayB l)) ∧ Below w.heap.size w w' := by
  have C2 := hide (fun w (k : SlP w a l) => ptsI a n c l w k hn hm)
  have HS := hide h
  unfold wayB inR
  rw [hn]
  clear h hn hm
  cases d1 : decide ((3 : Int) ≤ (n : Int)) <;> cases d2 : decide ((n : Int) ≤ 12)
  · go_enter Tryd.func29, Tryd.ntmps29
    go_wp2_with fail
    go_ret
    exact ⟨rfl, Below.refl _ _⟩
  · go_enter Tryd.func29, Tryd.ntmps29
    go_wp2_with fail
    go_ret
    exact ⟨rfl, Below.refl _ _⟩
  · go_enter Tryd.func29, Tryd.ntmps29
    go_wp2_with fail
    go_ret
    exact ⟨rfl, Below.refl _ _⟩
  · generalize l.all gPt = r at *
    go_enter Tryd.func29, Tryd.ntmps29
    go_wp2_with fail
    refine (unhide C2 _ (unhide HS)).mono ?_
    rintro e w2 ⟨rfl, hb⟩
    go_wp2_with fail
    go_ret
    exact ⟨by cases r <;> rfl, hb⟩
theorem sg_zero (k : Int) : decide (k = 0) = decide (sgZ k = 0) := by
  unfold sgZ
  split
  · rw [decide_eq_false (by omega), decide_eq_false (by omega)]
  · split
    · rw [decide_eq_false (by omega), decide_eq_false (by omega)]
    · rw [decide_eq_true (by omega), decide_eq_true rfl]
def meI (a b c d : Int × Int) : Bool := (onV a b c || onV a b d) || (onV c d a || onV c d b) || (decide (sgZ (crs a b c) * sgZ (crs a b d) < 0) && decide (sgZ (crs c d a) * sgZ (crs c d b) < 0))
theorem meI_eq (a b c d : Int × Int) : meI a b c d = meV a b c d := by
  unfold meI meV
  cases onV a b c <;> cases onV a b d <;> cases onV c d a <;> cases onV c d b <;> rfl
end Go.Proofs.YtoffondgdnmhkaaDoorRRR
