/- Chapter 10 of the program: points compared, clouds. No condition beyond those typed. No condition beyond those typed. Written by mkle10.py. -/
import Derived.Test.YtgoiodhofbkkdaaIm8
import Derived.Test.YtgoiodhofbkkdaaSp10
namespace Go.Proofs.Ytgoiodhofbkkdaa
open Go.RowKit
set_option linter.unusedVariables false
set_option maxRecDepth 100000
set_option linter.unusedSimpArgs false

/-- Which point is less: -1, 0 or 1. -/
def cmP (a b : Int × Int) : Int := if sgZ (a.1 - b.1) = 0 then sgZ (a.2 - b.2) else sgZ (a.1 - b.1)
theorem cmP_lt (a b : Int × Int) : decide (cmP a b < 0) = ltP a b := by
  rw [Bool.eq_iff_iff, ltP_iff]
  unfold cmP sgZ
  simp only [decide_eq_true_eq]
  split <;> (repeat' split at *) <;> omega
theorem cmP_eq (a b : Int × Int) : decide (cmP a b = 0) = decide (a = b) := by
  have e : (a = b) ↔ (a.1 = b.1 ∧ a.2 = b.2) := ⟨fun h => by rw [h]; exact ⟨rfl, rfl⟩, fun h => Prod.ext h.1 h.2⟩
  rw [Bool.eq_iff_iff]
  simp only [decide_eq_true_eq, e]
  unfold cmP sgZ
  split <;> (repeat' split at *) <;> omega
def orZ (x y : Int) : Int := if x = 0 then y else x
theorem orI (g : Nat) (x y : Int) (w : World) (h0 : w.cell? ⟨g, 0, none⟩ = some (.int .i64 x)) (h1 : w.cell? ⟨g, 1, none⟩ = some (.int .i64 y)) :
    Calls Try.prog 96 #[.slice (some ⟨g, 0, none⟩) 2 2] w fun e w' => e = .returned (.int .i64 (orZ x y)) ∧ w' = w := by
  have HO : Hid (orZ x y = if x = 0 then y else x) := hide rfl
  generalize orZ x y = r at *
  go_enter Try.func96, Try.ntmps96
  go_wp2
  go_loop [8] (fun iv => ∃ k : Nat, iv = .int .i64 k ∧ k ≤ 2 ∧ (0 < k → x = 0) ∧ (1 < k → y = 0)) (fun iv => 2 - (intOf iv).toNat)
  case atStart => exact ⟨0, rfl, by omega, fun h => absurd h (by omega), fun h => absurd h (by omega)⟩
  case round =>
    obtain ⟨k, rfl, hk, hx, hy⟩ := hrel
    have HX := hide hx
    have HY := hide hy
    clear hx hy
    match k, hk with
    | 0, _ =>
      by_cases e : x = 0
      · have hz : (x != 0) = false := by simp [e]
        have E := hide e
        clear e
        go_wp2
        go_round
        case rel => exact ⟨1, rfl, by omega, fun _ => unhide E, fun h => absurd h (by omega)⟩
        case measure => simp [intOf]
      · have hz : (x != 0) = true := by simp [e]
        have E := hide e
        clear e
        go_wp2
        go_ret
        exact ⟨by rw [unhide HO, if_neg (unhide E)]; rfl, rfl⟩
    | 1, _ =>
      by_cases e : y = 0
      · have hz : (y != 0) = false := by simp [e]
        have E := hide e
        clear e
        go_wp2
        go_round
        case rel => exact ⟨2, rfl, by omega, fun _ => unhide HX (by omega), fun _ => unhide E⟩
        case measure => simp [intOf]
      · have hz : (y != 0) = true := by simp [e]
        clear e
        go_wp2
        go_ret
        exact ⟨by rw [unhide HO, if_pos (unhide HX (by omega))]; rfl, rfl⟩
    | 2, _ =>
      go_wp2
      go_ret
      exact ⟨by rw [unhide HO, if_pos (unhide HX (by omega)), unhide HY (by omega)]; rfl, rfl⟩
theorem caP {w : World} {o : Obj} {b k : Nat} {v : Value} (h : w.cell? ⟨b, k, none⟩ = some v) : (w.alloc o).drew.cell? ⟨b, k, none⟩ = some v := cdP (cell_later ((Below.refl _ _).alloc (Nat.le_refl _) o) h)
theorem cells2Z (w : World) (x y : Value) : (w.alloc (.cells #[x, y] 3)).cell? ⟨w.heap.size, 0, none⟩ = some x ∧ (w.alloc (.cells #[x, y] 3)).cell? ⟨w.heap.size, 1, none⟩ = some y := by simp [go_sem]
set_option maxHeartbeats 2000000 in
theorem cmpPI (a b : Int × Int) (w : World) : Calls Try.prog 75 #[.agg #[.int .i64 a.1, .int .i64 a.2], .agg #[.int .i64 b.1, .int .i64 b.2]] w fun e w' => e = .returned (.int .i64 (cmP a b)) ∧ Below w.heap.size w w' := by
  have CX := hide (fun w => cmpI8 a.1 b.1 w)
  have CY := hide (fun w => cmpI8 a.2 b.2 w)
  have EV : Hid (orZ (sgZ (a.1 - b.1)) (sgZ (a.2 - b.2)) = cmP a b) := hide rfl
  generalize sgZ (a.1 - b.1) = x at *
  generalize sgZ (a.2 - b.2) = y at *
  have K0 : Hid (((w.alloc (.cells #[.int .i64 a.1, .int .i64 a.2] 31)).alloc (.cells #[.int .i64 b.1, .int .i64 b.2] 31)).cell? ⟨w.heap.size, 0, none⟩ = some (.int .i64 a.1) ∧ ((w.alloc (.cells #[.int .i64 a.1, .int .i64 a.2] 31)).alloc (.cells #[.int .i64 b.1, .int .i64 b.2] 31)).cell? ⟨w.heap.size, 1, none⟩ = some (.int .i64 a.2) ∧ ((w.alloc (.cells #[.int .i64 a.1, .int .i64 a.2] 31)).alloc (.cells #[.int .i64 b.1, .int .i64 b.2] 31)).cell? ⟨w.heap.size + 1, 0, none⟩ = some (.int .i64 b.1) ∧ ((w.alloc (.cells #[.int .i64 a.1, .int .i64 a.2] 31)).alloc (.cells #[.int .i64 b.1, .int .i64 b.2] 31)).cell? ⟨w.heap.size + 1, 1, none⟩ = some (.int .i64 b.2)) := hide (by simp [go_sem])
  have HB : Hid (Below w.heap.size w ((w.alloc (.cells #[.int .i64 a.1, .int .i64 a.2] 31)).alloc (.cells #[.int .i64 b.1, .int .i64 b.2] 31))) := hide (((Below.refl _ _).alloc (Nat.le_refl _) _).alloc (by simp) _)
  obtain ⟨k0, k1, k2, k3⟩ := unhide K0
  clear K0
  go_enter Try.func75, Try.ntmps75
  go_upto_region 1 with fail
  generalize (w.alloc (.cells #[.int .i64 a.1, .int .i64 a.2] 31)).alloc (.cells #[.int .i64 b.1, .int .i64 b.2] 31) = wb at *
  go_region_held3 (fun w' => w'.cell? ⟨w.heap.size, 0, none⟩ = some (.int .i64 a.1) ∧ w'.cell? ⟨w.heap.size, 1, none⟩ = some (.int .i64 a.2) ∧ w'.cell? ⟨w.heap.size + 1, 0, none⟩ = some (.int .i64 b.1) ∧ w'.cell? ⟨w.heap.size + 1, 1, none⟩ = some (.int .i64 b.2))
    (with_reducible (first | exact ⟨k0, k1, k2, k3⟩ | exact ⟨cdP k0, cdP k1, cdP k2, cdP k3⟩ | exact ⟨caP k0, caP k1, caP k2, caP k3⟩ | fail))
    (first
    | (go_at_call_of 85 (Value.int IntKind.i64 a.1); refine (unhide CX _).mono ?_; rintro e w1 ⟨rfl, rfl⟩)
    | (go_at_call_of 85 (Value.int IntKind.i64 a.2); refine (unhide CY _).mono ?_; rintro e w1 ⟨rfl, rfl⟩)
    | (go_at_call 96; refine (orI wb.heap.size x y _ (cdP (cells2Z wb _ _).1) (cdP (cells2Z wb _ _).2)).mono ?_; rintro e w1 ⟨rfl, rfl⟩)
    | fail)
  clear k0 k1 k2 k3 CX CY
  replace HB := hide (((unhide HB).alloc (unhide HB).size (.cells #[.int .i64 x, .int .i64 y] 3)).drew)
  generalize (wb.alloc (.cells #[.int .i64 x, .int .i64 y] 3)).drew = wc at *
  go_wp2
  go_ret
  exact ⟨by rw [← unhide EV]; rfl, unhide HB⟩
set_option maxHeartbeats 2000000 in
theorem LessPtI (a b : Int × Int) (w : World) : Calls Try.prog 35 #[.agg #[.int .i64 a.1, .int .i64 a.2], .agg #[.int .i64 b.1, .int .i64 b.2]] w fun e w' => e = .returned (.tuple #[.bool (leV a b), .bool (leB a b)]) ∧ Below w.heap.size w w' := by
  have C3 : Hid (SlP (((w.alloc (.cells #[.int .i64 a.1, .int .i64 a.2] 31)).alloc (.cells #[.int .i64 b.1, .int .i64 b.2] 31)).alloc (.cells #[.int .i64 a.1, .int .i64 a.2, .int .i64 b.1, .int .i64 b.2] 31)) (some ⟨w.heap.size + 1 + 1, 0, none⟩) [a, b]) := hide (.inr ⟨_, 0, rfl, by simp, fun i hi => by
    match i, hi with
    | 0, _ => simp [go_sem]
    | 1, _ => simp [go_sem]⟩)
  have BW : Hid (Below w.heap.size w (((w.alloc (.cells #[.int .i64 a.1, .int .i64 a.2] 31)).alloc (.cells #[.int .i64 b.1, .int .i64 b.2] 31)).alloc (.cells #[.int .i64 a.1, .int .i64 a.2, .int .i64 b.1, .int .i64 b.2] 31))) := hide ((((Below.refl _ _).alloc (Nat.le_refl _) _).alloc (by simp) _).alloc (by simp; omega) _)
  have EB : Hid ([a, b].all gPt = leB a b) := hide (by simp [leB])
  unfold leV
  cases hg : leB a b
  · have HG : Hid ([a, b].all gPt = false) := hide ((unhide EB).trans hg)
    clear hg EB
    go_enter Try.func35, Try.ntmps35
    go_wp2_with fail
    refine (ptsI _ 2 2 [a, b] _ (unhide C3) rfl (by unfold maxLen; omega)).mono ?_
    rintro e w1 ⟨rfl, hb⟩
    rw [unhide HG]
    have HB := hide (below_on (unhide BW) hb)
    clear hb BW C3
    go_wp2_with fail
    go_ret2
    exact ⟨rfl, unhide HB⟩
  · have HG : Hid ([a, b].all gPt = true) := hide ((unhide EB).trans hg)
    have C1 := hide (fun w => cmpPI a b w)
    have EL := hide (cmP_lt a b)
    simp only [if_true]
    clear hg EB
    generalize ltP a b = r at *
    generalize cmP a b = k at *
    have K0 : Hid (((w.alloc (.cells #[.int .i64 a.1, .int .i64 a.2] 31)).alloc (.cells #[.int .i64 b.1, .int .i64 b.2] 31)).cell? ⟨w.heap.size, 0, none⟩ = some (.int .i64 a.1) ∧ ((w.alloc (.cells #[.int .i64 a.1, .int .i64 a.2] 31)).alloc (.cells #[.int .i64 b.1, .int .i64 b.2] 31)).cell? ⟨w.heap.size, 1, none⟩ = some (.int .i64 a.2) ∧ ((w.alloc (.cells #[.int .i64 a.1, .int .i64 a.2] 31)).alloc (.cells #[.int .i64 b.1, .int .i64 b.2] 31)).cell? ⟨w.heap.size + 1, 0, none⟩ = some (.int .i64 b.1) ∧ ((w.alloc (.cells #[.int .i64 a.1, .int .i64 a.2] 31)).alloc (.cells #[.int .i64 b.1, .int .i64 b.2] 31)).cell? ⟨w.heap.size + 1, 1, none⟩ = some (.int .i64 b.2)) := hide (by simp [go_sem])
    go_enter Try.func35, Try.ntmps35
    go_wp2_with fail
    refine (ptsI _ 2 2 [a, b] _ (unhide C3) rfl (by unfold maxLen; omega)).mono ?_
    rintro e w1 ⟨rfl, hb⟩
    rw [unhide HG]
    have hbx := below_on ((Below.refl _ _).alloc (Nat.le_refl _) _) hb
    have k0 := cell_later hbx (unhide K0).1
    have k1 := cell_later hbx (unhide K0).2.1
    have k2 := cell_later hbx (unhide K0).2.2.1
    have k3 := cell_later hbx (unhide K0).2.2.2
    have HB := hide (below_on (unhide BW) hb)
    clear hb BW C3 hbx K0
    go_wp2_with fail
    refine (unhide C1 _).mono ?_
    rintro e w2 ⟨rfl, hb⟩
    replace HB := hide (below_on (unhide HB) hb)
    clear hb k0 k1 k2 k3
    go_wp2_with fail
    go_ret2
    exact ⟨by rw [← unhide EL]; rfl, unhide HB⟩
def fitB (l : List (Int × Int)) : Bool := decide (l.length ≤ 16) && l.all gPt
theorem fit_clo (l : List (Int × Int)) : cloB l = (decide (0 < l.length) && fitB l) := by
  unfold cloB fitB
  cases l.all gPt
  · simp
  · rw [Bool.and_true, Bool.and_true, Bool.eq_iff_iff]
    unfold inR
    simp only [Bool.and_eq_true, decide_eq_true_eq]
    omega
theorem fitsI (a : Option Addr) (n c : Nat) (l : List (Int × Int)) (w : World) (h : SlP w a l) (hn : l.length = n) (hm : n ≤ maxLen) :
    Calls Try.prog 48 #[.slice a n c] w fun e w' => e = .returned (.bool (fitB l)) ∧ Below w.heap.size w w' := by
  have C2 := hide (fun w (k : SlP w a l) => ptsI a n c l w k hn hm)
  have HS := hide h
  unfold fitB
  rw [hn]
  clear h hn hm
  cases h1 : decide (n ≤ 16)
  · have h2 : (16 : Int) < (n : Int) := by have := of_decide_eq_false h1; omega
    clear h1
    go_enter Try.func48, Try.ntmps48
    go_wp2_with fail
    go_ret
    exact ⟨rfl, Below.refl _ _⟩
  · generalize l.all gPt = r at *
    have h2 : ¬ (16 : Int) < (n : Int) := by have := of_decide_eq_true h1; omega
    clear h1
    go_enter Try.func48, Try.ntmps48
    go_wp2_with fail
    refine (unhide C2 _ (unhide HS)).mono ?_
    rintro e w2 ⟨rfl, hb⟩
    go_wp2_with fail
    go_ret
    exact ⟨by cases r <;> rfl, hb⟩
theorem cloudI (a : Option Addr) (n c : Nat) (l : List (Int × Int)) (w : World) (h : SlP w a l) (hn : l.length = n) (hm : n ≤ maxLen) :
    Calls Try.prog 44 #[.slice a n c] w fun e w' => e = .returned (.bool (cloB l)) ∧ Below w.heap.size w w' := by
  have C2 := hide (fun w (k : SlP w a l) => fitsI a n c l w k hn hm)
  have HS := hide h
  rw [fit_clo, hn]
  clear h hn hm
  cases h1 : decide (0 < n)
  · have h2 : n = 0 := by have := of_decide_eq_false h1; omega
    subst h2
    clear h1
    go_enter Try.func44, Try.ntmps44
    go_wp2_with fail
    go_ret
    exact ⟨rfl, Below.refl _ _⟩
  · generalize fitB l = r at *
    have h2 : (0 : Int) < (n : Int) := by have := of_decide_eq_true h1; omega
    clear h1
    go_enter Try.func44, Try.ntmps44
    go_wp2_with fail
    refine (unhide C2 _ (unhide HS)).mono ?_
    rintro e w2 ⟨rfl, hb⟩
    go_wp2_with fail
    go_ret
    exact ⟨by cases r <;> rfl, hb⟩
end Go.Proofs.Ytgoiodhofbkkdaa
