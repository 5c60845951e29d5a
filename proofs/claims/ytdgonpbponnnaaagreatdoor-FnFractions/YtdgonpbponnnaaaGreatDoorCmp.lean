/- The comparing functions of limbs and of numbers: the program's and the specification's answer the same number. No condition beyond those typed. -/
import Derived.Test.YtdgonpbponnnaaaGreatDoorGood
namespace Go.Proofs.YtdgonpbponnnaaaGreatDoor
open Go.RowKit
set_option linter.unusedVariables false
set_option maxRecDepth 100000
set_option linter.unusedSimpArgs false

def cmpTop (xs ys : List Int) : Nat → Int
  | 0 => 0
  | k + 1 => if xs.getD k 0 < ys.getD k 0 then -1 else if ys.getD k 0 < xs.getD k 0 then 1 else cmpTop xs ys k
def cmpL (xs ys : List Int) : Int := if xs.length < ys.length then -1 else if ys.length < xs.length then 1 else cmpTop xs ys xs.length
theorem cmpTop_lt {xs ys : List Int} {k : Nat} (h : xs.getD k 0 < ys.getD k 0) : cmpTop xs ys (k + 1) = -1 := by unfold cmpTop; rw [if_pos h]
theorem cmpTop_gt {xs ys : List Int} {k : Nat} (h : ys.getD k 0 < xs.getD k 0) : cmpTop xs ys (k + 1) = 1 := by unfold cmpTop; rw [if_neg (by omega), if_pos h]
theorem cmpTop_eq {xs ys : List Int} {k : Nat} (h1 : ¬ xs.getD k 0 < ys.getD k 0) (h2 : ¬ ys.getD k 0 < xs.getD k 0) : cmpTop xs ys (k + 1) = cmpTop xs ys k := by
  show (if _ then _ else _) = _
  rw [if_neg h1, if_neg h2]

theorem cmpS_lt (a a' : Option Addr) (n m c c' : Nat) (w : World) (hm : m ≤ maxLen) (h : n < m) :
    Calls Tryz.prog 47 #[.slice a n c, .slice a' m c'] w fun e w' => e = .returned (.int .i64 (-1)) ∧ Below w.heap.size w w' := by
  unfold maxLen at hm
  have h1 : (n : Int) < (m : Int) := by omega
  have h2 : ((n : Int) != (m : Int)) = true := by simp; omega
  go_enter Tryz.func47, Tryz.ntmps47
  go_wp2
  go_ret
  exact ⟨rfl, Below.refl _ _⟩
theorem cmpS_gt (a a' : Option Addr) (n m c c' : Nat) (w : World) (hm : n ≤ maxLen) (h : m < n) :
    Calls Tryz.prog 47 #[.slice a n c, .slice a' m c'] w fun e w' => e = .returned (.int .i64 1) ∧ Below w.heap.size w w' := by
  unfold maxLen at hm
  have h1 : (m : Int) < (n : Int) := by omega
  have h3 : ¬ (n : Int) < (m : Int) := by omega
  have h2 : ((n : Int) != (m : Int)) = true := by simp; omega
  go_enter Tryz.func47, Tryz.ntmps47
  go_wp2
  go_ret
  exact ⟨rfl, Below.refl _ _⟩
theorem cmpS_nil (a a' : Option Addr) (c c' : Nat) (w : World) :
    Calls Tryz.prog 47 #[.slice a 0 c, .slice a' 0 c'] w fun e w' => e = .returned (.int .i64 0) ∧ Below w.heap.size w w' := by
  go_enter Tryz.func47, Tryz.ntmps47
  go_wp2
  refine wp_loop_rounds 1 ?_
  rw [rounds_succ]
  go_wp2
  go_ret
  exact ⟨rfl, Below.refl _ _⟩
set_option maxHeartbeats 2000000 in
theorem cmpS_same (b off b' off' n c c' : Nat) (xs ys : List Int) (w : World) (hm : n ≤ maxLen) (h0 : 0 < n) (hb : b < w.heap.size) (hb' : b' < w.heap.size)
    (hc : ∀ i, i < n → w.cell? ⟨b, off + i, none⟩ = some (.int .i64 (xs.getD i 0))) (hc' : ∀ i, i < n → w.cell? ⟨b', off' + i, none⟩ = some (.int .i64 (ys.getD i 0))) :
    Calls Tryz.prog 47 #[.slice (some ⟨b, off, none⟩) n c, .slice (some ⟨b', off', none⟩) n c'] w fun e w' => e = .returned (.int .i64 (cmpTop xs ys n)) ∧ Below w.heap.size w w' := by
  unfold maxLen at hm
  have HC := hide hc
  have HC' := hide hc'
  clear hc hc'
  go_enter Tryz.func47, Tryz.ntmps47
  go_wp2
  go_loopw [5] (fun i wr => ∃ k : Nat, k ≤ n ∧ i = .int .i64 ((k : Int) - 1) ∧ Hid (cmpTop xs ys n = cmpTop xs ys k) ∧ Below w.heap.size w wr) (fun i _ => (intOf i + 1).toNat)
  case atStart => exact ⟨n, Nat.le_refl _, rfl, hide rfl, Below.refl _ _⟩
  case round =>
    obtain ⟨k, hk, hi, HK, hbel⟩ := hrel
    cases k with
    | zero =>
      have e : (((0 : Nat) : Int) - 1) = -1 := by omega
      rw [e] at hi
      subst hi
      go_wp2
      go_ret
      exact ⟨ret_int (unhide HK).symm, hbel⟩
    | succ j =>
      have e : (((j + 1 : Nat) : Int) - 1) = j := by omega
      rw [e] at hi
      subst hi
      have hk1 : (j : Int) < (n : Int) := by omega
      have hk0 : (0 : Int) ≤ (j : Int) := by omega
      have e1 : wr.cell? ⟨b, off + j, none⟩ = some (.int .i64 (xs.getD j 0)) := (hbel.cell (by exact hb)).trans (unhide HC j (by omega))
      have e2 : wr.cell? ⟨b', off' + j, none⟩ = some (.int .i64 (ys.getD j 0)) := (hbel.cell (by exact hb')).trans (unhide HC' j (by omega))
      have HB := hide hbel
      clear hbel e
      have q1 := hide (@cmpTop_lt xs ys j)
      have q2 := hide (@cmpTop_gt xs ys j)
      have q3 := hide (@cmpTop_eq xs ys j)
      generalize xs.getD j 0 = x at e1 q1 q2 q3
      generalize ys.getD j 0 = y at e2 q1 q2 q3
      by_cases l1 : x < y
      · go_wp2
        go_quiet (fail)
        go_wp2
        go_ret
        exact ⟨ret_int ((unhide HK).trans (unhide q1 l1)).symm, below_drewN (unhide HB) _⟩
      · by_cases l2 : y < x
        · go_wp2
          go_quiet (fail)
          go_wp2
          go_quiet (fail)
          go_wp2
          go_ret
          exact ⟨ret_int ((unhide HK).trans (unhide q2 l2)).symm, below_drewN (below_drewN (unhide HB) _) _⟩
        · go_wp2
          go_quiet (fail)
          go_wp2
          go_quiet (fail)
          go_wp2
          go_roundw
          case rel => exact ⟨j, by omega, rfl, hide ((unhide HK).trans (unhide q3 l1 l2)), below_drewN (unhide HB) _⟩
          case measure => simp [intOf]
theorem cmpS_any (a a' : Option Addr) (n m c c' : Nat) (xs ys : List Int) (w : World) (hx : Sl w a xs) (hy : Sl w a' ys) (hn : xs.length = n) (hn' : ys.length = m) (hm : n ≤ maxLen) (hm' : m ≤ maxLen) :
    Calls Tryz.prog 47 #[.slice a n c, .slice a' m c'] w fun e w' => e = .returned (.int .i64 (cmpL xs ys)) ∧ Below w.heap.size w w' := by
  by_cases h1 : n < m
  · have e : cmpL xs ys = -1 := by unfold cmpL; rw [if_pos (by omega)]
    rw [e]; exact cmpS_lt a a' n m c c' w hm' h1
  by_cases h2 : m < n
  · have e : cmpL xs ys = 1 := by unfold cmpL; rw [if_neg (by omega), if_pos (by omega)]
    rw [e]; exact cmpS_gt a a' n m c c' w hm h2
  obtain rfl : n = m := by omega
  have e : cmpL xs ys = cmpTop xs ys n := by unfold cmpL; rw [if_neg (by omega), if_neg (by omega), hn]
  rw [e]
  by_cases h0 : n = 0
  · subst h0
    exact cmpS_nil a a' c c' w
  · rcases hx with rfl | ⟨b, off, rfl, hb, hc⟩
    · simp at hn; omega
    rcases hy with rfl | ⟨b', off', rfl, hb', hc'⟩
    · simp at hn'; omega
    exact cmpS_same b off b' off' n c c' xs ys w hm (by omega) hb hb' (by rw [← hn]; exact hc) (by rw [← hn']; exact hc')

theorem cmpI_lt (a a' : Option Addr) (n m c c' : Nat) (w : World) (hm : m ≤ maxLen) (h : n < m) :
    Calls Tryz.prog 91 #[.slice a n c, .slice a' m c'] w fun e w' => e = .returned (.int .i64 (-1)) ∧ Below w.heap.size w w' := by
  unfold maxLen at hm
  have h1 : (n : Int) < (m : Int) := by omega
  have h2 : ((n : Int) != (m : Int)) = true := by simp; omega
  go_enter Tryz.func91, Tryz.ntmps91
  go_wp2
  go_ret
  exact ⟨rfl, Below.refl _ _⟩
theorem cmpI_gt (a a' : Option Addr) (n m c c' : Nat) (w : World) (hm : n ≤ maxLen) (h : m < n) :
    Calls Tryz.prog 91 #[.slice a n c, .slice a' m c'] w fun e w' => e = .returned (.int .i64 1) ∧ Below w.heap.size w w' := by
  unfold maxLen at hm
  have h1 : (m : Int) < (n : Int) := by omega
  have h3 : ¬ (n : Int) < (m : Int) := by omega
  have h2 : ((n : Int) != (m : Int)) = true := by simp; omega
  go_enter Tryz.func91, Tryz.ntmps91
  go_wp2
  go_ret
  exact ⟨rfl, Below.refl _ _⟩
theorem cmpI_nil (a a' : Option Addr) (c c' : Nat) (w : World) :
    Calls Tryz.prog 91 #[.slice a 0 c, .slice a' 0 c'] w fun e w' => e = .returned (.int .i64 0) ∧ Below w.heap.size w w' := by
  go_enter Tryz.func91, Tryz.ntmps91
  go_wp2
  refine wp_loop_rounds 1 ?_
  rw [rounds_succ]
  go_wp2
  go_ret
  exact ⟨rfl, Below.refl _ _⟩
set_option maxHeartbeats 2000000 in
theorem cmpI_same (b off b' off' n c c' : Nat) (xs ys : List Int) (w : World) (hm : n ≤ maxLen) (h0 : 0 < n) (hb : b < w.heap.size) (hb' : b' < w.heap.size)
    (hc : ∀ i, i < n → w.cell? ⟨b, off + i, none⟩ = some (.int .i64 (xs.getD i 0))) (hc' : ∀ i, i < n → w.cell? ⟨b', off' + i, none⟩ = some (.int .i64 (ys.getD i 0))) :
    Calls Tryz.prog 91 #[.slice (some ⟨b, off, none⟩) n c, .slice (some ⟨b', off', none⟩) n c'] w fun e w' => e = .returned (.int .i64 (cmpTop xs ys n)) ∧ Below w.heap.size w w' := by
  unfold maxLen at hm
  have HC := hide hc
  have HC' := hide hc'
  clear hc hc'
  go_enter Tryz.func91, Tryz.ntmps91
  go_wp2
  go_loopw [5] (fun i wr => ∃ k : Nat, k ≤ n ∧ i = .int .i64 ((k : Int) - 1) ∧ Hid (cmpTop xs ys n = cmpTop xs ys k) ∧ Below w.heap.size w wr) (fun i _ => (intOf i + 1).toNat)
  case atStart => exact ⟨n, Nat.le_refl _, rfl, hide rfl, Below.refl _ _⟩
  case round =>
    obtain ⟨k, hk, hi, HK, hbel⟩ := hrel
    cases k with
    | zero =>
      have e : (((0 : Nat) : Int) - 1) = -1 := by omega
      rw [e] at hi
      subst hi
      go_wp2
      go_ret
      exact ⟨ret_int (unhide HK).symm, hbel⟩
    | succ j =>
      have e : (((j + 1 : Nat) : Int) - 1) = j := by omega
      rw [e] at hi
      subst hi
      have hk1 : (j : Int) < (n : Int) := by omega
      have hk0 : (0 : Int) ≤ (j : Int) := by omega
      have e1 : wr.cell? ⟨b, off + j, none⟩ = some (.int .i64 (xs.getD j 0)) := (hbel.cell (by exact hb)).trans (unhide HC j (by omega))
      have e2 : wr.cell? ⟨b', off' + j, none⟩ = some (.int .i64 (ys.getD j 0)) := (hbel.cell (by exact hb')).trans (unhide HC' j (by omega))
      have HB := hide hbel
      clear hbel e
      have q1 := hide (@cmpTop_lt xs ys j)
      have q2 := hide (@cmpTop_gt xs ys j)
      have q3 := hide (@cmpTop_eq xs ys j)
      generalize xs.getD j 0 = x at e1 q1 q2 q3
      generalize ys.getD j 0 = y at e2 q1 q2 q3
      by_cases l1 : x < y
      · go_wp2
        go_quiet (fail)
        go_wp2
        go_ret
        exact ⟨ret_int ((unhide HK).trans (unhide q1 l1)).symm, below_drewN (unhide HB) _⟩
      · by_cases l2 : y < x
        · go_wp2
          go_quiet (fail)
          go_wp2
          go_quiet (fail)
          go_wp2
          go_ret
          exact ⟨ret_int ((unhide HK).trans (unhide q2 l2)).symm, below_drewN (below_drewN (unhide HB) _) _⟩
        · go_wp2
          go_quiet (fail)
          go_wp2
          go_quiet (fail)
          go_wp2
          go_roundw
          case rel => exact ⟨j, by omega, rfl, hide ((unhide HK).trans (unhide q3 l1 l2)), below_drewN (unhide HB) _⟩
          case measure => simp [intOf]
theorem cmpI_any (a a' : Option Addr) (n m c c' : Nat) (xs ys : List Int) (w : World) (hx : Sl w a xs) (hy : Sl w a' ys) (hn : xs.length = n) (hn' : ys.length = m) (hm : n ≤ maxLen) (hm' : m ≤ maxLen) :
    Calls Tryz.prog 91 #[.slice a n c, .slice a' m c'] w fun e w' => e = .returned (.int .i64 (cmpL xs ys)) ∧ Below w.heap.size w w' := by
  by_cases h1 : n < m
  · have e : cmpL xs ys = -1 := by unfold cmpL; rw [if_pos (by omega)]
    rw [e]; exact cmpI_lt a a' n m c c' w hm' h1
  by_cases h2 : m < n
  · have e : cmpL xs ys = 1 := by unfold cmpL; rw [if_neg (by omega), if_pos (by omega)]
    rw [e]; exact cmpI_gt a a' n m c c' w hm h2
  obtain rfl : n = m := by omega
  have e : cmpL xs ys = cmpTop xs ys n := by unfold cmpL; rw [if_neg (by omega), if_neg (by omega), hn]
  rw [e]
  by_cases h0 : n = 0
  · subst h0
    exact cmpI_nil a a' c c' w
  · rcases hx with rfl | ⟨b, off, rfl, hb, hc⟩
    · simp at hn; omega
    rcases hy with rfl | ⟨b', off', rfl, hb', hc'⟩
    · simp at hn'; omega
    exact cmpI_same b off b' off' n c c' xs ys w hm (by omega) hb hb' (by rw [← hn]; exact hc) (by rw [← hn']; exact hc')

def cmpB (g : Bool) (xs : List Int) (g' : Bool) (ys : List Int) : Int :=
  if g = g' then (if g then cmpL ys xs else cmpL xs ys) else (if g then -1 else 1)
theorem below_two (w : World) (o o' : Obj) : Below w.heap.size w ((w.alloc o).alloc o') := ((Below.refl _ _).alloc (Nat.le_refl _) _).alloc (by simp) _
theorem below_two' {w w1 : World} {o o' : Obj} (h : Below ((w.alloc o).alloc o').heap.size ((w.alloc o).alloc o') w1) : Below w.heap.size w w1 := (below_two w o o').trans (h.mono (by simp; omega))

set_option maxHeartbeats 1000000 in
theorem cmpBS_any (g g' : Bool) (a a' : Option Addr) (n m c c' : Nat) (xs ys : List Int) (w : World) (hx : Sl w a xs) (hy : Sl w a' ys) (hn : xs.length = n) (hn' : ys.length = m) (hm : n ≤ maxLen) (hm' : m ≤ maxLen) :
    Calls Tryz.prog 74 #[.agg #[.bool g, .slice a n c], .agg #[.bool g', .slice a' m c']] w fun e w' => e = .returned (.int .i64 (cmpB g xs g' ys)) ∧ Below w.heap.size w w' := by
  have HX := hide hx
  have HY := hide hy
  have HN := hide hn
  have HN' := hide hn'
  clear hx hy hn hn'
  cases g <;> cases g'
  · go_enter Tryz.func74, Tryz.ntmps74
    go_wp2_with fail
    refine (cmpS_any a a' n m c c' xs ys _ ((unhide HX).later (Nat.le_refl _) (below_two _ _ _)) ((unhide HY).later (Nat.le_refl _) (below_two _ _ _)) (unhide HN) (unhide HN') hm hm').mono ?_
    rintro e w1 ⟨rfl, hb⟩
    go_wp2
    go_ret
    exact ⟨rfl, below_two' hb⟩
  · go_enter Tryz.func74, Tryz.ntmps74
    go_wp2
    go_ret
    exact ⟨rfl, below_two _ _ _⟩
  · go_enter Tryz.func74, Tryz.ntmps74
    go_wp2
    go_ret
    exact ⟨rfl, below_two _ _ _⟩
  · go_enter Tryz.func74, Tryz.ntmps74
    go_wp2_with fail
    refine (cmpS_any a' a m n c' c ys xs _ ((unhide HY).later (Nat.le_refl _) (below_two _ _ _)) ((unhide HX).later (Nat.le_refl _) (below_two _ _ _)) (unhide HN') (unhide HN) hm' hm).mono ?_
    rintro e w1 ⟨rfl, hb⟩
    go_wp2
    go_ret
    exact ⟨rfl, below_two' hb⟩

set_option maxHeartbeats 1000000 in
theorem cmpBI_any (g g' : Bool) (a a' : Option Addr) (n m c c' : Nat) (xs ys : List Int) (w : World) (hx : Sl w a xs) (hy : Sl w a' ys) (hn : xs.length = n) (hn' : ys.length = m) (hm : n ≤ maxLen) (hm' : m ≤ maxLen) :
    Calls Tryz.prog 73 #[.agg #[.bool g, .slice a n c], .agg #[.bool g', .slice a' m c']] w fun e w' => e = .returned (.int .i64 (cmpB g xs g' ys)) ∧ Below w.heap.size w w' := by
  have HX := hide hx
  have HY := hide hy
  have HN := hide hn
  have HN' := hide hn'
  clear hx hy hn hn'
  cases g <;> cases g'
  · go_enter Tryz.func73, Tryz.ntmps73
    go_wp2_with fail
    refine (cmpI_any a a' n m c c' xs ys _ ((unhide HX).later (Nat.le_refl _) (below_two _ _ _)) ((unhide HY).later (Nat.le_refl _) (below_two _ _ _)) (unhide HN) (unhide HN') hm hm').mono ?_
    rintro e w1 ⟨rfl, hb⟩
    go_wp2
    go_ret
    exact ⟨rfl, below_two' hb⟩
  · go_enter Tryz.func73, Tryz.ntmps73
    go_wp2
    go_ret
    exact ⟨rfl, below_two _ _ _⟩
  · go_enter Tryz.func73, Tryz.ntmps73
    go_wp2
    go_ret
    exact ⟨rfl, below_two _ _ _⟩
  · go_enter Tryz.func73, Tryz.ntmps73
    go_wp2_with fail
    refine (cmpI_any a' a m n c' c ys xs _ ((unhide HY).later (Nat.le_refl _) (below_two _ _ _)) ((unhide HX).later (Nat.le_refl _) (below_two _ _ _)) (unhide HN') (unhide HN) hm' hm).mono ?_
    rintro e w1 ⟨rfl, hb⟩
    go_wp2
    go_ret
    exact ⟨rfl, below_two' hb⟩


set_option maxHeartbeats 1000000 in
theorem pair_any (g g' : Bool) (a a' : Option Addr) (n m c c' : Nat) (xs ys : List Int) (w : World) (hx : Sl w a xs) (hy : Sl w a' ys) (hn : xs.length = n) (hn' : ys.length = m) (hm : n ≤ maxLen) (hm' : m ≤ maxLen) :
    Calls Tryz.prog 43 #[.agg #[.bool g, .slice a n c], .agg #[.bool g', .slice a' m c']] w fun e w' => e = .returned (.bool (goodB g xs && goodB g' ys)) ∧ Below w.heap.size w w' := by
  have HX := hide hx
  have HY := hide hy
  have HN := hide hn
  have HN' := hide hn'
  clear hx hy hn hn'
  cases h1 : goodB g xs
  · go_enter Tryz.func43, Tryz.ntmps43
    go_wp2_with fail
    refine (goodI_any g a n c xs _ ((unhide HX).later (Nat.le_refl _) (below_two _ _ _)) (unhide HN) hm).mono ?_
    rintro e w1 ⟨rfl, hb⟩
    go_wp2
    go_ret
    exact ⟨rfl, below_two' hb⟩
  · go_enter Tryz.func43, Tryz.ntmps43
    go_wp2_with fail
    refine (goodI_any g a n c xs _ ((unhide HX).later (Nat.le_refl _) (below_two _ _ _)) (unhide HN) hm).mono ?_
    rintro e w1 ⟨rfl, hb⟩
    have y0 : w1.cell? ⟨w.heap.size + 1, 0, none⟩ = some (.bool g') := cell_later hb (by simp [go_sem])
    have y1 : w1.cell? ⟨w.heap.size + 1, 1, none⟩ = some (.slice a' m c') := cell_later hb (by simp [go_sem])
    have HB := hide (below_two' hb)
    clear hb
    go_wp2_with fail
    refine (goodI_any g' a' m c' ys w1 ((unhide HY).later (Nat.le_refl _) (unhide HB)) (unhide HN') hm').mono ?_
    rintro e w2 ⟨rfl, hb2⟩
    go_wp2
    go_ret
    exact ⟨by simp, (unhide HB).trans (hb2.mono (unhide HB).size)⟩
end Go.Proofs.YtdgonpbponnnaaaGreatDoor
