/- Chapter 10: IsConvex, HasPt and IsHull of both sides. No condition beyond those typed. No condition beyond those typed. Written by mkey10.py. -/
import Derived.Test.YtgoiodhofbkkdaaCv10
namespace Go.Proofs.Ytgoiodhofbkkdaa
open Go.RowKit
set_option linter.unusedVariables false
set_option maxRecDepth 100000
set_option linter.unusedSimpArgs false

def cnV (l : List (Int × Int)) : Bool := if wayB l then cvV l else false
def hpB (l : List (Int × Int)) (p : Int × Int) : Bool := wayB l && gPt p && cvV l
def hpV (l : List (Int × Int)) (p : Int × Int) : Bool := if hpB l p then haK l p l.length else false
def ihB (l r : List (Int × Int)) : Bool := cloB l && r.all gPt
def ihV (l r : List (Int × Int)) : Bool := if ihB l r then decide (hulV l = r) else false
set_option maxHeartbeats 4000000 in
theorem rightI (G n : Nat) (l : List (Int × Int)) (p : Int × Int) (w : World) (h : SgP w G n l) (h0 : 0 < n) (h1 : n ≤ 1000) (hg : ∀ p ∈ l, Near p) (hp : Near p) :
    Calls Try.prog 64 #[.slice (some ⟨G, 0, none⟩) n n, .agg #[.int .i64 p.1, .int .i64 p.2]] w fun e w' => e = .returned (.bool (haK l p l.length)) ∧ Below w.heap.size w w' := by
  have HN := hide h.len
  have SG := hide h
  have HG := hide hg
  have NP := hide hp
  have KP : Hid ((w.alloc (.cells #[.int .i64 p.1, .int .i64 p.2] 31)).cell? ⟨w.heap.size, 0, none⟩ = some (.int .i64 p.1) ∧ (w.alloc (.cells #[.int .i64 p.1, .int .i64 p.2] 31)).cell? ⟨w.heap.size, 1, none⟩ = some (.int .i64 p.2)) := hide (by simp [go_sem])
  have ltX : w.heap.size < (w.alloc (.cells #[.int .i64 p.1, .int .i64 p.2] 31)).heap.size := by simp
  have HB0 : Hid (Below w.heap.size w (w.alloc (.cells #[.int .i64 p.1, .int .i64 p.2] 31))) := hide ((Below.refl _ _).alloc (Nat.le_refl _) _)
  clear h hg hp
  go_enter Try.func64, Try.ntmps64
  go_upto_region 1 with fail
  generalize w.alloc (.cells #[.int .i64 p.1, .int .i64 p.2] 31) = w2 at *
  generalize hPX : w.heap.size = PX at *
  replace HB0 : Hid (Below w.heap.size w w2) := hide (by rw [hPX]; exact unhide HB0)
  clear hPX
  replace SG := hide ((unhide SG).later (unhide HB0))
  go_wp2
  go_loopw [9] (fun iv wr => ∃ i : Nat, i ≤ n ∧ iv = .int .i64 i ∧ Hid (haK l p i = true) ∧ Hid (Below w2.heap.size w2 wr)) (fun iv _ => n - (intOf iv).toNat)
  case atStart => exact ⟨0, Nat.zero_le _, rfl, hide rfl, hide (Below.refl _ _)⟩
  case round =>
    obtain ⟨i, hi, rfl, HI, HB⟩ := hrel
    by_cases hlt : i < n
    · have hlt' : (i : Int) < (n : Int) := by omega
      have e0 := ((unhide SG).later (unhide HB)).at_ i hlt
      have gl := ((unhide SG).later (unhide HB)).lt
      have np := unhide HG (l.getD i (0, 0)) (by rw [getD_gt (by rw [unhide HN]; exact hlt)]; exact List.getElem_mem _)
      have nq := unhide HG _ (nxt_mem (by rw [unhide HN]; omega) i)
      have ES : Hid (haK l p (i + 1) = !(decide (sgZ (crs (l.getD i (0, 0)) (nxt l i) p) < 0))) := hide (by rw [haK, unhide HI, Bool.true_and])
      have HF : Hid (haK l p (i + 1) = false → haK l p l.length = false) := hide (haK_le (by rw [unhide HN]; omega))
      have CT := hide (fun w => turnI (l.getD i (0, 0)) (nxt l i) p w np nq (unhide NP))
      generalize sgZ (crs (l.getD i (0, 0)) (nxt l i) p) = s at *
      generalize nxt l i = y at *
      generalize l.getD i (0, 0) = x at *
      have E0 := e0.1
      have E1 := e0.2.1
      have E2 := e0.2.2.1
      have E3 := e0.2.2.2
      have al : Below wr.heap.size wr (wr.alloc (.cells #[.int .i64 x.1, .int .i64 x.2, .int .i64 y.1, .int .i64 y.2] 95)) := (Below.refl _ _).alloc (Nat.le_refl _) _
      have HB3 := hide (below_on (unhide HB) al)
      have k0 : wr.cell? ⟨PX, 0, none⟩ = some (.int .i64 p.1) := ((unhide HB).cell (p := ⟨PX, 0, none⟩) ltX).trans (unhide KP).1
      have k1 : wr.cell? ⟨PX, 1, none⟩ = some (.int .i64 p.2) := ((unhide HB).cell (p := ⟨PX, 1, none⟩) ltX).trans (unhide KP).2
      replace k0 := cell_later al k0
      replace k1 := cell_later al k1
      have s0 : (wr.alloc (.cells #[.int .i64 x.1, .int .i64 x.2, .int .i64 y.1, .int .i64 y.2] 95)).cell? ⟨wr.heap.size, 0, none⟩ = some (.int .i64 x.1) := by simp [go_sem]
      have s1 : (wr.alloc (.cells #[.int .i64 x.1, .int .i64 x.2, .int .i64 y.1, .int .i64 y.2] 95)).cell? ⟨wr.heap.size, 1, none⟩ = some (.int .i64 x.2) := by simp [go_sem]
      have s2 : (wr.alloc (.cells #[.int .i64 x.1, .int .i64 x.2, .int .i64 y.1, .int .i64 y.2] 95)).cell? ⟨wr.heap.size, 2, none⟩ = some (.int .i64 y.1) := by simp [go_sem]
      have s3 : (wr.alloc (.cells #[.int .i64 x.1, .int .i64 x.2, .int .i64 y.1, .int .i64 y.2] 95)).cell? ⟨wr.heap.size, 3, none⟩ = some (.int .i64 y.2) := by simp [go_sem]
      clear e0 np nq al gl
      go_upto_region 4 with fail
      clear E0 E1 E2 E3 HB
      generalize wr.alloc (.cells #[.int .i64 x.1, .int .i64 x.2, .int .i64 y.1, .int .i64 y.2] 95) = w4 at *
      by_cases hs : s < 0
      · have EF := hide (unhide HF (by rw [unhide ES, decide_eq_true hs]; rfl))
        clear HF ES
        go_wp2_with fail
        refine (unhide CT _).mono ?_
        rintro e w5 ⟨rfl, hb5⟩
        have HB5 := hide (below_on (unhide HB0) (below_on (unhide HB3) hb5))
        clear hb5 k0 k1 s0 s1 s2 s3 CT
        go_wp2
        go_ret
        exact ⟨by rw [unhide EF]; rfl, unhide HB5⟩
      · have EF : Hid (haK l p (i + 1) = true) := hide (by rw [unhide ES, decide_eq_false hs]; rfl)
        clear HF ES
        go_wp2_with fail
        refine (unhide CT _).mono ?_
        rintro e w5 ⟨rfl, hb5⟩
        have HB5 := hide (below_on (unhide HB3) hb5)
        clear hb5 k0 k1 s0 s1 s2 s3 CT
        go_wp2
        go_roundw
        case rel => exact ⟨i + 1, by omega, by go_num, EF, HB5⟩
        case measure => simp [intOf]; omega
    · obtain rfl : i = n := by omega
      have EN : Hid (haK l p l.length = true) := hide (by rw [unhide HN]; exact unhide HI)
      go_wp2
      go_ret
      exact ⟨by rw [unhide EN]; rfl, below_on (unhide HB0) (unhide HB)⟩
set_option maxHeartbeats 2000000 in
theorem IsConvexS (a : Option Addr) (n c : Nat) (l : List (Int × Int)) (w : World) (h : ArP w a n c l) (h1 : n ≤ 1048576) :
    Calls Try.prog 33 #[.slice a n c] w fun e w' => e = .returned (.tuple #[.bool (cnV l), .bool (wayB l)]) ∧ Below w.heap.size w w' := by
  have hn := h.len
  have C1 := hide (fun w (k : SlP w a l) => wayS a n c l w k hn (by unfold maxLen; omega))
  have HS := hide h
  clear h
  unfold cnV
  cases hg : wayB l
  · rw [hg] at C1
    simp only [Bool.false_eq_true, if_false]
    clear hg
    go_enter Try.func33, Try.ntmps33
    go_wp2_with fail
    refine (unhide C1 _ (unhide HS).sl).mono ?_
    rintro e w1 ⟨rfl, hb⟩
    go_wp2_with fail
    go_ret2
    exact ⟨rfl, hb⟩
  · rw [hg] at C1
    have wp := way_parts hg
    have ln := wp.1
    rw [hn] at ln
    simp only [if_true]
    have C2 := hide (fun w (k : ArP w a n c l) => convexS a n c l w k (by omega) (by omega) wp.2)
    generalize cvV l = r at *
    clear hg wp hn ln
    go_enter Try.func33, Try.ntmps33
    go_wp2_with fail
    refine (unhide C1 _ (unhide HS).sl).mono ?_
    rintro e w1 ⟨rfl, hb⟩
    have HB := hide hb
    replace HS := hide ((unhide HS).later hb)
    clear hb
    go_wp2_with fail
    refine (unhide C2 _ (unhide HS)).mono ?_
    rintro e w2 ⟨rfl, hb⟩
    replace HB := hide (below_on (unhide HB) hb)
    clear hb
    go_wp2_with fail
    go_ret2
    exact ⟨rfl, unhide HB⟩
set_option maxHeartbeats 2000000 in
theorem IsConvexI (a : Option Addr) (n c : Nat) (l : List (Int × Int)) (w : World) (h : ArP w a n c l) (h1 : n ≤ 1048576) :
    Calls Try.prog 30 #[.slice a n c] w fun e w' => e = .returned (.tuple #[.bool (cnV l), .bool (wayB l)]) ∧ Below w.heap.size w w' := by
  have hn := h.len
  have C1 := hide (fun w (k : SlP w a l) => wayI a n c l w k hn (by unfold maxLen; omega))
  have HS := hide h
  clear h
  unfold cnV
  cases hg : wayB l
  · rw [hg] at C1
    simp only [Bool.false_eq_true, if_false]
    clear hg
    go_enter Try.func30, Try.ntmps30
    go_wp2_with fail
    refine (unhide C1 _ (unhide HS).sl).mono ?_
    rintro e w1 ⟨rfl, hb⟩
    go_wp2_with fail
    go_ret2
    exact ⟨rfl, hb⟩
  · rw [hg] at C1
    have wp := way_parts hg
    have ln := wp.1
    rw [hn] at ln
    simp only [if_true]
    have C2 := hide (fun w (k : ArP w a n c l) => convexI a n c l w k (by omega) (by omega) wp.2)
    generalize cvV l = r at *
    clear hg wp hn ln
    go_enter Try.func30, Try.ntmps30
    go_wp2_with fail
    refine (unhide C1 _ (unhide HS).sl).mono ?_
    rintro e w1 ⟨rfl, hb⟩
    have HB := hide hb
    replace HS := hide ((unhide HS).later hb)
    clear hb
    go_wp2_with fail
    refine (unhide C2 _ (unhide HS)).mono ?_
    rintro e w2 ⟨rfl, hb⟩
    replace HB := hide (below_on (unhide HB) hb)
    clear hb
    go_wp2_with fail
    go_ret2
    exact ⟨rfl, unhide HB⟩
set_option maxHeartbeats 4000000 in
theorem HasPtS (a : Option Addr) (n c : Nat) (l : List (Int × Int)) (p : Int × Int) (w : World) (h : ArP w a n c l) (h1 : n ≤ 1048576) :
    Calls Try.prog 27 #[.slice a n c, .agg #[.int .i64 p.1, .int .i64 p.2]] w fun e w' => e = .returned (.tuple #[.bool (hpV l p), .bool (hpB l p)]) ∧ Below w.heap.size w w' := by
  have hn := h.len
  have C1 := hide (fun w (k : SlP w a l) => wayS a n c l w k hn (by unfold maxLen; omega))
  have C2 := hide (fun w => goodPS p.1 p.2 w)
  change Hid (∀ w, Calls _ _ _ w fun e w' => e = .returned (.bool (gPt p)) ∧ _) at C2
  have al0 : Below w.heap.size w (w.alloc (.cells #[.int .i64 p.1, .int .i64 p.2] 31)) := (Below.refl _ _).alloc (Nat.le_refl _) _
  have B0 := hide al0
  have HS := hide (h.later al0)
  have k0 : (w.alloc (.cells #[.int .i64 p.1, .int .i64 p.2] 31)).cell? ⟨w.heap.size, 0, none⟩ = some (.int .i64 p.1) := by simp [go_sem]
  have k1 : (w.alloc (.cells #[.int .i64 p.1, .int .i64 p.2] 31)).cell? ⟨w.heap.size, 1, none⟩ = some (.int .i64 p.2) := by simp [go_sem]
  unfold hpV hpB
  clear h al0
  cases hg : wayB l
  · rw [hg] at C1
    simp only [Bool.false_and, Bool.false_eq_true, if_false]
    clear hg
    go_enter Try.func27, Try.ntmps27
    go_wp2_with fail
    refine (unhide C1 _ (unhide HS).sl).mono ?_
    rintro e w1 ⟨rfl, hb⟩
    replace k0 := cell_later hb k0
    replace k1 := cell_later hb k1
    replace HS := hide ((unhide HS).later hb)
    have HB := hide (below_on (unhide B0) hb)
    clear hb
    clear k0 k1
    go_wp2_with fail
    go_ret2
    exact ⟨rfl, unhide HB⟩
  · rw [hg] at C1
    have wp := way_parts hg
    have ln := wp.1
    rw [hn] at ln
    cases hq : gPt p
    · rw [hq] at C2
      simp only [Bool.true_and, Bool.false_and, Bool.false_eq_true, if_false]
      clear hg hq wp hn ln
      go_enter Try.func27, Try.ntmps27
      go_wp2_with fail
      refine (unhide C1 _ (unhide HS).sl).mono ?_
      rintro e w1 ⟨rfl, hb⟩
      replace k0 := cell_later hb k0
      replace k1 := cell_later hb k1
      replace HS := hide ((unhide HS).later hb)
      have HB := hide (below_on (unhide B0) hb)
      clear hb
      go_wp2_with fail
      refine (unhide C2 _).mono ?_
      rintro e w2 ⟨rfl, hb⟩
      replace k0 := cell_later hb k0
      replace k1 := cell_later hb k1
      replace HS := hide ((unhide HS).later hb)
      replace HB := hide (below_on (unhide HB) hb)
      clear hb
      clear k0 k1
      go_wp2_with fail
      go_ret2
      exact ⟨rfl, unhide HB⟩
    · rw [hq] at C2
      have npp := near_of hq
      have C3 := hide (fun w (k : ArP w a n c l) => convexS a n c l w k (by omega) (by omega) wp.2)
      cases hc : cvV l
      · rw [hc] at C3
        simp only [Bool.true_and, Bool.and_false, Bool.false_eq_true, if_false]
        clear hg hq hc wp hn ln npp
        go_enter Try.func27, Try.ntmps27
        go_wp2_with fail
        refine (unhide C1 _ (unhide HS).sl).mono ?_
        rintro e w1 ⟨rfl, hb⟩
        replace k0 := cell_later hb k0
        replace k1 := cell_later hb k1
        replace HS := hide ((unhide HS).later hb)
        have HB := hide (below_on (unhide B0) hb)
        clear hb
        go_wp2_with fail
        refine (unhide C2 _).mono ?_
        rintro e w2 ⟨rfl, hb⟩
        replace k0 := cell_later hb k0
        replace k1 := cell_later hb k1
        replace HS := hide ((unhide HS).later hb)
        replace HB := hide (below_on (unhide HB) hb)
        clear hb
        go_wp2_with fail
        refine (unhide C3 _ (unhide HS)).mono ?_
        rintro e w3 ⟨rfl, hb⟩
        replace k0 := cell_later hb k0
        replace k1 := cell_later hb k1
        replace HS := hide ((unhide HS).later hb)
        replace HB := hide (below_on (unhide HB) hb)
        clear hb
        clear k0 k1
        go_wp2_with fail
        go_ret2
        exact ⟨rfl, unhide HB⟩
      · rw [hc] at C3
        simp only [Bool.true_and, Bool.and_true, if_true]
        have C4 := hide (fun w (k : SlP w a l) => hasS10 a n c l p w k hn (by omega) (by omega) wp.2 npp)
        generalize haK l p l.length = r at *
        clear hg hq hc wp hn ln npp
        go_enter Try.func27, Try.ntmps27
        go_wp2_with fail
        refine (unhide C1 _ (unhide HS).sl).mono ?_
        rintro e w1 ⟨rfl, hb⟩
        replace k0 := cell_later hb k0
        replace k1 := cell_later hb k1
        replace HS := hide ((unhide HS).later hb)
        have HB := hide (below_on (unhide B0) hb)
        clear hb
        go_wp2_with fail
        refine (unhide C2 _).mono ?_
        rintro e w2 ⟨rfl, hb⟩
        replace k0 := cell_later hb k0
        replace k1 := cell_later hb k1
        replace HS := hide ((unhide HS).later hb)
        replace HB := hide (below_on (unhide HB) hb)
        clear hb
        go_wp2_with fail
        refine (unhide C3 _ (unhide HS)).mono ?_
        rintro e w3 ⟨rfl, hb⟩
        replace k0 := cell_later hb k0
        replace k1 := cell_later hb k1
        replace HS := hide ((unhide HS).later hb)
        replace HB := hide (below_on (unhide HB) hb)
        clear hb
        go_wp2_with fail
        refine (unhide C4 _ (unhide HS).sl).mono ?_
        rintro e w5 ⟨rfl, hb⟩
        replace HB := hide (below_on (unhide HB) hb)
        clear hb k0 k1
        go_wp2_with fail
        go_ret2
        exact ⟨rfl, unhide HB⟩
set_option maxHeartbeats 4000000 in
theorem HasPtI (a : Option Addr) (n c : Nat) (l : List (Int × Int)) (p : Int × Int) (w : World) (h : ArP w a n c l) (h1 : n ≤ 1048576) :
    Calls Try.prog 26 #[.slice a n c, .agg #[.int .i64 p.1, .int .i64 p.2]] w fun e w' => e = .returned (.tuple #[.bool (hpV l p), .bool (hpB l p)]) ∧ Below w.heap.size w w' := by
  have hn := h.len
  have C1 := hide (fun w (k : SlP w a l) => wayI a n c l w k hn (by unfold maxLen; omega))
  have C2 := hide (fun w => goodPI p.1 p.2 w)
  change Hid (∀ w, Calls _ _ _ w fun e w' => e = .returned (.bool (gPt p)) ∧ _) at C2
  have al0 : Below w.heap.size w (w.alloc (.cells #[.int .i64 p.1, .int .i64 p.2] 31)) := (Below.refl _ _).alloc (Nat.le_refl _) _
  have B0 := hide al0
  have HS := hide (h.later al0)
  have k0 : (w.alloc (.cells #[.int .i64 p.1, .int .i64 p.2] 31)).cell? ⟨w.heap.size, 0, none⟩ = some (.int .i64 p.1) := by simp [go_sem]
  have k1 : (w.alloc (.cells #[.int .i64 p.1, .int .i64 p.2] 31)).cell? ⟨w.heap.size, 1, none⟩ = some (.int .i64 p.2) := by simp [go_sem]
  unfold hpV hpB
  clear h al0
  cases hg : wayB l
  · rw [hg] at C1
    simp only [Bool.false_and, Bool.false_eq_true, if_false]
    clear hg
    go_enter Try.func26, Try.ntmps26
    go_wp2_with fail
    refine (unhide C1 _ (unhide HS).sl).mono ?_
    rintro e w1 ⟨rfl, hb⟩
    replace k0 := cell_later hb k0
    replace k1 := cell_later hb k1
    replace HS := hide ((unhide HS).later hb)
    have HB := hide (below_on (unhide B0) hb)
    clear hb
    clear k0 k1
    go_wp2_with fail
    go_ret2
    exact ⟨rfl, unhide HB⟩
  · rw [hg] at C1
    have wp := way_parts hg
    have ln := wp.1
    rw [hn] at ln
    cases hq : gPt p
    · rw [hq] at C2
      simp only [Bool.true_and, Bool.false_and, Bool.false_eq_true, if_false]
      clear hg hq wp hn ln
      go_enter Try.func26, Try.ntmps26
      go_wp2_with fail
      refine (unhide C1 _ (unhide HS).sl).mono ?_
      rintro e w1 ⟨rfl, hb⟩
      replace k0 := cell_later hb k0
      replace k1 := cell_later hb k1
      replace HS := hide ((unhide HS).later hb)
      have HB := hide (below_on (unhide B0) hb)
      clear hb
      go_wp2_with fail
      refine (unhide C2 _).mono ?_
      rintro e w2 ⟨rfl, hb⟩
      replace k0 := cell_later hb k0
      replace k1 := cell_later hb k1
      replace HS := hide ((unhide HS).later hb)
      replace HB := hide (below_on (unhide HB) hb)
      clear hb
      clear k0 k1
      go_wp2_with fail
      go_ret2
      exact ⟨rfl, unhide HB⟩
    · rw [hq] at C2
      have npp := near_of hq
      have C3 := hide (fun w (k : ArP w a n c l) => convexI a n c l w k (by omega) (by omega) wp.2)
      cases hc : cvV l
      · rw [hc] at C3
        simp only [Bool.true_and, Bool.and_false, Bool.false_eq_true, if_false]
        clear hg hq hc wp hn ln npp
        go_enter Try.func26, Try.ntmps26
        go_wp2_with fail
        refine (unhide C1 _ (unhide HS).sl).mono ?_
        rintro e w1 ⟨rfl, hb⟩
        replace k0 := cell_later hb k0
        replace k1 := cell_later hb k1
        replace HS := hide ((unhide HS).later hb)
        have HB := hide (below_on (unhide B0) hb)
        clear hb
        go_wp2_with fail
        refine (unhide C2 _).mono ?_
        rintro e w2 ⟨rfl, hb⟩
        replace k0 := cell_later hb k0
        replace k1 := cell_later hb k1
        replace HS := hide ((unhide HS).later hb)
        replace HB := hide (below_on (unhide HB) hb)
        clear hb
        go_wp2_with fail
        refine (unhide C3 _ (unhide HS)).mono ?_
        rintro e w3 ⟨rfl, hb⟩
        replace k0 := cell_later hb k0
        replace k1 := cell_later hb k1
        replace HS := hide ((unhide HS).later hb)
        replace HB := hide (below_on (unhide HB) hb)
        clear hb
        clear k0 k1
        go_wp2_with fail
        go_ret2
        exact ⟨rfl, unhide HB⟩
      · rw [hc] at C3
        simp only [Bool.true_and, Bool.and_true, if_true]
        have C5 := hide (fun w (k : SlP w a l) => segsI a n c l w k hn (by omega) (by omega))
        have C4 := hide (fun G w (k : SgP w G n l) => rightI G n l p w k (by omega) (by omega) wp.2 npp)
        generalize haK l p l.length = r at *
        clear hg hq hc wp hn ln npp
        go_enter Try.func26, Try.ntmps26
        go_wp2_with fail
        refine (unhide C1 _ (unhide HS).sl).mono ?_
        rintro e w1 ⟨rfl, hb⟩
        replace k0 := cell_later hb k0
        replace k1 := cell_later hb k1
        replace HS := hide ((unhide HS).later hb)
        have HB := hide (below_on (unhide B0) hb)
        clear hb
        go_wp2_with fail
        refine (unhide C2 _).mono ?_
        rintro e w2 ⟨rfl, hb⟩
        replace k0 := cell_later hb k0
        replace k1 := cell_later hb k1
        replace HS := hide ((unhide HS).later hb)
        replace HB := hide (below_on (unhide HB) hb)
        clear hb
        go_wp2_with fail
        refine (unhide C3 _ (unhide HS)).mono ?_
        rintro e w3 ⟨rfl, hb⟩
        replace k0 := cell_later hb k0
        replace k1 := cell_later hb k1
        replace HS := hide ((unhide HS).later hb)
        replace HB := hide (below_on (unhide HB) hb)
        clear hb
        go_upto_region 3 with fail
        have HX0 : Hid True := hide trivial
        go_region_held3 (fun w' => w'.cell? ⟨w.heap.size, 0, none⟩ = some (.int .i64 p.1) ∧ w'.cell? ⟨w.heap.size, 1, none⟩ = some (.int .i64 p.2))
          (with_reducible (first | exact ⟨k0, k1⟩ | exact ⟨cdP k0, cdP k1⟩ | fail))
          (first
          | (have chk := HX0; go_at_call 65; refine (unhide C5 _ ((unhide HS).sl.later (Below.refl _ _).drew)).mono ?_; rintro e w5 ⟨rfl, hb1, sg⟩; have hbx := below_of_drew hb1; have SG := hide sg; replace k0 := cell_later hbx k0; replace k1 := cell_later hbx k1; replace HB := hide (below_on (unhide HB) hbx); clear hb1 hbx sg chk HX0)
          | (go_at_call 64; refine (unhide C4 _ _ (unhide SG)).mono ?_; rintro e w6 ⟨rfl, hb1⟩; replace k0 := cell_later hb1 k0; replace k1 := cell_later hb1 k1; replace HB := hide (below_on (unhide HB) hb1); clear hb1)
          | fail)
        clear k0 k1
        go_wp2_with fail
        go_ret2
        exact ⟨rfl, unhide HB⟩
set_option maxHeartbeats 4000000 in
theorem IsHullS (a : Option Addr) (n c : Nat) (l : List (Int × Int)) (b : Option Addr) (m d : Nat) (r : List (Int × Int)) (w : World) (h : ArP w a n c l) (h' : ArP w b m d r) (h1 : n ≤ 1048576) (h2 : m ≤ 1048576) :
    Calls Try.prog 22 #[.slice a n c, .slice b m d] w fun e w' => e = .returned (.tuple #[.bool (ihV l r), .bool (ihB l r)]) ∧ Below w.heap.size w w' := by
  have hn := h.len
  have hm := h'.len
  have C1 := hide (fun w (k : SlP w a l) => cloudS a n c l w k hn (by unfold maxLen; omega))
  have C2 := hide (fun w (k : SlP w b r) => ptsS b m d r w k hm (by unfold maxLen; omega))
  have HS := hide h.sl
  have HR := hide h'.sl
  unfold ihV ihB
  clear h h'
  cases hg : cloB l
  · rw [hg] at C1
    simp only [Bool.false_and, Bool.false_eq_true, if_false]
    clear hg
    go_enter Try.func22, Try.ntmps22
    go_wp2_with fail
    refine (unhide C1 _ (unhide HS)).mono ?_
    rintro e w1 ⟨rfl, hb⟩
    go_wp2_with fail
    go_ret2
    exact ⟨rfl, hb⟩
  · rw [hg] at C1
    have cp := clo_parts hg
    have cn : ∀ p ∈ l, Near p := fun p hq => near_of (cp.2 p hq)
    cases hq : r.all gPt
    · rw [hq] at C2
      simp only [Bool.true_and, Bool.false_eq_true, if_false]
      clear hg hq cp cn
      go_enter Try.func22, Try.ntmps22
      go_wp2_with fail
      refine (unhide C1 _ (unhide HS)).mono ?_
      rintro e w1 ⟨rfl, hb⟩
      have HB := hide hb
      replace HR := hide ((unhide HR).later hb)
      clear hb
      go_wp2_with fail
      refine (unhide C2 _ (unhide HR)).mono ?_
      rintro e w2 ⟨rfl, hb⟩
      replace HB := hide (below_on (unhide HB) hb)
      clear hb
      go_wp2_with fail
      go_ret2
      exact ⟨rfl, unhide HB⟩
    · rw [hq] at C2
      simp only [Bool.true_and, if_true]
      have C3 := hide (fun w (k : SlP w a l) => hullS a n c l w k hn (by have := cp.1; omega) cn)
      have HL : Hid ((hulV l).length ≤ 100) := hide (by have := hul_len' l; have := cp.1; omega)
      have HN := hide hn
      have HM := hide hm
      generalize hulV l = H at *
      clear hg hq cp cn hn hm
      go_enter Try.func22, Try.ntmps22
      go_wp2_with fail
      refine (unhide C1 _ (unhide HS)).mono ?_
      rintro e w1 ⟨rfl, hb⟩
      have HB := hide hb
      replace HS := hide ((unhide HS).later hb)
      replace HR := hide ((unhide HR).later hb)
      clear hb
      go_wp2_with fail
      refine (unhide C2 _ (unhide HR)).mono ?_
      rintro e w2 ⟨rfl, hb⟩
      replace HB := hide (below_on (unhide HB) hb)
      replace HS := hide ((unhide HS).later hb)
      replace HR := hide ((unhide HR).later hb)
      clear hb
      go_wp2_with fail
      refine (unhide C3 _ (unhide HS)).mono ?_
      rintro e w3 ⟨v, rfl, hb, rw3⟩
      obtain ⟨a3, c3, rfl, hs3⟩ := rw3.sl
      replace HB := hide (below_on (unhide HB) hb)
      replace HR := hide ((unhide HR).later hb)
      have HH := hide hs3
      clear hb rw3 hs3
      go_wp2_with fail
      refine (same10 a3 b H.length c3 m d H r _ (unhide HH) (unhide HR) rfl (unhide HM) (by have := unhide HL; omega)).mono ?_
      rintro e w4 ⟨rfl, hb⟩
      replace HB := hide (below_on (unhide HB) hb)
      clear hb
      go_wp2_with fail
      go_ret2
      exact ⟨rfl, unhide HB⟩
set_option maxHeartbeats 4000000 in
theorem IsHullI (a : Option Addr) (n c : Nat) (l : List (Int × Int)) (b : Option Addr) (m d : Nat) (r : List (Int × Int)) (w : World) (h : ArP w a n c l) (h' : ArP w b m d r) (h1 : n ≤ 1048576) (h2 : m ≤ 1048576) :
    Calls Try.prog 18 #[.slice a n c, .slice b m d] w fun e w' => e = .returned (.tuple #[.bool (ihV l r), .bool (ihB l r)]) ∧ Below w.heap.size w w' := by
  have hn := h.len
  have hm := h'.len
  have C1 := hide (fun w (k : SlP w a l) => cloudI a n c l w k hn (by unfold maxLen; omega))
  have C2 := hide (fun w (k : SlP w b r) => ptsI b m d r w k hm (by unfold maxLen; omega))
  have HS := hide h.sl
  have HR := hide h'.sl
  unfold ihV ihB
  clear h h'
  cases hg : cloB l
  · rw [hg] at C1
    simp only [Bool.false_and, Bool.false_eq_true, if_false]
    clear hg
    go_enter Try.func18, Try.ntmps18
    go_wp2_with fail
    refine (unhide C1 _ (unhide HS)).mono ?_
    rintro e w1 ⟨rfl, hb⟩
    go_wp2_with fail
    go_ret2
    exact ⟨rfl, hb⟩
  · rw [hg] at C1
    have cp := clo_parts hg
    have cn : ∀ p ∈ l, Near p := fun p hq => near_of (cp.2 p hq)
    cases hq : r.all gPt
    · rw [hq] at C2
      simp only [Bool.true_and, Bool.false_eq_true, if_false]
      clear hg hq cp cn
      go_enter Try.func18, Try.ntmps18
      go_wp2_with fail
      refine (unhide C1 _ (unhide HS)).mono ?_
      rintro e w1 ⟨rfl, hb⟩
      have HB := hide hb
      replace HR := hide ((unhide HR).later hb)
      clear hb
      go_wp2_with fail
      refine (unhide C2 _ (unhide HR)).mono ?_
      rintro e w2 ⟨rfl, hb⟩
      replace HB := hide (below_on (unhide HB) hb)
      clear hb
      go_wp2_with fail
      go_ret2
      exact ⟨rfl, unhide HB⟩
    · rw [hq] at C2
      simp only [Bool.true_and, if_true]
      have C3 := hide (fun w (k : SlP w a l) => hullI a n c l w k hn (by have := cp.1; omega) (by have := cp.1; omega) cn)
      have HL : Hid ((hulV l).length ≤ 100) := hide (by have := hul_len' l; have := cp.1; omega)
      have HN := hide hn
      have HM := hide hm
      generalize hulV l = H at *
      clear hg hq cp cn hn hm
      go_enter Try.func18, Try.ntmps18
      go_wp2_with fail
      refine (unhide C1 _ (unhide HS)).mono ?_
      rintro e w1 ⟨rfl, hb⟩
      have HB := hide hb
      replace HS := hide ((unhide HS).later hb)
      replace HR := hide ((unhide HR).later hb)
      clear hb
      go_wp2_with fail
      refine (unhide C2 _ (unhide HR)).mono ?_
      rintro e w2 ⟨rfl, hb⟩
      replace HB := hide (below_on (unhide HB) hb)
      replace HS := hide ((unhide HS).later hb)
      replace HR := hide ((unhide HR).later hb)
      clear hb
      go_wp2_with fail
      refine (unhide C3 _ (unhide HS)).mono ?_
      rintro e w3 ⟨v, rfl, hb, rw3⟩
      obtain ⟨a3, c3, rfl, hs3⟩ := rw3.sl
      replace HB := hide (below_on (unhide HB) hb)
      replace HR := hide ((unhide HR).later hb)
      have HH := hide hs3
      clear hb rw3 hs3
      go_wp2_with fail
      refine (sameI a3 b H.length c3 m d H r _ (unhide HH) (unhide HR) rfl (unhide HM) (by have := unhide HL; omega)).mono ?_
      rintro e w4 ⟨rfl, hb⟩
      replace HB := hide (below_on (unhide HB) hb)
      clear hb
      go_wp2_with fail
      go_ret2
      exact ⟨rfl, unhide HB⟩
end Go.Proofs.Ytgoiodhofbkkdaa
