/- Chapter 9 of the specification: points on ways, how often one goes round, crossings. No condition beyond those typed. Written by mksp9.py. -/
import Derived.Test.YteconjkjpalomaaSp8X
import Derived.Test.YteconjkjpalomaaSp8T
import Derived.Test.YteconjkjpalomaaLaw2
namespace Go.Proofs.Yteconjkjpalomaa
open Go.RowKit
set_option linter.unusedVariables false
set_option maxRecDepth 100000
set_option linter.unusedSimpArgs false

def onK (l : List (Int × Int)) (p : Int × Int) : Nat → Bool
  | 0 => false
  | k + 1 => onK l p k || onV (l.getD k (0, 0)) (nxt l k) p
theorem onK_le {l : List (Int × Int)} {p : Int × Int} {k : Nat} : ∀ {m : Nat}, k ≤ m → onK l p k = true → onK l p m = true
  | 0, h, e => by have : k = 0 := by omega
                  subst this; exact e
  | m + 1, h, e => by
    by_cases hk : k = m + 1
    · subst hk; exact e
    · have := onK_le (m := m) (by omega) e
      unfold onK; rw [this]; rfl
def upB (a b p : Int × Int) : Bool := decide (a.2 ≤ p.2) && decide (p.2 < b.2)
def dnB (a b p : Int × Int) : Bool := decide (p.2 < a.2) && decide (b.2 ≤ p.2)
/-- How a segment counts: 1 up, -1 down, 0 else. -/
def wiT (a b p : Int × Int) : Int := if upB a b p && (sgZ (crs a b p) == 1) then 1 else if dnB a b p && (sgZ (crs a b p) == -1) then -1 else 0
def crT (a b p : Int × Int) : Int := if (upB a b p && (sgZ (crs a b p) == 1)) || (dnB a b p && (sgZ (crs a b p) == -1)) then 1 else 0
def wiS (l : List (Int × Int)) (p : Int × Int) : Nat → Int
  | 0 => 0
  | k + 1 => wiS l p k + wiT (l.getD k (0, 0)) (nxt l k) p
def crS (l : List (Int × Int)) (p : Int × Int) : Nat → Int
  | 0 => 0
  | k + 1 => crS l p k + crT (l.getD k (0, 0)) (nxt l k) p
theorem wiT_bd (a b p : Int × Int) : -1 ≤ wiT a b p ∧ wiT a b p ≤ 1 := by
  unfold wiT
  split
  · omega
  · split <;> omega
theorem crT_bd (a b p : Int × Int) : 0 ≤ crT a b p ∧ crT a b p ≤ 1 := by unfold crT; split <;> omega
theorem wiS_bd (l : List (Int × Int)) (p : Int × Int) : ∀ k : Nat, -(k : Int) ≤ wiS l p k ∧ wiS l p k ≤ k
  | 0 => by simp [wiS]
  | k + 1 => by have := wiS_bd l p k; have := wiT_bd (l.getD k (0, 0)) (nxt l k) p; unfold wiS; omega
theorem crS_bd (l : List (Int × Int)) (p : Int × Int) : ∀ k : Nat, 0 ≤ crS l p k ∧ crS l p k ≤ k
  | 0 => by simp [crS]
  | k + 1 => by have := crS_bd l p k; have := crT_bd (l.getD k (0, 0)) (nxt l k) p; unfold crS; omega
theorem getD_near9 {l : List (Int × Int)} (h : ∀ p ∈ l, Near p) (i : Nat) : Near (l.getD i (0, 0)) := by
  by_cases hi : i < l.length
  · rw [getD_gt hi]; exact h _ (List.getElem_mem _)
  · rw [List.getD_eq_getElem?_getD, List.getElem?_eq_none (by omega)]
    exact ⟨by simp, by simp, by simp, by simp⟩
set_option maxHeartbeats 8000000 in
theorem onS9 (a : Option Addr) (n c : Nat) (l : List (Int × Int)) (p : Int × Int) (w : World) (h : SlP w a l) (hn : l.length = n) (h0 : 0 < n) (h1 : n ≤ 1048000) (hg : ∀ p ∈ l, Near p) (hp : Near p) :
    Calls Try.prog 21 #[.slice a n c, .agg #[.int .i64 p.1, .int .i64 p.2]] w fun e w' => e = .returned (.bool (onK l p l.length)) ∧ Below w.heap.size w w' := by
  have al0 : Below w.heap.size w (w.alloc (.cells #[.int .i64 p.1, .int .i64 p.2] 25)) := (Below.refl _ _).alloc (Nat.le_refl _) _
  have HS := hide (h.later al0)
  have HN := hide hn
  have HG := hide hg
  have HP := hide hp
  have KP : Hid ((w.alloc (.cells #[.int .i64 p.1, .int .i64 p.2] 25)).cell? ⟨w.heap.size, 0, none⟩ = some (.int .i64 p.1) ∧ (w.alloc (.cells #[.int .i64 p.1, .int .i64 p.2] 25)).cell? ⟨w.heap.size, 1, none⟩ = some (.int .i64 p.2)) := hide (by simp [go_sem])
  have BA := hide al0
  have lt0 : w.heap.size < (w.alloc (.cells #[.int .i64 p.1, .int .i64 p.2] 25)).heap.size := by simp
  clear h hn hg hp al0
  go_enter Try.func21, Try.ntmps21
  go_wp2
  generalize w.alloc (.cells #[.int .i64 p.1, .int .i64 p.2] 25) = w0 at *
  go_loopw [9] (fun iv wr => ∃ i : Nat, i ≤ n ∧ iv = .int .i64 i ∧ Hid (onK l p i = false) ∧ Hid (Below w0.heap.size w0 wr)) (fun iv _ => n - (intOf iv).toNat)
  case atStart => exact ⟨0, Nat.zero_le _, rfl, hide rfl, hide (Below.refl _ _)⟩
  case round =>
    obtain ⟨i, hi, rfl, HK, HB⟩ := hrel
    by_cases hlt : i < n
    · skip
      have hlt' : (i : Int) < (n : Int) := by omega
      have CN := hide (fun w (k : SlP w a l) => nextS a n c i l w k (unhide HN) (by omega) (by omega) (by omega))
      have SW := hide ((unhide HS).later (unhide HB))
      have np := getD_near9 (unhide HG) i
      have nq := unhide HG _ (nxt_mem (l := l) (by rw [unhide HN]; omega) i)
      rcases (unhide HS) with e | ⟨b, off, rfl, hb, hc⟩
      · exact absurd (unhide HN) (by rw [e]; simp; omega)
      have e0 := hc i (by rw [unhide HN]; exact hlt)
      rw [← getD_gt (by rw [unhide HN]; exact hlt)] at e0
      have CO := hide (fun w => onS8 (l.getD i (0, 0)) (nxt l i) p w np nq (unhide HP))
      have HV : Hid (onK l p (i + 1) = onV (l.getD i (0, 0)) (nxt l i) p) := hide (by show (onK l p i || _) = _; rw [unhide HK]; rfl)
      generalize onV (l.getD i (0, 0)) (nxt l i) p = v at *
      generalize nxt l i = y at *
      generalize l.getD i (0, 0) = x at *
      have E0 : wr.cell? ⟨b, off + i * 2, none⟩ = some (.int .i64 x.1) := ((unhide HB).cell (p := ⟨b, off + i * 2, none⟩) hb).trans (e0.1)
      have E1 : wr.cell? ⟨b, off + i * 2 + 1, none⟩ = some (.int .i64 x.2) := ((unhide HB).cell (p := ⟨b, off + i * 2 + 1, none⟩) hb).trans (e0.2)
      have p0 : wr.cell? ⟨w.heap.size, 0, none⟩ = some (.int .i64 p.1) := ((unhide HB).cell (p := ⟨w.heap.size, 0, none⟩) lt0).trans (unhide KP).1
      have p1 : wr.cell? ⟨w.heap.size, 1, none⟩ = some (.int .i64 p.2) := ((unhide HB).cell (p := ⟨w.heap.size, 1, none⟩) lt0).trans (unhide KP).2
      clear e0 hc np nq
      have al : Below wr.heap.size wr (wr.alloc (.cells #[.int .i64 x.1, .int .i64 x.2] 25)) := (Below.refl _ _).alloc (Nat.le_refl _) _
      have a0 : (wr.alloc (.cells #[.int .i64 x.1, .int .i64 x.2] 25)).cell? ⟨wr.heap.size, 0, none⟩ = some (.int .i64 x.1) := by simp [go_sem]
      have a1 : (wr.alloc (.cells #[.int .i64 x.1, .int .i64 x.2] 25)).cell? ⟨wr.heap.size, 1, none⟩ = some (.int .i64 x.2) := by simp [go_sem]
      replace p0 := cell_later al p0
      replace p1 := cell_later al p1
      have SW1 := hide ((unhide SW).later al)
      have HB1 := hide (below_on (unhide HB) al)
      clear al SW
      go_upto_region 4 with fail
      clear E0 E1
      generalize wr.alloc (.cells #[.int .i64 x.1, .int .i64 x.2] 25) = w3 at *
      have HX0 : Hid True := hide trivial
      go_region_held3 (fun w' => w'.cell? ⟨wr.heap.size, 0, none⟩ = some (.int .i64 x.1) ∧ w'.cell? ⟨wr.heap.size, 1, none⟩ = some (.int .i64 x.2) ∧ w'.cell? ⟨w.heap.size, 0, none⟩ = some (.int .i64 p.1) ∧ w'.cell? ⟨w.heap.size, 1, none⟩ = some (.int .i64 p.2))
        (with_reducible (first | exact ⟨a0, a1, p0, p1⟩ | exact ⟨cdP a0, cdP a1, cdP p0, cdP p1⟩ | fail))
        (first
        | (have chk := HX0; go_at_call 38; refine (unhide CN _ ((unhide SW1).later (Below.refl _ _).drew)).mono ?_; rintro e w4 ⟨rfl, hb1⟩; have hbx := below_of_drew hb1; replace a0 := cell_later hbx a0; replace a1 := cell_later hbx a1; replace p0 := cell_later hbx p0; replace p1 := cell_later hbx p1; replace SW1 := hide ((unhide SW1).later hbx); replace HB1 := hide (below_on (unhide HB1) hbx); clear hb1 hbx; clear HX0 chk; have HX1 : Hid True := hide trivial)
        | (have chk := HX1; go_at_call 37; refine (unhide CO _).mono ?_; rintro e w5 ⟨rfl, hb1⟩; have hbx := hb1; replace a0 := cell_later hbx a0; replace a1 := cell_later hbx a1; replace p0 := cell_later hbx p0; replace p1 := cell_later hbx p1; replace SW1 := hide ((unhide SW1).later hbx); replace HB1 := hide (below_on (unhide HB1) hbx); clear hb1 hbx; clear HX1 chk)
        | fail)
      clear a0 a1 p0 p1 SW1
      cases v
      · go_wp2
        go_roundw
        case rel => exact ⟨i + 1, by omega, by go_num, HV, HB1⟩
        case measure => simp [intOf]; omega
      · have HT : Hid (onK l p l.length = true) := hide (onK_le (by rw [unhide HN]; omega) (unhide HV))
        go_wp2
        go_ret
        exact ⟨by rw [unhide HT]; rfl, below_on (unhide BA) (unhide HB1)⟩
    · obtain rfl : i = n := by omega
      have HT : Hid (onK l p l.length = false) := hide (by rw [unhide HN]; exact unhide HK)
      go_wp2
      go_ret
      exact ⟨by rw [unhide HT]; rfl, below_on (unhide BA) (unhide HB)⟩
set_option maxHeartbeats 16000000 in
theorem windS9 (a : Option Addr) (n c : Nat) (l : List (Int × Int)) (p : Int × Int) (w : World) (h : SlP w a l) (hn : l.length = n) (h0 : 0 < n) (h1 : n ≤ 1048000) (hg : ∀ p ∈ l, Near p) (hp : Near p) :
    Calls Try.prog 22 #[.slice a n c, .agg #[.int .i64 p.1, .int .i64 p.2]] w fun e w' => e = .returned (.int .i64 (wiS l p l.length)) ∧ Below w.heap.size w w' := by
  have al0 : Below w.heap.size w (w.alloc (.cells #[.int .i64 p.1, .int .i64 p.2] 25)) := (Below.refl _ _).alloc (Nat.le_refl _) _
  have HS := hide (h.later al0)
  have HN := hide hn
  have HG := hide hg
  have HP := hide hp
  have KP : Hid ((w.alloc (.cells #[.int .i64 p.1, .int .i64 p.2] 25)).cell? ⟨w.heap.size, 0, none⟩ = some (.int .i64 p.1) ∧ (w.alloc (.cells #[.int .i64 p.1, .int .i64 p.2] 25)).cell? ⟨w.heap.size, 1, none⟩ = some (.int .i64 p.2)) := hide (by simp [go_sem])
  have BA := hide al0
  have lt0 : w.heap.size < (w.alloc (.cells #[.int .i64 p.1, .int .i64 p.2] 25)).heap.size := by simp
  clear h hn hg hp al0
  go_enter Try.func22, Try.ntmps22
  go_wp2
  generalize w.alloc (.cells #[.int .i64 p.1, .int .i64 p.2] 25) = w0 at *
  go_loopw [5, 11] (fun sv iv wr => ∃ i : Nat, i ≤ n ∧ iv = .int .i64 i ∧ sv = .int .i64 (wiS l p i) ∧ Hid (Below w0.heap.size w0 wr)) (fun _ iv _ => n - (intOf iv).toNat)
  case atStart => exact ⟨0, Nat.zero_le _, rfl, rfl, hide (Below.refl _ _)⟩
  case round =>
    obtain ⟨i, hi, rfl, rfl, HB⟩ := hrel
    by_cases hlt : i < n
    · skip
      have hlt' : (i : Int) < (n : Int) := by omega
      have CN := hide (fun w (k : SlP w a l) => nextS a n c i l w k (unhide HN) (by omega) (by omega) (by omega))
      have SW := hide ((unhide HS).later (unhide HB))
      have np := getD_near9 (unhide HG) i
      have nq := unhide HG _ (nxt_mem (l := l) (by rw [unhide HN]; omega) i)
      rcases (unhide HS) with e | ⟨b, off, rfl, hb, hc⟩
      · exact absurd (unhide HN) (by rw [e]; simp; omega)
      have e0 := hc i (by rw [unhide HN]; exact hlt)
      rw [← getD_gt (by rw [unhide HN]; exact hlt)] at e0
      have CO := hide (fun w => orientS8 (l.getD i (0, 0)) (nxt l i) p w np nq (unhide HP))
      have bs := wiS_bd l p i
      have ES : wiS l p (i + 1) = wiS l p i + wiT (l.getD i (0, 0)) (nxt l i) p := rfl
      have ESH := hide ES
      clear ES
      generalize wiS l p i = s0 at *
      generalize nxt l i = y at *
      generalize l.getD i (0, 0) = x at *
      have ws : IntKind.i64.wrap (s0 + 1) = s0 + 1 := by rw [IntKind.wrap_i64]; omega
      have wt : IntKind.i64.wrap (s0 - 1) = s0 - 1 := by rw [IntKind.wrap_i64]; omega
      clear bs
      have E0 : wr.cell? ⟨b, off + i * 2, none⟩ = some (.int .i64 x.1) := ((unhide HB).cell (p := ⟨b, off + i * 2, none⟩) hb).trans (e0.1)
      have E1 : wr.cell? ⟨b, off + i * 2 + 1, none⟩ = some (.int .i64 x.2) := ((unhide HB).cell (p := ⟨b, off + i * 2 + 1, none⟩) hb).trans (e0.2)
      have p0 : wr.cell? ⟨w.heap.size, 0, none⟩ = some (.int .i64 p.1) := ((unhide HB).cell (p := ⟨w.heap.size, 0, none⟩) lt0).trans (unhide KP).1
      have p1 : wr.cell? ⟨w.heap.size, 1, none⟩ = some (.int .i64 p.2) := ((unhide HB).cell (p := ⟨w.heap.size, 1, none⟩) lt0).trans (unhide KP).2
      clear e0 hc np nq
      have al : Below wr.heap.size wr (wr.alloc (.cells #[.int .i64 x.1, .int .i64 x.2] 25)) := (Below.refl _ _).alloc (Nat.le_refl _) _
      have a0 : (wr.alloc (.cells #[.int .i64 x.1, .int .i64 x.2] 25)).cell? ⟨wr.heap.size, 0, none⟩ = some (.int .i64 x.1) := by simp [go_sem]
      have a1 : (wr.alloc (.cells #[.int .i64 x.1, .int .i64 x.2] 25)).cell? ⟨wr.heap.size, 1, none⟩ = some (.int .i64 x.2) := by simp [go_sem]
      replace p0 := cell_later al p0
      replace p1 := cell_later al p1
      have SW1 := hide ((unhide SW).later al)
      have HB1 := hide (below_on (unhide HB) al)
      clear al SW
      go_wp2_with fail
      refine (unhide CN _ (unhide SW1)).mono ?_
      rintro e w2 ⟨rfl, hb1⟩
      have al : Below w2.heap.size w2 (w2.alloc (.cells #[.int .i64 y.1, .int .i64 y.2] 25)) := (Below.refl _ _).alloc (Nat.le_refl _) _
      have bel := below_on hb1 al
      have b0 : (w2.alloc (.cells #[.int .i64 y.1, .int .i64 y.2] 25)).cell? ⟨w2.heap.size, 0, none⟩ = some (.int .i64 y.1) := by simp [go_sem]
      have b1 : (w2.alloc (.cells #[.int .i64 y.1, .int .i64 y.2] 25)).cell? ⟨w2.heap.size, 1, none⟩ = some (.int .i64 y.2) := by simp [go_sem]
      replace a0 := cell_later bel a0
      replace a1 := cell_later bel a1
      replace p0 := cell_later bel p0
      replace p1 := cell_later bel p1
      have HB2 := hide (below_on (unhide HB1) bel)
      have lt1 : wr.heap.size < w2.heap.size := by have := hb1.size; simp at this; omega
      have lt2 : w.heap.size < w2.heap.size := by have := (unhide HB).size; omega
      clear bel al hb1 E0 E1 SW1 HB1
      go_upto_region 6 with fail
      generalize w2.alloc (.cells #[.int .i64 y.1, .int .i64 y.2] 25) = w3 at *
      have ltx : wr.heap.size < w3.heap.size := World.block_lt_of_cell? _ _ a0
      generalize hsv : sgZ (crs x y p) = sv at CO
      by_cases c1 : x.2 ≤ p.2
      · have d1 : decide (x.2 ≤ p.2) = true := decide_eq_true c1
        have d1n : decide (p.2 < x.2) = false := decide_eq_false (by omega)
        by_cases c2 : p.2 < y.2
        · have d2 : decide (p.2 < y.2) = true := decide_eq_true c2
          have d2n : decide (y.2 ≤ p.2) = false := decide_eq_false (by omega)
          by_cases c3 : sv = 1
          · have q1 : (sv == 1) = true := by simp [c3]
            have q2 : (sv == -1) = false := by simp [c3]
            have EV : Hid (wiT x y p = 1) := hide (by unfold wiT upB dnB; simp [*])
            have EW : Hid (s0 + 1 = s0 + wiT x y p) := hide (by have := unhide EV; omega)
            go_wp2_with fail
            refine (unhide CO _).mono ?_
            rintro e w4 ⟨rfl, hb1⟩
            have bel := hb1
            replace a0 := cell_later bel a0
            replace a1 := cell_later bel a1
            replace b0 := cell_later bel b0
            replace b1 := cell_later bel b1
            replace p0 := cell_later bel p0
            replace p1 := cell_later bel p1
            replace HB2 := hide (below_on (unhide HB2) bel)
            clear bel hb1
            go_wp2
            go_roundw
            case rel => exact ⟨i + 1, by omega, by go_num, by rw [unhide ESH, ← unhide EW], HB2⟩
            case measure => simp [intOf]; omega
          · have q1 : (sv == 1) = false := by simp [c3]
            have EV : Hid (wiT x y p = 0) := hide (by unfold wiT upB dnB; simp [*])
            have EW : Hid (s0 = s0 + wiT x y p) := hide (by have := unhide EV; omega)
            go_wp2_with fail
            refine (unhide CO _).mono ?_
            rintro e w4 ⟨rfl, hb1⟩
            have bel := hb1
            replace a0 := cell_later bel a0
            replace a1 := cell_later bel a1
            replace b0 := cell_later bel b0
            replace b1 := cell_later bel b1
            replace p0 := cell_later bel p0
            replace p1 := cell_later bel p1
            replace HB2 := hide (below_on (unhide HB2) bel)
            clear bel hb1
            go_wp2
            go_roundw
            case rel => exact ⟨i + 1, by omega, by go_num, by rw [unhide ESH, ← unhide EW], HB2⟩
            case measure => simp [intOf]; omega
        · have d2 : decide (p.2 < y.2) = false := decide_eq_false c2
          have d2n : decide (y.2 ≤ p.2) = true := decide_eq_true (by omega)
          have EV : Hid (wiT x y p = 0) := hide (by unfold wiT upB dnB; simp [*])
          have EW : Hid (s0 = s0 + wiT x y p) := hide (by have := unhide EV; omega)
          go_wp2
          go_roundw
          case rel => exact ⟨i + 1, by omega, by go_num, by rw [unhide ESH, ← unhide EW], HB2⟩
          case measure => simp [intOf]; omega
      · have d1 : decide (x.2 ≤ p.2) = false := decide_eq_false c1
        have d1n : decide (p.2 < x.2) = true := decide_eq_true (by omega)
        by_cases c2 : y.2 ≤ p.2
        · have d2 : decide (y.2 ≤ p.2) = true := decide_eq_true c2
          have d2n : decide (p.2 < y.2) = false := decide_eq_false (by omega)
          by_cases c3 : sv = -1
          · have q1 : (sv == -1) = true := by simp [c3]
            have q2 : (sv == 1) = false := by simp [c3]
            have EV : Hid (wiT x y p = -1) := hide (by unfold wiT upB dnB; simp [*])
            have EW : Hid (s0 - 1 = s0 + wiT x y p) := hide (by have := unhide EV; omega)
            go_wp2_with fail
            refine (unhide CO _).mono ?_
            rintro e w4 ⟨rfl, hb1⟩
            have bel := hb1
            replace a0 := cell_later bel a0
            replace a1 := cell_later bel a1
            replace b0 := cell_later bel b0
            replace b1 := cell_later bel b1
            replace p0 := cell_later bel p0
            replace p1 := cell_later bel p1
            replace HB2 := hide (below_on (unhide HB2) bel)
            clear bel hb1
            go_wp2
            go_roundw
            case rel => exact ⟨i + 1, by omega, by go_num, by rw [unhide ESH, ← unhide EW], HB2⟩
            case measure => simp [intOf]; omega
          · have q1 : (sv == -1) = false := by simp [c3]
            have EV : Hid (wiT x y p = 0) := hide (by unfold wiT upB dnB; simp [*])
            have EW : Hid (s0 = s0 + wiT x y p) := hide (by have := unhide EV; omega)
            go_wp2_with fail
            refine (unhide CO _).mono ?_
            rintro e w4 ⟨rfl, hb1⟩
            have bel := hb1
            replace a0 := cell_later bel a0
            replace a1 := cell_later bel a1
            replace b0 := cell_later bel b0
            replace b1 := cell_later bel b1
            replace p0 := cell_later bel p0
            replace p1 := cell_later bel p1
            replace HB2 := hide (below_on (unhide HB2) bel)
            clear bel hb1
            go_wp2
            go_roundw
            case rel => exact ⟨i + 1, by omega, by go_num, by rw [unhide ESH, ← unhide EW], HB2⟩
            case measure => simp [intOf]; omega
        · have d2 : decide (y.2 ≤ p.2) = false := decide_eq_false c2
          have d2n : decide (p.2 < y.2) = true := decide_eq_true (by omega)
          have EV : Hid (wiT x y p = 0) := hide (by unfold wiT upB dnB; simp [*])
          have EW : Hid (s0 = s0 + wiT x y p) := hide (by have := unhide EV; omega)
          go_wp2
          go_roundw
          case rel => exact ⟨i + 1, by omega, by go_num, by rw [unhide ESH, ← unhide EW], HB2⟩
          case measure => simp [intOf]; omega
    · obtain rfl : i = n := by omega
      have EN : Hid (wiS l p i = wiS l p l.length) := hide (by rw [unhide HN])
      go_wp2
      go_ret
      exact ⟨by rw [← unhide EN]; rfl, below_on (unhide BA) (unhide HB)⟩
set_option maxHeartbeats 16000000 in
theorem crossS9 (a : Option Addr) (n c : Nat) (l : List (Int × Int)) (p : Int × Int) (w : World) (h : SlP w a l) (hn : l.length = n) (h0 : 0 < n) (h1 : n ≤ 1048000) (hg : ∀ p ∈ l, Near p) (hp : Near p) :
    Calls Try.prog 24 #[.slice a n c, .agg #[.int .i64 p.1, .int .i64 p.2]] w fun e w' => e = .returned (.int .i64 (crS l p l.length)) ∧ Below w.heap.size w w' := by
  have al0 : Below w.heap.size w (w.alloc (.cells #[.int .i64 p.1, .int .i64 p.2] 25)) := (Below.refl _ _).alloc (Nat.le_refl _) _
  have HS := hide (h.later al0)
  have HN := hide hn
  have HG := hide hg
  have HP := hide hp
  have KP : Hid ((w.alloc (.cells #[.int .i64 p.1, .int .i64 p.2] 25)).cell? ⟨w.heap.size, 0, none⟩ = some (.int .i64 p.1) ∧ (w.alloc (.cells #[.int .i64 p.1, .int .i64 p.2] 25)).cell? ⟨w.heap.size, 1, none⟩ = some (.int .i64 p.2)) := hide (by simp [go_sem])
  have BA := hide al0
  have lt0 : w.heap.size < (w.alloc (.cells #[.int .i64 p.1, .int .i64 p.2] 25)).heap.size := by simp
  clear h hn hg hp al0
  go_enter Try.func24, Try.ntmps24
  go_wp2
  generalize w.alloc (.cells #[.int .i64 p.1, .int .i64 p.2] 25) = w0 at *
  go_loopw [5, 13] (fun sv iv wr => ∃ i : Nat, i ≤ n ∧ iv = .int .i64 i ∧ sv = .int .i64 (crS l p i) ∧ Hid (Below w0.heap.size w0 wr)) (fun _ iv _ => n - (intOf iv).toNat)
  case atStart => exact ⟨0, Nat.zero_le _, rfl, rfl, hide (Below.refl _ _)⟩
  case round =>
    obtain ⟨i, hi, rfl, rfl, HB⟩ := hrel
    by_cases hlt : i < n
    · skip
      have hlt' : (i : Int) < (n : Int) := by omega
      have CN := hide (fun w (k : SlP w a l) => nextS a n c i l w k (unhide HN) (by omega) (by omega) (by omega))
      have SW := hide ((unhide HS).later (unhide HB))
      have np := getD_near9 (unhide HG) i
      have nq := unhide HG _ (nxt_mem (l := l) (by rw [unhide HN]; omega) i)
      rcases (unhide HS) with e | ⟨b, off, rfl, hb, hc⟩
      · exact absurd (unhide HN) (by rw [e]; simp; omega)
      have e0 := hc i (by rw [unhide HN]; exact hlt)
      rw [← getD_gt (by rw [unhide HN]; exact hlt)] at e0
      have CO := hide (fun w => orientS8 (l.getD i (0, 0)) (nxt l i) p w np nq (unhide HP))
      have bs := crS_bd l p i
      have ES : crS l p (i + 1) = crS l p i + crT (l.getD i (0, 0)) (nxt l i) p := rfl
      have ESH := hide ES
      clear ES
      generalize crS l p i = s0 at *
      generalize nxt l i = y at *
      generalize l.getD i (0, 0) = x at *
      have ws : IntKind.i64.wrap (s0 + 1) = s0 + 1 := by rw [IntKind.wrap_i64]; omega
      have wt : IntKind.i64.wrap (s0 - 1) = s0 - 1 := by rw [IntKind.wrap_i64]; omega
      clear bs
      have E0 : wr.cell? ⟨b, off + i * 2, none⟩ = some (.int .i64 x.1) := ((unhide HB).cell (p := ⟨b, off + i * 2, none⟩) hb).trans (e0.1)
      have E1 : wr.cell? ⟨b, off + i * 2 + 1, none⟩ = some (.int .i64 x.2) := ((unhide HB).cell (p := ⟨b, off + i * 2 + 1, none⟩) hb).trans (e0.2)
      have p0 : wr.cell? ⟨w.heap.size, 0, none⟩ = some (.int .i64 p.1) := ((unhide HB).cell (p := ⟨w.heap.size, 0, none⟩) lt0).trans (unhide KP).1
      have p1 : wr.cell? ⟨w.heap.size, 1, none⟩ = some (.int .i64 p.2) := ((unhide HB).cell (p := ⟨w.heap.size, 1, none⟩) lt0).trans (unhide KP).2
      clear e0 hc np nq
      have al : Below wr.heap.size wr (wr.alloc (.cells #[.int .i64 x.1, .int .i64 x.2] 25)) := (Below.refl _ _).alloc (Nat.le_refl _) _
      have a0 : (wr.alloc (.cells #[.int .i64 x.1, .int .i64 x.2] 25)).cell? ⟨wr.heap.size, 0, none⟩ = some (.int .i64 x.1) := by simp [go_sem]
      have a1 : (wr.alloc (.cells #[.int .i64 x.1, .int .i64 x.2] 25)).cell? ⟨wr.heap.size, 1, none⟩ = some (.int .i64 x.2) := by simp [go_sem]
      replace p0 := cell_later al p0
      replace p1 := cell_later al p1
      have SW1 := hide ((unhide SW).later al)
      have HB1 := hide (below_on (unhide HB) al)
      clear al SW
      go_wp2_with fail
      refine (unhide CN _ (unhide SW1)).mono ?_
      rintro e w2 ⟨rfl, hb1⟩
      have al : Below w2.heap.size w2 (w2.alloc (.cells #[.int .i64 y.1, .int .i64 y.2] 25)) := (Below.refl _ _).alloc (Nat.le_refl _) _
      have bel := below_on hb1 al
      have b0 : (w2.alloc (.cells #[.int .i64 y.1, .int .i64 y.2] 25)).cell? ⟨w2.heap.size, 0, none⟩ = some (.int .i64 y.1) := by simp [go_sem]
      have b1 : (w2.alloc (.cells #[.int .i64 y.1, .int .i64 y.2] 25)).cell? ⟨w2.heap.size, 1, none⟩ = some (.int .i64 y.2) := by simp [go_sem]
      replace a0 := cell_later bel a0
      replace a1 := cell_later bel a1
      replace p0 := cell_later bel p0
      replace p1 := cell_later bel p1
      have HB2 := hide (below_on (unhide HB1) bel)
      have lt1 : wr.heap.size < w2.heap.size := by have := hb1.size; simp at this; omega
      have lt2 : w.heap.size < w2.heap.size := by have := (unhide HB).size; omega
      clear bel al hb1 E0 E1 SW1 HB1
      go_upto_region 6 with fail
      generalize w2.alloc (.cells #[.int .i64 y.1, .int .i64 y.2] 25) = w3 at *
      have ltx : wr.heap.size < w3.heap.size := World.block_lt_of_cell? _ _ a0
      generalize hsv : sgZ (crs x y p) = sv at CO
      by_cases c1 : x.2 ≤ p.2
      · have d1 : decide (x.2 ≤ p.2) = true := decide_eq_true c1
        have d1n : decide (p.2 < x.2) = false := decide_eq_false (by omega)
        by_cases c2 : p.2 < y.2
        · have d2 : decide (p.2 < y.2) = true := decide_eq_true c2
          have d2n : decide (y.2 ≤ p.2) = false := decide_eq_false (by omega)
          by_cases c3 : sv = 1
          · have q1 : (sv == 1) = true := by simp [c3]
            have q2 : (sv == -1) = false := by simp [c3]
            have EV : Hid (crT x y p = 1) := hide (by unfold crT upB dnB; simp [*])
            have EW : Hid (s0 + 1 = s0 + crT x y p) := hide (by have := unhide EV; omega)
            go_wp2_with fail
            refine (unhide CO _).mono ?_
            rintro e w4 ⟨rfl, hb1⟩
            have bel := hb1
            replace a0 := cell_later bel a0
            replace a1 := cell_later bel a1
            replace b0 := cell_later bel b0
            replace b1 := cell_later bel b1
            replace p0 := cell_later bel p0
            replace p1 := cell_later bel p1
            replace HB2 := hide (below_on (unhide HB2) bel)
            clear bel hb1
            go_wp2
            go_roundw
            case rel => exact ⟨i + 1, by omega, by go_num, by rw [unhide ESH, ← unhide EW], HB2⟩
            case measure => simp [intOf]; omega
          · have q1 : (sv == 1) = false := by simp [c3]
            have EV : Hid (crT x y p = 0) := hide (by unfold crT upB dnB; simp [*])
            have EW : Hid (s0 = s0 + crT x y p) := hide (by have := unhide EV; omega)
            go_wp2_with fail
            refine (unhide CO _).mono ?_
            rintro e w4 ⟨rfl, hb1⟩
            have bel := hb1
            replace a0 := cell_later bel a0
            replace a1 := cell_later bel a1
            replace b0 := cell_later bel b0
            replace b1 := cell_later bel b1
            replace p0 := cell_later bel p0
            replace p1 := cell_later bel p1
            replace HB2 := hide (below_on (unhide HB2) bel)
            clear bel hb1
            go_wp2
            go_roundw
            case rel => exact ⟨i + 1, by omega, by go_num, by rw [unhide ESH, ← unhide EW], HB2⟩
            case measure => simp [intOf]; omega
        · have d2 : decide (p.2 < y.2) = false := decide_eq_false c2
          have d2n : decide (y.2 ≤ p.2) = true := decide_eq_true (by omega)
          have EV : Hid (crT x y p = 0) := hide (by unfold crT upB dnB; simp [*])
          have EW : Hid (s0 = s0 + crT x y p) := hide (by have := unhide EV; omega)
          go_wp2
          go_roundw
          case rel => exact ⟨i + 1, by omega, by go_num, by rw [unhide ESH, ← unhide EW], HB2⟩
          case measure => simp [intOf]; omega
      · have d1 : decide (x.2 ≤ p.2) = false := decide_eq_false c1
        have d1n : decide (p.2 < x.2) = true := decide_eq_true (by omega)
        by_cases c2 : y.2 ≤ p.2
        · have d2 : decide (y.2 ≤ p.2) = true := decide_eq_true c2
          have d2n : decide (p.2 < y.2) = false := decide_eq_false (by omega)
          by_cases c3 : sv = -1
          · have q1 : (sv == -1) = true := by simp [c3]
            have q2 : (sv == 1) = false := by simp [c3]
            have EV : Hid (crT x y p = 1) := hide (by unfold crT upB dnB; simp [*])
            have EW : Hid (s0 + 1 = s0 + crT x y p) := hide (by have := unhide EV; omega)
            go_wp2_with fail
            refine (unhide CO _).mono ?_
            rintro e w4 ⟨rfl, hb1⟩
            have bel := hb1
            replace a0 := cell_later bel a0
            replace a1 := cell_later bel a1
            replace b0 := cell_later bel b0
            replace b1 := cell_later bel b1
            replace p0 := cell_later bel p0
            replace p1 := cell_later bel p1
            replace HB2 := hide (below_on (unhide HB2) bel)
            clear bel hb1
            go_wp2
            go_roundw
            case rel => exact ⟨i + 1, by omega, by go_num, by rw [unhide ESH, ← unhide EW], HB2⟩
            case measure => simp [intOf]; omega
          · have q1 : (sv == -1) = false := by simp [c3]
            have EV : Hid (crT x y p = 0) := hide (by unfold crT upB dnB; simp [*])
            have EW : Hid (s0 = s0 + crT x y p) := hide (by have := unhide EV; omega)
            go_wp2_with fail
            refine (unhide CO _).mono ?_
            rintro e w4 ⟨rfl, hb1⟩
            have bel := hb1
            replace a0 := cell_later bel a0
            replace a1 := cell_later bel a1
            replace b0 := cell_later bel b0
            replace b1 := cell_later bel b1
            replace p0 := cell_later bel p0
            replace p1 := cell_later bel p1
            replace HB2 := hide (below_on (unhide HB2) bel)
            clear bel hb1
            go_wp2
            go_roundw
            case rel => exact ⟨i + 1, by omega, by go_num, by rw [unhide ESH, ← unhide EW], HB2⟩
            case measure => simp [intOf]; omega
        · have d2 : decide (y.2 ≤ p.2) = false := decide_eq_false c2
          have d2n : decide (p.2 < y.2) = true := decide_eq_true (by omega)
          have EV : Hid (crT x y p = 0) := hide (by unfold crT upB dnB; simp [*])
          have EW : Hid (s0 = s0 + crT x y p) := hide (by have := unhide EV; omega)
          go_wp2
          go_roundw
          case rel => exact ⟨i + 1, by omega, by go_num, by rw [unhide ESH, ← unhide EW], HB2⟩
          case measure => simp [intOf]; omega
    · obtain rfl : i = n := by omega
      have EN : Hid (crS l p i = crS l p l.length) := hide (by rw [unhide HN])
      go_wp2
      go_ret
      exact ⟨by rw [← unhide EN]; rfl, below_on (unhide BA) (unhide HB)⟩
def gWP (l : List (Int × Int)) (p : Int × Int) : Bool := wayB l && gPt p
def ooV (l : List (Int × Int)) (p : Int × Int) : Bool := if gWP l p then onK l p l.length else false
/-- Where a winding is told. -/
def offB (l : List (Int × Int)) (p : Int × Int) : Bool := gWP l p && !(onK l p l.length)
def wnV (l : List (Int × Int)) (p : Int × Int) : Int := if offB l p then wiS l p l.length else 0
def crV (l : List (Int × Int)) (p : Int × Int) : Int := if offB l p then crS l p l.length else 0
def inV (l : List (Int × Int)) (p : Int × Int) (ev : Bool) : Bool := if offB l p then (if ev then (crS l p l.length).tmod 2 == 1 else wiS l p l.length != 0) else false
theorem gWP_parts {l : List (Int × Int)} {p : Int × Int} (h : gWP l p = true) : (3 ≤ l.length ∧ l.length ≤ 12) ∧ (∀ q ∈ l, Near q) ∧ Near p := by
  unfold gWP at h
  have h2 := (Bool.and_eq_true _ _).mp h
  exact ⟨(way_parts h2.1).1, (way_parts h2.1).2, near_of h2.2⟩
set_option maxHeartbeats 2000000 in
theorem goodS9 (a : Option Addr) (n c : Nat) (l : List (Int × Int)) (p : Int × Int) (w : World) (h : SlP w a l) (hn : l.length = n) (hm : n ≤ maxLen) :
    Calls Try.prog 20 #[.slice a n c, .agg #[.int .i64 p.1, .int .i64 p.2]] w fun e w' => e = .returned (.bool (gWP l p)) ∧ Below w.heap.size w w' := by
  have C1 := hide (fun w (k : SlP w a l) => wayS a n c l w k hn hm)
  have C2 := hide (fun w => goodPS p.1 p.2 w)
  have HS := hide h
  clear h hn hm
  unfold gWP
  cases hg : wayB l
  · rw [hg] at C1
    clear hg
    have B0 := hide (show Below w.heap.size w (w.alloc (.cells #[.int .i64 p.1, .int .i64 p.2] 25)) from ((Below.refl _ _).alloc (by simp) _))
    go_enter Try.func20, Try.ntmps20
    go_wp2_with fail
    refine (unhide C1 _ ((unhide HS).later (unhide B0))).mono ?_
    rintro e w1 ⟨rfl, hb⟩
    have HB := hide (below_on (unhide B0) hb)
    clear hb
    go_wp2_with fail
    go_ret
    exact ⟨rfl, unhide HB⟩
  · rw [hg] at C1
    clear hg
    change Hid (∀ w, Calls _ _ _ w fun e w' => e = .returned (.bool (gPt p)) ∧ _) at C2
    generalize gPt p = r at *
    have B0 := hide (show Below w.heap.size w (w.alloc (.cells #[.int .i64 p.1, .int .i64 p.2] 25)) from ((Below.refl _ _).alloc (by simp) _))
    go_enter Try.func20, Try.ntmps20
    go_wp2_with fail
    refine (unhide C1 _ ((unhide HS).later (unhide B0))).mono ?_
    rintro e w1 ⟨rfl, hb⟩
    have k0_0 : w1.cell? ⟨w.heap.size, 0, none⟩ = some (.int .i64 p.1) := cell_later hb (by simp [go_sem])
    have k0_1 : w1.cell? ⟨w.heap.size, 1, none⟩ = some (.int .i64 p.2) := cell_later hb (by simp [go_sem])
    have HB := hide (below_on (unhide B0) hb)
    clear hb
    go_wp2_with fail
    refine (unhide C2 _).mono ?_
    rintro e w2 ⟨rfl, hb⟩
    clear k0_0 k0_1
    replace HB := hide (below_on (unhide HB) hb)
    clear hb
    go_wp2_with fail
    go_ret
    exact ⟨by cases r <;> rfl, unhide HB⟩
set_option maxHeartbeats 4000000 in
theorem OnWayS (a : Option Addr) (n c : Nat) (l : List (Int × Int)) (p : Int × Int) (w : World) (h : ArP w a n c l) (h1 : n ≤ 1048576) :
    Calls Try.prog 10 #[.slice a n c, .agg #[.int .i64 p.1, .int .i64 p.2]] w fun e w' => e = .returned (.tuple #[.bool (ooV l p), .bool (gWP l p)]) ∧ Below w.heap.size w w' := by
  have hn := h.len
  have C1 := hide (fun w (k : SlP w a l) => goodS9 a n c l p w k hn (by unfold maxLen; omega))
  have HS := hide h.sl
  clear h
  cases hg : gWP l p
  · have EV : ooV l p = false := by unfold ooV; rw [hg]; rfl
    rw [EV]
    rw [hg] at C1
    clear hg EV
    have B0 := hide (show Below w.heap.size w (w.alloc (.cells #[.int .i64 p.1, .int .i64 p.2] 25)) from ((Below.refl _ _).alloc (by simp) _))
    go_enter Try.func10, Try.ntmps10
    go_wp2_with fail
    refine (unhide C1 _ ((unhide HS).later (unhide B0))).mono ?_
    rintro e w1 ⟨rfl, hb⟩
    have HB := hide (below_on (unhide B0) hb)
    clear hb
    go_wp2_with fail
    go_ret2
    exact ⟨rfl, unhide HB⟩
  · have EV : ooV l p = onK l p l.length := by unfold ooV; rw [hg]; rfl
    have gp := gWP_parts hg
    have C2 := hide (fun w (k : SlP w a l) => onS9 a n c l p w k hn (by omega) (by omega) gp.2.1 gp.2.2)
    rw [EV]
    rw [hg] at C1
    clear hg EV gp hn
    generalize onK l p l.length = r at *
    have B0 := hide (show Below w.heap.size w (w.alloc (.cells #[.int .i64 p.1, .int .i64 p.2] 25)) from ((Below.refl _ _).alloc (by simp) _))
    go_enter Try.func10, Try.ntmps10
    go_wp2_with fail
    refine (unhide C1 _ ((unhide HS).later (unhide B0))).mono ?_
    rintro e w1 ⟨rfl, hb⟩
    have k0_0 : w1.cell? ⟨w.heap.size, 0, none⟩ = some (.int .i64 p.1) := cell_later hb (by simp [go_sem])
    have k0_1 : w1.cell? ⟨w.heap.size, 1, none⟩ = some (.int .i64 p.2) := cell_later hb (by simp [go_sem])
    have HB := hide (below_on (unhide B0) hb)
    clear hb
    go_wp2_with fail
    refine (unhide C2 _ ((unhide HS).later (unhide HB))).mono ?_
    rintro e w2 ⟨rfl, hb⟩
    clear k0_0 k0_1
    replace HB := hide (below_on (unhide HB) hb)
    clear hb
    go_wp2_with fail
    go_ret2
    exact ⟨rfl, unhide HB⟩
set_option maxHeartbeats 4000000 in
theorem WindingAtS (a : Option Addr) (n c : Nat) (l : List (Int × Int)) (p : Int × Int) (w : World) (h : ArP w a n c l) (h1 : n ≤ 1048576) :
    Calls Try.prog 6 #[.slice a n c, .agg #[.int .i64 p.1, .int .i64 p.2]] w fun e w' => e = .returned (.tuple #[.int .i64 (wnV l p), .bool (offB l p)]) ∧ Below w.heap.size w w' := by
  have hn := h.len
  have C1 := hide (fun w (k : SlP w a l) => goodS9 a n c l p w k hn (by unfold maxLen; omega))
  have HS := hide h.sl
  clear h
  cases hg : gWP l p
  · have EB : offB l p = false := by unfold offB; rw [hg]; rfl
    have EV : wnV l p = 0 := by unfold wnV; rw [EB]; rfl
    rw [EV, EB]
    rw [hg] at C1
    clear hg EV EB
    have B0 := hide (show Below w.heap.size w (w.alloc (.cells #[.int .i64 p.1, .int .i64 p.2] 25)) from ((Below.refl _ _).alloc (by simp) _))
    go_enter Try.func6, Try.ntmps6
    go_wp2_with fail
    refine (unhide C1 _ ((unhide HS).later (unhide B0))).mono ?_
    rintro e w1 ⟨rfl, hb⟩
    have HB := hide (below_on (unhide B0) hb)
    clear hb
    go_wp2_with fail
    go_ret2
    exact ⟨rfl, unhide HB⟩
  · have gp := gWP_parts hg
    have C2 := hide (fun w (k : SlP w a l) => onS9 a n c l p w k hn (by omega) (by omega) gp.2.1 gp.2.2)
    rw [hg] at C1
    cases ho : onK l p l.length
    · have EB : offB l p = true := by unfold offB; rw [hg, ho]; rfl
      have EV : wnV l p = wiS l p l.length := by unfold wnV; rw [EB]; rfl
      have C3 := hide (fun w (k : SlP w a l) => windS9 a n c l p w k hn (by omega) (by omega) gp.2.1 gp.2.2)
      rw [EV, EB]
      rw [ho] at C2
      clear hg EV EB ho gp hn
      generalize wiS l p l.length = r at *
      have B0 := hide (show Below w.heap.size w (w.alloc (.cells #[.int .i64 p.1, .int .i64 p.2] 25)) from ((Below.refl _ _).alloc (by simp) _))
      go_enter Try.func6, Try.ntmps6
      go_wp2_with fail
      refine (unhide C1 _ ((unhide HS).later (unhide B0))).mono ?_
      rintro e w1 ⟨rfl, hb⟩
      have k0_0 : w1.cell? ⟨w.heap.size, 0, none⟩ = some (.int .i64 p.1) := cell_later hb (by simp [go_sem])
      have k0_1 : w1.cell? ⟨w.heap.size, 1, none⟩ = some (.int .i64 p.2) := cell_later hb (by simp [go_sem])
      have HB := hide (below_on (unhide B0) hb)
      clear hb
      go_wp2_with fail
      refine (unhide C2 _ ((unhide HS).later (unhide HB))).mono ?_
      rintro e w2 ⟨rfl, hb⟩
      replace k0_0 := cell_later hb k0_0
      replace k0_1 := cell_later hb k0_1
      replace HB := hide (below_on (unhide HB) hb)
      clear hb
      go_wp2_with fail
      refine (unhide C3 _ ((unhide HS).later (unhide HB))).mono ?_
      rintro e w3 ⟨rfl, hb⟩
      clear k0_0 k0_1
      replace HB := hide (below_on (unhide HB) hb)
      clear hb
      go_wp2_with fail
      go_ret2
      exact ⟨rfl, unhide HB⟩
    · have EB : offB l p = false := by unfold offB; rw [hg, ho]; rfl
      have EV : wnV l p = 0 := by unfold wnV; rw [EB]; rfl
      rw [EV, EB]
      rw [ho] at C2
      clear hg EV EB ho gp hn
      have B0 := hide (show Below w.heap.size w (w.alloc (.cells #[.int .i64 p.1, .int .i64 p.2] 25)) from ((Below.refl _ _).alloc (by simp) _))
      go_enter Try.func6, Try.ntmps6
      go_wp2_with fail
      refine (unhide C1 _ ((unhide HS).later (unhide B0))).mono ?_
      rintro e w1 ⟨rfl, hb⟩
      have k0_0 : w1.cell? ⟨w.heap.size, 0, none⟩ = some (.int .i64 p.1) := cell_later hb (by simp [go_sem])
      have k0_1 : w1.cell? ⟨w.heap.size, 1, none⟩ = some (.int .i64 p.2) := cell_later hb (by simp [go_sem])
      have HB := hide (below_on (unhide B0) hb)
      clear hb
      go_wp2_with fail
      refine (unhide C2 _ ((unhide HS).later (unhide HB))).mono ?_
      rintro e w2 ⟨rfl, hb⟩
      clear k0_0 k0_1
      replace HB := hide (below_on (unhide HB) hb)
      clear hb
      go_wp2_with fail
      go_ret2
      exact ⟨rfl, unhide HB⟩
set_option maxHeartbeats 4000000 in
theorem CrossingsAtS (a : Option Addr) (n c : Nat) (l : List (Int × Int)) (p : Int × Int) (w : World) (h : ArP w a n c l) (h1 : n ≤ 1048576) :
    Calls Try.prog 8 #[.slice a n c, .agg #[.int .i64 p.1, .int .i64 p.2]] w fun e w' => e = .returned (.tuple #[.int .i64 (crV l p), .bool (offB l p)]) ∧ Below w.heap.size w w' := by
  have hn := h.len
  have C1 := hide (fun w (k : SlP w a l) => goodS9 a n c l p w k hn (by unfold maxLen; omega))
  have HS := hide h.sl
  clear h
  cases hg : gWP l p
  · have EB : offB l p = false := by unfold offB; rw [hg]; rfl
    have EV : crV l p = 0 := by unfold crV; rw [EB]; rfl
    rw [EV, EB]
    rw [hg] at C1
    clear hg EV EB
    have B0 := hide (show Below w.heap.size w (w.alloc (.cells #[.int .i64 p.1, .int .i64 p.2] 25)) from ((Below.refl _ _).alloc (by simp) _))
    go_enter Try.func8, Try.ntmps8
    go_wp2_with fail
    refine (unhide C1 _ ((unhide HS).later (unhide B0))).mono ?_
    rintro e w1 ⟨rfl, hb⟩
    have HB := hide (below_on (unhide B0) hb)
    clear hb
    go_wp2_with fail
    go_ret2
    exact ⟨rfl, unhide HB⟩
  · have gp := gWP_parts hg
    have C2 := hide (fun w (k : SlP w a l) => onS9 a n c l p w k hn (by omega) (by omega) gp.2.1 gp.2.2)
    rw [hg] at C1
    cases ho : onK l p l.length
    · have EB : offB l p = true := by unfold offB; rw [hg, ho]; rfl
      have EV : crV l p = crS l p l.length := by unfold crV; rw [EB]; rfl
      have C3 := hide (fun w (k : SlP w a l) => crossS9 a n c l p w k hn (by omega) (by omega) gp.2.1 gp.2.2)
      rw [EV, EB]
      rw [ho] at C2
      clear hg EV EB ho gp hn
      generalize crS l p l.length = r at *
      have B0 := hide (show Below w.heap.size w (w.alloc (.cells #[.int .i64 p.1, .int .i64 p.2] 25)) from ((Below.refl _ _).alloc (by simp) _))
      go_enter Try.func8, Try.ntmps8
      go_wp2_with fail
      refine (unhide C1 _ ((unhide HS).later (unhide B0))).mono ?_
      rintro e w1 ⟨rfl, hb⟩
      have k0_0 : w1.cell? ⟨w.heap.size, 0, none⟩ = some (.int .i64 p.1) := cell_later hb (by simp [go_sem])
      have k0_1 : w1.cell? ⟨w.heap.size, 1, none⟩ = some (.int .i64 p.2) := cell_later hb (by simp [go_sem])
      have HB := hide (below_on (unhide B0) hb)
      clear hb
      go_wp2_with fail
      refine (unhide C2 _ ((unhide HS).later (unhide HB))).mono ?_
      rintro e w2 ⟨rfl, hb⟩
      replace k0_0 := cell_later hb k0_0
      replace k0_1 := cell_later hb k0_1
      replace HB := hide (below_on (unhide HB) hb)
      clear hb
      go_wp2_with fail
      refine (unhide C3 _ ((unhide HS).later (unhide HB))).mono ?_
      rintro e w3 ⟨rfl, hb⟩
      clear k0_0 k0_1
      replace HB := hide (below_on (unhide HB) hb)
      clear hb
      go_wp2_with fail
      go_ret2
      exact ⟨rfl, unhide HB⟩
    · have EB : offB l p = false := by unfold offB; rw [hg, ho]; rfl
      have EV : crV l p = 0 := by unfold crV; rw [EB]; rfl
      rw [EV, EB]
      rw [ho] at C2
      clear hg EV EB ho gp hn
      have B0 := hide (show Below w.heap.size w (w.alloc (.cells #[.int .i64 p.1, .int .i64 p.2] 25)) from ((Below.refl _ _).alloc (by simp) _))
      go_enter Try.func8, Try.ntmps8
      go_wp2_with fail
      refine (unhide C1 _ ((unhide HS).later (unhide B0))).mono ?_
      rintro e w1 ⟨rfl, hb⟩
      have k0_0 : w1.cell? ⟨w.heap.size, 0, none⟩ = some (.int .i64 p.1) := cell_later hb (by simp [go_sem])
      have k0_1 : w1.cell? ⟨w.heap.size, 1, none⟩ = some (.int .i64 p.2) := cell_later hb (by simp [go_sem])
      have HB := hide (below_on (unhide B0) hb)
      clear hb
      go_wp2_with fail
      refine (unhide C2 _ ((unhide HS).later (unhide HB))).mono ?_
      rintro e w2 ⟨rfl, hb⟩
      clear k0_0 k0_1
      replace HB := hide (below_on (unhide HB) hb)
      clear hb
      go_wp2_with fail
      go_ret2
      exact ⟨rfl, unhide HB⟩
set_option maxHeartbeats 4000000 in
theorem InsideS (a : Option Addr) (n c : Nat) (l : List (Int × Int)) (p : Int × Int) (ev : Bool) (w : World) (h : ArP w a n c l) (h1 : n ≤ 1048576) :
    Calls Try.prog 16 #[.slice a n c, .agg #[.int .i64 p.1, .int .i64 p.2], .bool ev] w fun e w' => e = .returned (.tuple #[.bool (inV l p ev), .bool (offB l p)]) ∧ Below w.heap.size w w' := by
  have hn := h.len
  have C1 := hide (fun w (k : SlP w a l) => goodS9 a n c l p w k hn (by unfold maxLen; omega))
  have HS := hide h.sl
  clear h
  cases hg : gWP l p
  · have EB : offB l p = false := by unfold offB; rw [hg]; rfl
    have EV : inV l p ev = false := by unfold inV; rw [EB]; rfl
    rw [EV, EB]
    rw [hg] at C1
    clear hg EV EB
    have B0 := hide (show Below w.heap.size w (w.alloc (.cells #[.int .i64 p.1, .int .i64 p.2] 25)) from ((Below.refl _ _).alloc (by simp) _))
    go_enter Try.func16, Try.ntmps16
    go_wp2_with fail
    refine (unhide C1 _ ((unhide HS).later (unhide B0))).mono ?_
    rintro e w1 ⟨rfl, hb⟩
    have HB := hide (below_on (unhide B0) hb)
    clear hb
    go_wp2_with fail
    go_ret2
    exact ⟨rfl, unhide HB⟩
  · have gp := gWP_parts hg
    have C2 := hide (fun w (k : SlP w a l) => onS9 a n c l p w k hn (by omega) (by omega) gp.2.1 gp.2.2)
    rw [hg] at C1
    cases ho : onK l p l.length
    · have EB : offB l p = true := by unfold offB; rw [hg, ho]; rfl
      rw [ho] at C2
      rw [EB]
      cases ev
      · have EV : inV l p false = (wiS l p l.length != 0) := by unfold inV; rw [EB]; rfl
        have C3 := hide (fun w (k : SlP w a l) => windS9 a n c l p w k hn (by omega) (by omega) gp.2.1 gp.2.2)
        rw [EV]
        have bd := wiS_bd l p l.length
        have l12 := gp.1
        clear hg EV EB ho gp hn
        generalize wiS l p l.length = r at *
        clear bd l12
        have B0 := hide (show Below w.heap.size w (w.alloc (.cells #[.int .i64 p.1, .int .i64 p.2] 25)) from ((Below.refl _ _).alloc (by simp) _))
        go_enter Try.func16, Try.ntmps16
        go_wp2_with fail
        refine (unhide C1 _ ((unhide HS).later (unhide B0))).mono ?_
        rintro e w1 ⟨rfl, hb⟩
        have k0_0 : w1.cell? ⟨w.heap.size, 0, none⟩ = some (.int .i64 p.1) := cell_later hb (by simp [go_sem])
        have k0_1 : w1.cell? ⟨w.heap.size, 1, none⟩ = some (.int .i64 p.2) := cell_later hb (by simp [go_sem])
        have HB := hide (below_on (unhide B0) hb)
        clear hb
        go_wp2_with fail
        refine (unhide C2 _ ((unhide HS).later (unhide HB))).mono ?_
        rintro e w2 ⟨rfl, hb⟩
        replace k0_0 := cell_later hb k0_0
        replace k0_1 := cell_later hb k0_1
        replace HB := hide (below_on (unhide HB) hb)
        clear hb
        go_wp2_with fail
        refine (unhide C3 _ ((unhide HS).later (unhide HB))).mono ?_
        rintro e w3 ⟨rfl, hb⟩
        clear k0_0 k0_1
        replace HB := hide (below_on (unhide HB) hb)
        clear hb
        go_wp2_with fail
        go_ret2
        exact ⟨rfl, unhide HB⟩
      · have EV : inV l p true = ((crS l p l.length).tmod 2 == 1) := by unfold inV; rw [EB]; rfl
        have C3 := hide (fun w (k : SlP w a l) => crossS9 a n c l p w k hn (by omega) (by omega) gp.2.1 gp.2.2)
        rw [EV]
        have bd := crS_bd l p l.length
        have l12 := gp.1
        clear hg EV EB ho gp hn
        generalize crS l p l.length = r at *
        have wr : IntKind.i64.wrap (r.tmod 2) = r.tmod 2 := by rw [IntKind.wrap_i64, Int.tmod_eq_emod_of_nonneg (by omega)]; omega
        clear bd l12
        have B0 := hide (show Below w.heap.size w (w.alloc (.cells #[.int .i64 p.1, .int .i64 p.2] 25)) from ((Below.refl _ _).alloc (by simp) _))
        go_enter Try.func16, Try.ntmps16
        go_wp2_with fail
        refine (unhide C1 _ ((unhide HS).later (unhide B0))).mono ?_
        rintro e w1 ⟨rfl, hb⟩
        have k0_0 : w1.cell? ⟨w.heap.size, 0, none⟩ = some (.int .i64 p.1) := cell_later hb (by simp [go_sem])
        have k0_1 : w1.cell? ⟨w.heap.size, 1, none⟩ = some (.int .i64 p.2) := cell_later hb (by simp [go_sem])
        have HB := hide (below_on (unhide B0) hb)
        clear hb
        go_wp2_with fail
        refine (unhide C2 _ ((unhide HS).later (unhide HB))).mono ?_
        rintro e w2 ⟨rfl, hb⟩
        replace k0_0 := cell_later hb k0_0
        replace k0_1 := cell_later hb k0_1
        replace HB := hide (below_on (unhide HB) hb)
        clear hb
        go_wp2_with fail
        refine (unhide C3 _ ((unhide HS).later (unhide HB))).mono ?_
        rintro e w3 ⟨rfl, hb⟩
        clear k0_0 k0_1
        replace HB := hide (below_on (unhide HB) hb)
        clear hb
        go_wp2_with fail
        go_ret2
        exact ⟨rfl, unhide HB⟩
    · have EB : offB l p = false := by unfold offB; rw [hg, ho]; rfl
      have EV : inV l p ev = false := by unfold inV; rw [EB]; rfl
      rw [EV, EB]
      rw [ho] at C2
      clear hg EV EB ho gp hn
      have B0 := hide (show Below w.heap.size w (w.alloc (.cells #[.int .i64 p.1, .int .i64 p.2] 25)) from ((Below.refl _ _).alloc (by simp) _))
      go_enter Try.func16, Try.ntmps16
      go_wp2_with fail
      refine (unhide C1 _ ((unhide HS).later (unhide B0))).mono ?_
      rintro e w1 ⟨rfl, hb⟩
      have k0_0 : w1.cell? ⟨w.heap.size, 0, none⟩ = some (.int .i64 p.1) := cell_later hb (by simp [go_sem])
      have k0_1 : w1.cell? ⟨w.heap.size, 1, none⟩ = some (.int .i64 p.2) := cell_later hb (by simp [go_sem])
      have HB := hide (below_on (unhide B0) hb)
      clear hb
      go_wp2_with fail
      refine (unhide C2 _ ((unhide HS).later (unhide HB))).mono ?_
      rintro e w2 ⟨rfl, hb⟩
      clear k0_0 k0_1
      replace HB := hide (below_on (unhide HB) hb)
      clear hb
      go_wp2_with fail
      go_ret2
      exact ⟨rfl, unhide HB⟩
end Go.Proofs.Yteconjkjpalomaa
