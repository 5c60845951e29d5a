/- Chapter 10 of the specification: lists held against each other, the least point, points within. No condition beyond those typed. Written by mksm10.py. -/
import Derived.Test.YtgoiodhofbkkdaaCh10
import Derived.Test.YtgoiodhofbkkdaaSp9
import Derived.Test.YtgoiodhofbkkdaaSp10
namespace Go.Proofs.Ytgoiodhofbkkdaa
open Go.RowKit
set_option linter.unusedVariables false
set_option maxRecDepth 100000
set_option linter.unusedSimpArgs false

set_option maxHeartbeats 4000000 in
theorem same10 (a b : Option Addr) (n c m d : Nat) (l k : List (Int × Int)) (w : World) (h : SlP w a l) (h' : SlP w b k) (hn : l.length = n) (hm : k.length = m) (h1 : n ≤ 1048576) :
    Calls Try.prog 59 #[.slice a n c, .slice b m d] w fun e w' => e = .returned (.bool (decide (l = k))) ∧ Below w.heap.size w w' := by
  have HS := hide h
  have HS' := hide h'
  have HN := hide hn
  have HM := hide hm
  clear h hn h' hm
  by_cases hnm : n = m
  · subst hnm
    have nn : ((n : Int) != (n : Int)) = false := by simp
    go_enter Try.func59, Try.ntmps59
    go_wp2
    go_loopw [13] (fun iv wr => ∃ (i : Nat), i ≤ n ∧ iv = .int .i64 i ∧ Hid (∀ j, j < i → l.getD j (0, 0) = k.getD j (0, 0)) ∧ Hid (Below w.heap.size w wr)) (fun iv _ => n - (intOf iv).toNat)
    case atStart => exact ⟨0, Nat.zero_le _, rfl, hide (fun j hj => absurd hj (by omega)), hide (Below.refl _ _)⟩
    case round =>
      obtain ⟨i, hi, rfl, HE, HB⟩ := hrel
      by_cases hlt : i < n
      · have hlt' : (i : Int) < (n : Int) := by omega
        rcases (unhide HS) with e | ⟨b, off, rfl, hb, hc⟩
        · exact absurd (unhide HN) (by rw [e]; simp; omega)
        have e0 := hc i (by rw [unhide HN]; exact hlt)
        rcases (unhide HS') with e | ⟨b', off', rfl, hb', hc'⟩
        · exact absurd (unhide HM) (by rw [e]; simp; omega)
        have f0 := hc' i (by rw [unhide HM]; exact hlt)
        rw [← getD_gt (by rw [unhide HN]; exact hlt)] at e0
        rw [← getD_gt (by rw [unhide HM]; exact hlt)] at f0
        have HX : Hid (l.getD i (0, 0) ≠ k.getD i (0, 0) → decide (l = k) = false) := hide (fun hne => decide_eq_false (fun e => hne (by rw [e])))
        have HY : Hid (l.getD i (0, 0) = k.getD i (0, 0) → ∀ j, j < i + 1 → l.getD j (0, 0) = k.getD j (0, 0)) := hide (fun he j hj => by
          by_cases hji : j = i
          · subst hji; exact he
          · exact unhide HE j (by omega))
        generalize l.getD i (0, 0) = x at *
        generalize k.getD i (0, 0) = y at *
        clear hc hc' HE
        have E0 : wr.cell? ⟨b, off + i * 2, none⟩ = some (.int .i64 x.1) := ((unhide HB).cell (p := ⟨b, off + i * 2, none⟩) hb).trans (e0.1)
        have E1 : wr.cell? ⟨b, off + i * 2 + 1, none⟩ = some (.int .i64 x.2) := ((unhide HB).cell (p := ⟨b, off + i * 2 + 1, none⟩) hb).trans (e0.2)
        have F0 : wr.cell? ⟨b', off' + i * 2, none⟩ = some (.int .i64 y.1) := ((unhide HB).cell (p := ⟨b', off' + i * 2, none⟩) hb').trans (f0.1)
        have F1 : wr.cell? ⟨b', off' + i * 2 + 1, none⟩ = some (.int .i64 y.2) := ((unhide HB).cell (p := ⟨b', off' + i * 2 + 1, none⟩) hb').trans (f0.2)
        clear e0 f0
        by_cases h1 : x.1 = y.1
        · by_cases h2 : x.2 = y.2
          · have hxy : x = y := Prod.ext h1 h2
            have HZ := hide (unhide HY hxy)
            subst hxy
            have q1 : (x.1 == x.1) = true := by simp
            have q2 : (x.2 == x.2) = true := by simp
            clear h1 h2 HX HY
            go_upto_region 6 with fail
            go_region
            clear E0 F0 E1 F1
            go_wp2
            go_roundw
            case rel => exact ⟨i + 1, by omega, by go_num, HZ, hide (unhide HB).drew⟩
            case measure => simp [intOf]; omega
          · have EF := hide (unhide HX (fun e => h2 (by rw [e])))
            have q1 : (x.1 == y.1) = true := by simp [h1]
            have q2 : (x.2 == y.2) = false := by simp [h2]
            clear h1 h2 HX HY
            go_upto_region 6 with fail
            go_region
            clear E0 F0 E1 F1
            go_wp2
            go_ret
            exact ⟨by rw [unhide EF]; rfl, (unhide HB).drew⟩
        · have EF := hide (unhide HX (fun e => h1 (by rw [e])))
          have q1 : (x.1 == y.1) = false := by simp [h1]
          clear h1 HX HY
          go_upto_region 6 with fail
          go_region
          clear E0 F0 E1 F1
          go_wp2
          go_ret
          exact ⟨by rw [unhide EF]; rfl, (unhide HB).drew⟩
      · obtain rfl : i = n := by omega
        have EF : Hid (decide (l = k) = true) := hide (decide_eq_true (by
          apply List.ext_getElem
          · rw [unhide HN, unhide HM]
          · intro j h2 h3
            have := unhide HE j (by rw [← unhide HN]; exact h2)
            rw [getD_gt h2, getD_gt h3] at this
            exact this))
        go_wp2
        go_ret
        exact ⟨by rw [unhide EF]; rfl, unhide HB⟩
  · have EF : Hid (decide (l = k) = false) := hide (decide_eq_false (fun e => hnm (by rw [← unhide HN, ← unhide HM, e])))
    have nn : ((n : Int) != (m : Int)) = true := by simp; omega
    go_enter Try.func59, Try.ntmps59
    go_wp2
    go_ret
    exact ⟨by rw [unhide EF]; rfl, Below.refl _ _⟩
/-- Where the least one of the first i is. -/
def leK (l : List (Int × Int)) : Nat → Nat
  | 0 => 0
  | i + 1 => if ltP (l.getD i (0, 0)) (l.getD (leK l i) (0, 0)) then i else leK l i
theorem leK_lt (l : List (Int × Int)) : ∀ i, 0 < l.length → i ≤ l.length → leK l i < l.length
  | 0, h, _ => h
  | i + 1, h, hi => by unfold leK; have := leK_lt l i h (by omega); split <;> omega
set_option maxHeartbeats 4000000 in
theorem leastS (a : Option Addr) (n c : Nat) (l : List (Int × Int)) (w : World) (h : SlP w a l) (hn : l.length = n) (h0 : 0 < n) (h1 : n ≤ 1048576) :
    Calls Try.prog 89 #[.slice a n c] w fun e w' => e = .returned (.int .i64 ((leK l l.length : Nat) : Int)) ∧ Below w.heap.size w w' := by
  have HS := hide h
  have HN := hide hn
  clear h hn
  go_enter Try.func89, Try.ntmps89
  go_wp2
  go_loopw [3, 8] (fun kv iv wr => ∃ i : Nat, i ≤ n ∧ iv = .int .i64 i ∧ kv = .int .i64 ((leK l i : Nat) : Int) ∧ Hid (Below w.heap.size w wr)) (fun _ iv _ => n - (intOf iv).toNat)
  case atStart => exact ⟨0, Nat.zero_le _, rfl, rfl, hide (Below.refl _ _)⟩
  case round =>
    obtain ⟨i, hi, rfl, rfl, HB⟩ := hrel
    by_cases hlt : i < n
    · have hlt' : (i : Int) < (n : Int) := by omega
      rcases (unhide HS) with e | ⟨b, off, rfl, hb, hc⟩
      · exact absurd (unhide HN) (by rw [e]; simp; omega)
      have ql := leK_lt l i (by rw [unhide HN]; exact h0) (by rw [unhide HN]; omega)
      rw [unhide HN] at ql
      have e0 := hc i (by rw [unhide HN]; exact hlt)
      rw [← getD_gt (by rw [unhide HN]; exact hlt)] at e0
      have f0 := hc (leK l i) (by rw [unhide HN]; exact ql)
      rw [← getD_gt (by rw [unhide HN]; exact ql)] at f0
      have HV : Hid (leK l (i + 1) = if ltP (l.getD i (0, 0)) (l.getD (leK l i) (0, 0)) then i else leK l i) := hide (by rw [leK])
      generalize leK l i = q at *
      generalize l.getD i (0, 0) = x at *
      generalize l.getD q (0, 0) = y at *
      have E0 : wr.cell? ⟨b, off + i * 2, none⟩ = some (.int .i64 x.1) := ((unhide HB).cell (p := ⟨b, off + i * 2, none⟩) hb).trans (e0.1)
      have E1 : wr.cell? ⟨b, off + i * 2 + 1, none⟩ = some (.int .i64 x.2) := ((unhide HB).cell (p := ⟨b, off + i * 2 + 1, none⟩) hb).trans (e0.2)
      have g0 : wr.cell? ⟨b, off + q * 2, none⟩ = some (.int .i64 y.1) := ((unhide HB).cell (p := ⟨b, off + q * 2, none⟩) hb).trans (f0.1)
      have g1 : wr.cell? ⟨b, off + q * 2 + 1, none⟩ = some (.int .i64 y.2) := ((unhide HB).cell (p := ⟨b, off + q * 2 + 1, none⟩) hb).trans (f0.2)
      have CL := hide (fun w => lessS x y w)
      have qlt : (q : Int) < (n : Int) := by omega
      clear e0 f0 hc
      generalize ltP x y = v at *
      have al : Below wr.heap.size wr (wr.alloc (.cells #[.int .i64 x.1, .int .i64 x.2] 31)) := (Below.refl _ _).alloc (Nat.le_refl _) _
      have a0 : (wr.alloc (.cells #[.int .i64 x.1, .int .i64 x.2] 31)).cell? ⟨wr.heap.size, 0, none⟩ = some (.int .i64 x.1) := by simp [go_sem]
      have a1 : (wr.alloc (.cells #[.int .i64 x.1, .int .i64 x.2] 31)).cell? ⟨wr.heap.size, 1, none⟩ = some (.int .i64 x.2) := by simp [go_sem]
      replace g0 := cell_later al g0
      replace g1 := cell_later al g1
      have HB1 := hide (below_on (unhide HB) al)
      clear al
      go_upto_region 5 with fail
      clear E0 E1
      generalize wr.alloc (.cells #[.int .i64 x.1, .int .i64 x.2] 31) = w3 at *
      have HX0 : Hid True := hide trivial
      go_region_held3 (fun w' => w'.cell? ⟨wr.heap.size, 0, none⟩ = some (.int .i64 x.1) ∧ w'.cell? ⟨wr.heap.size, 1, none⟩ = some (.int .i64 x.2) ∧ w'.cell? ⟨b, off + q * 2, none⟩ = some (.int .i64 y.1) ∧ w'.cell? ⟨b, off + q * 2 + 1, none⟩ = some (.int .i64 y.2))
        (with_reducible (first | exact ⟨a0, a1, g0, g1⟩ | exact ⟨cdP a0, cdP a1, cdP g0, cdP g1⟩ | fail))
        (first
        | (have chk := HX0; go_at_call 76; refine (unhide CL _).mono ?_; rintro e w4 ⟨rfl, hb1⟩; have hbx := below_of_drew hb1; replace a0 := cell_later hbx a0; replace a1 := cell_later hbx a1; replace g0 := cell_later hbx g0; replace g1 := cell_later hbx g1; replace HB1 := hide (below_on (unhide HB1) hbx); clear hb1 hbx; clear HX0 chk)
        | fail)
      clear a0 a1 g0 g1 CL
      cases v
      · go_wp2
        go_roundw
        case rel => exact ⟨i + 1, by omega, by go_num, by rw [unhide HV]; rfl, HB1⟩
        case measure => simp [intOf]; omega
      · go_wp2
        go_roundw
        case rel => exact ⟨i + 1, by omega, by go_num, by rw [unhide HV]; rfl, HB1⟩
        case measure => simp [intOf]; omega
    · obtain rfl : i = n := by omega
      have HT : Hid (leK l i = leK l l.length) := hide (by rw [unhide HN])
      go_wp2
      go_ret
      exact ⟨by rw [← unhide HT]; rfl, unhide HB⟩
def haK (l : List (Int × Int)) (p : Int × Int) : Nat → Bool
  | 0 => true
  | k + 1 => haK l p k && !(decide (sgZ (crs (l.getD k (0, 0)) (nxt l k) p) < 0))
theorem haK_le {l : List (Int × Int)} {p : Int × Int} {k : Nat} : ∀ {m : Nat}, k ≤ m → haK l p k = false → haK l p m = false
  | 0, h, e => by have : k = 0 := by omega
                  subst this; exact e
  | m + 1, h, e => by
    by_cases hk : k = m + 1
    · subst hk; exact e
    · have := haK_le (m := m) (by omega) e
      unfold haK; rw [this]; rfl
set_option maxHeartbeats 8000000 in
theorem hasS10 (a : Option Addr) (n c : Nat) (l : List (Int × Int)) (p : Int × Int) (w : World) (h : SlP w a l) (hn : l.length = n) (h0 : 0 < n) (h1 : n ≤ 1048000) (hg : ∀ p ∈ l, Near p) (hp : Near p) :
    Calls Try.prog 69 #[.slice a n c, .agg #[.int .i64 p.1, .int .i64 p.2]] w fun e w' => e = .returned (.bool (haK l p l.length)) ∧ Below w.heap.size w w' := by
  have al0 : Below w.heap.size w (w.alloc (.cells #[.int .i64 p.1, .int .i64 p.2] 31)) := (Below.refl _ _).alloc (Nat.le_refl _) _
  have HS := hide (h.later al0)
  have HN := hide hn
  have HG := hide hg
  have HP := hide hp
  have KP : Hid ((w.alloc (.cells #[.int .i64 p.1, .int .i64 p.2] 31)).cell? ⟨w.heap.size, 0, none⟩ = some (.int .i64 p.1) ∧ (w.alloc (.cells #[.int .i64 p.1, .int .i64 p.2] 31)).cell? ⟨w.heap.size, 1, none⟩ = some (.int .i64 p.2)) := hide (by simp [go_sem])
  have BA := hide al0
  have lt0 : w.heap.size < (w.alloc (.cells #[.int .i64 p.1, .int .i64 p.2] 31)).heap.size := by simp
  clear h hn hg hp al0
  go_enter Try.func69, Try.ntmps69
  go_wp2
  generalize w.alloc (.cells #[.int .i64 p.1, .int .i64 p.2] 31) = w0 at *
  go_loopw [9] (fun iv wr => ∃ i : Nat, i ≤ n ∧ iv = .int .i64 i ∧ Hid (haK l p i = true) ∧ Hid (Below w0.heap.size w0 wr)) (fun iv _ => n - (intOf iv).toNat)
  case atStart => exact ⟨0, Nat.zero_le _, rfl, hide rfl, hide (Below.refl _ _)⟩
  case round =>
    obtain ⟨i, hi, rfl, HK, HB⟩ := hrel
    by_cases hlt : i < n
    · skip
      have hlt' : (i : Int) < (n : Int) := by omega
      have CN := hide (fun w (k : SlP w a l) => nextS a n c i l w k (unhide HN) (by omega) (by omega) (by omega))
      have SW := hide ((unhide HS).later (unhide HB))
      have np := getD_near9 (unhide HG) i
      have nq := unhide HG _ (nxt_mem (l := l) (by rw [unhide HN]; omega) i)
      rcases (unhide HS) with e | ⟨b, off, rfl, hb, hc⟩
      · exact absurd (unhide HN) (by rw [e]; simp; omega)
      have e0 := hc i (by rw [unhide HN]; exact hlt)
      rw [← getD_gt (by rw [unhide HN]; exact hlt)] at e0
      have CO := hide (fun w => orientS8 (l.getD i (0, 0)) (nxt l i) p w np nq (unhide HP))
      have HV : Hid (haK l p (i + 1) = !(decide (sgZ (crs (l.getD i (0, 0)) (nxt l i) p) < 0))) := hide (by show (haK l p i && _) = _; rw [unhide HK]; rfl)
      generalize sgZ (crs (l.getD i (0, 0)) (nxt l i) p) = sg at *
      generalize nxt l i = y at *
      generalize l.getD i (0, 0) = x at *
      have E0 : wr.cell? ⟨b, off + i * 2, none⟩ = some (.int .i64 x.1) := ((unhide HB).cell (p := ⟨b, off + i * 2, none⟩) hb).trans (e0.1)
      have E1 : wr.cell? ⟨b, off + i * 2 + 1, none⟩ = some (.int .i64 x.2) := ((unhide HB).cell (p := ⟨b, off + i * 2 + 1, none⟩) hb).trans (e0.2)
      have p0 : wr.cell? ⟨w.heap.size, 0, none⟩ = some (.int .i64 p.1) := ((unhide HB).cell (p := ⟨w.heap.size, 0, none⟩) lt0).trans (unhide KP).1
      have p1 : wr.cell? ⟨w.heap.size, 1, none⟩ = some (.int .i64 p.2) := ((unhide HB).cell (p := ⟨w.heap.size, 1, none⟩) lt0).trans (unhide KP).2
      clear e0 hc np nq
      have al : Below wr.heap.size wr (wr.alloc (.cells #[.int .i64 x.1, .int .i64 x.2] 31)) := (Below.refl _ _).alloc (Nat.le_refl _) _
      have a0 : (wr.alloc (.cells #[.int .i64 x.1, .int .i64 x.2] 31)).cell? ⟨wr.heap.size, 0, none⟩ = some (.int .i64 x.1) := by simp [go_sem]
      have a1 : (wr.alloc (.cells #[.int .i64 x.1, .int .i64 x.2] 31)).cell? ⟨wr.heap.size, 1, none⟩ = some (.int .i64 x.2) := by simp [go_sem]
      replace p0 := cell_later al p0
      replace p1 := cell_later al p1
      have SW1 := hide ((unhide SW).later al)
      have HB1 := hide (below_on (unhide HB) al)
      clear al SW
      by_cases hs : sg < 0
      · have ds : decide (sg < 0) = true := decide_eq_true hs
        have HT : Hid (haK l p l.length = false) := hide (haK_le (k := i + 1) (by rw [unhide HN]; omega) (by rw [unhide HV, ds]; rfl))
        clear hs
        go_upto_region 4 with fail
        clear E0 E1
        generalize wr.alloc (.cells #[.int .i64 x.1, .int .i64 x.2] 31) = w3 at *
        have HX0 : Hid True := hide trivial
        go_region_held3 (fun w' => w'.cell? ⟨wr.heap.size, 0, none⟩ = some (.int .i64 x.1) ∧ w'.cell? ⟨wr.heap.size, 1, none⟩ = some (.int .i64 x.2) ∧ w'.cell? ⟨w.heap.size, 0, none⟩ = some (.int .i64 p.1) ∧ w'.cell? ⟨w.heap.size, 1, none⟩ = some (.int .i64 p.2))
          (with_reducible (first | exact ⟨a0, a1, p0, p1⟩ | exact ⟨cdP a0, cdP a1, cdP p0, cdP p1⟩ | fail))
          (first
          | (have chk := HX0; go_at_call 91; refine (unhide CN _ ((unhide SW1).later (Below.refl _ _).drew)).mono ?_; rintro e w4 ⟨rfl, hb1⟩; have hbx := below_of_drew hb1; replace a0 := cell_later hbx a0; replace a1 := cell_later hbx a1; replace p0 := cell_later hbx p0; replace p1 := cell_later hbx p1; replace SW1 := hide ((unhide SW1).later hbx); replace HB1 := hide (below_on (unhide HB1) hbx); clear hb1 hbx; clear HX0 chk; have HX1 : Hid True := hide trivial)
          | (have chk := HX1; go_at_call 90; refine (unhide CO _).mono ?_; rintro e w5 ⟨rfl, hb1⟩; have hbx := hb1; replace a0 := cell_later hbx a0; replace a1 := cell_later hbx a1; replace p0 := cell_later hbx p0; replace p1 := cell_later hbx p1; replace SW1 := hide ((unhide SW1).later hbx); replace HB1 := hide (below_on (unhide HB1) hbx); clear hb1 hbx; clear HX1 chk)
          | fail)
        clear a0 a1 p0 p1 SW1
        go_wp2
        go_ret
        exact ⟨by rw [unhide HT]; rfl, below_on (unhide BA) (unhide HB1)⟩
      · have ds : decide (sg < 0) = false := decide_eq_false hs
        have HV2 : Hid (haK l p (i + 1) = true) := hide (by rw [unhide HV, ds]; rfl)
        clear hs HV
        go_upto_region 4 with fail
        clear E0 E1
        generalize wr.alloc (.cells #[.int .i64 x.1, .int .i64 x.2] 31) = w3 at *
        have HX0 : Hid True := hide trivial
        go_region_held3 (fun w' => w'.cell? ⟨wr.heap.size, 0, none⟩ = some (.int .i64 x.1) ∧ w'.cell? ⟨wr.heap.size, 1, none⟩ = some (.int .i64 x.2) ∧ w'.cell? ⟨w.heap.size, 0, none⟩ = some (.int .i64 p.1) ∧ w'.cell? ⟨w.heap.size, 1, none⟩ = some (.int .i64 p.2))
          (with_reducible (first | exact ⟨a0, a1, p0, p1⟩ | exact ⟨cdP a0, cdP a1, cdP p0, cdP p1⟩ | fail))
          (first
          | (have chk := HX0; go_at_call 91; refine (unhide CN _ ((unhide SW1).later (Below.refl _ _).drew)).mono ?_; rintro e w4 ⟨rfl, hb1⟩; have hbx := below_of_drew hb1; replace a0 := cell_later hbx a0; replace a1 := cell_later hbx a1; replace p0 := cell_later hbx p0; replace p1 := cell_later hbx p1; replace SW1 := hide ((unhide SW1).later hbx); replace HB1 := hide (below_on (unhide HB1) hbx); clear hb1 hbx; clear HX0 chk; have HX1 : Hid True := hide trivial)
          | (have chk := HX1; go_at_call 90; refine (unhide CO _).mono ?_; rintro e w5 ⟨rfl, hb1⟩; have hbx := hb1; replace a0 := cell_later hbx a0; replace a1 := cell_later hbx a1; replace p0 := cell_later hbx p0; replace p1 := cell_later hbx p1; replace SW1 := hide ((unhide SW1).later hbx); replace HB1 := hide (below_on (unhide HB1) hbx); clear hb1 hbx; clear HX1 chk)
          | fail)
        clear a0 a1 p0 p1 SW1
        go_wp2
        go_roundw
        case rel => exact ⟨i + 1, by omega, by go_num, HV2, HB1⟩
        case measure => simp [intOf]; omega
    · obtain rfl : i = n := by omega
      have HT : Hid (haK l p l.length = true) := hide (by rw [unhide HN]; exact unhide HK)
      go_wp2
      go_ret
      exact ⟨by rw [unhide HT]; rfl, below_on (unhide BA) (unhide HB)⟩
end Go.Proofs.Ytgoiodhofbkkdaa
