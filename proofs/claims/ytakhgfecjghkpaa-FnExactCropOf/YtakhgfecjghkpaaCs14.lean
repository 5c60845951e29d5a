/- CropOf of the specification. No condition beyond those typed. Written by mkcp14.py. -/
import Derived.Test.YtakhgfecjghkpaaCp14
import Derived.Maps.AppendAt
namespace Go.Proofs.Ytakhgfecjghkpaa
open Go.RowKit Go.ChangeMaps
set_option linter.unusedVariables false
set_option maxRecDepth 100000
set_option linter.unusedSimpArgs false

theorem byo_in (x : Int) : inR x 0 255 = !byo x := by
  unfold inR byo
  by_cases h1 : 0 ≤ x <;> by_cases h2 : x ≤ 255
  · rw [decide_eq_true h1, decide_eq_true h2, decide_eq_false (by omega), decide_eq_false (by omega)]; rfl
  · rw [decide_eq_true h1, decide_eq_false h2, decide_eq_false (by omega), decide_eq_true (by omega)]; rfl
  · rw [decide_eq_false h1, decide_eq_true h2, decide_eq_true (by omega)]; rfl
  · rw [decide_eq_false h1, decide_eq_true (show x < 0 by omega)]; rfl
set_option maxHeartbeats 4000000 in
theorem bytesS (a : Option Addr) (n c : Nat) (xs : List Int) (x y u v : Int) (w : World) (h : Arg w a n c xs) :
    Calls Try.prog 47 #[.agg #[.int .i64 x, .int .i64 y, .int .i64 u, .int .i64 v], .slice a n c] w fun e w' => e = .returned (.bool (!xs.any byo && (gW x y u v && ((n : Int) == u * v)))) ∧ Below w.heap.size w w' := by
  have hm : n ≤ maxLen := Nat.le_trans h.cap h.top
  have hn := h.len
  have C0 := hide (fun w => goodWS x y u v w)
  have HS := hide h.sl
  have HN := hide hn
  have UV : Hid (gW x y u v = true → IntKind.i64.wrap (u * v) = u * v) := hide (fun g => by have g0 := gW_in g; have := mul_in g0.2.2.1 g0.2.2.2; rw [IntKind.wrap_i64]; omega)
  clear h hn
  unfold maxLen at hm
  go_enter Try.func47, Try.ntmps47
  go_upto_region 1 with fail
  have hb : Below w.heap.size w (w.alloc (.cells #[.int .i64 x, .int .i64 y, .int .i64 u, .int .i64 v] 25)) := ((Below.refl _ _).alloc (by simp) _)
  have k0_0 : (w.alloc (.cells #[.int .i64 x, .int .i64 y, .int .i64 u, .int .i64 v] 25)).cell? ⟨w.heap.size, 0, none⟩ = some (.int .i64 x) := by simp [go_sem]
  have k0_1 : (w.alloc (.cells #[.int .i64 x, .int .i64 y, .int .i64 u, .int .i64 v] 25)).cell? ⟨w.heap.size, 1, none⟩ = some (.int .i64 y) := by simp [go_sem]
  have k0_2 : (w.alloc (.cells #[.int .i64 x, .int .i64 y, .int .i64 u, .int .i64 v] 25)).cell? ⟨w.heap.size, 2, none⟩ = some (.int .i64 u) := by simp [go_sem]
  have k0_3 : (w.alloc (.cells #[.int .i64 x, .int .i64 y, .int .i64 u, .int .i64 v] 25)).cell? ⟨w.heap.size, 3, none⟩ = some (.int .i64 v) := by simp [go_sem]
  have szw0 : w.heap.size + 1 ≤ (w.alloc (.cells #[.int .i64 x, .int .i64 y, .int .i64 u, .int .i64 v] 25)).heap.size := by simp
  have HB := hide hb
  clear hb
  generalize (w.alloc (.cells #[.int .i64 x, .int .i64 y, .int .i64 u, .int .i64 v] 25)) = w0 at *
  have K0_0 := hide k0_0
  have K0_1 := hide k0_1
  have K0_2 := hide k0_2
  have K0_3 := hide k0_3
  clear k0_0 k0_1 k0_2 k0_3
  have szW := (unhide HB).size
  have lt0 : w.heap.size < w0.heap.size := by omega
  go_wp2
  go_loopw [9] (fun iv wr => ∃ (i : Nat), i ≤ n ∧ iv = .int .i64 i ∧ Hid ((xs.take i).any byo = false) ∧ Hid (Below w0.heap.size w0 wr)) (fun iv _ => n - (intOf iv).toNat)
  case atStart => exact ⟨0, Nat.zero_le _, rfl, hide (by simp), hide (Below.refl _ _)⟩
  case round =>
    obtain ⟨i, hi, rfl, EA, HW⟩ := hrel
    by_cases hlt : i < n
    · have hlt' : (i : Int) < (n : Int) := by omega
      rcases unhide HS with e | ⟨b, off, rfl, hb, hc⟩
      · exact absurd (unhide HN) (by rw [e]; simp; omega)
      have e0 := hc i (by rw [unhide HN]; exact hlt)
      obtain ⟨y1, hy⟩ : ∃ y, y = xs.getD i 0 := ⟨_, rfl⟩
      rw [← hy] at e0
      have MY : Hid (y1 ∈ xs) := hide (by rw [hy, getD_at14 (by rw [unhide HN]; exact hlt)]; exact List.getElem_mem _)
      have TK : Hid (xs.take (i + 1) = xs.take i ++ [y1]) := hide (by rw [hy]; exact take_succ14 (xs := xs) (i := i) (by rw [unhide HN]; exact hlt))
      have E0 : wr.cell? ⟨b, off + i, none⟩ = some (.int .i64 y1) := ((unhide HW).cell (p := ⟨b, off + i, none⟩) (by show b < w0.heap.size; omega)).trans (((unhide HB).cell (p := ⟨b, off + i, none⟩) hb).trans e0)
      clear hy e0 hc
      have CC := hide (fun w1 => inS8 y1 0 255 w1)
      rw [byo_in] at CC
      cases hp : byo y1
      · rw [hp] at CC
        go_wp2_with fail
        refine (unhide CC _).mono ?_
        rintro e w1 ⟨rfl, rfl⟩
        clear E0 CC
        go_wp2
        go_roundw
        case rel => exact ⟨i + 1, by omega, by go_num, hide (by rw [unhide TK, List.any_append, unhide EA]; simp only [List.any_cons, List.any_nil]; rw [hp]; rfl), HW⟩
        case measure => simp [intOf]; omega
      · rw [hp] at CC
        have AN := hide (show xs.any byo = true from List.any_eq_true.2 ⟨y1, unhide MY, hp⟩)
        go_wp2_with fail
        refine (unhide CC _).mono ?_
        rintro e w1 ⟨rfl, rfl⟩
        clear E0 CC
        go_wp2
        go_ret
        exact ⟨by rw [unhide AN]; rfl, below_on (unhide HB) (unhide HW)⟩
    · obtain rfl : i = n := by omega
      have EL := hide (show xs.any byo = false from by have := unhide EA; rw [← unhide HN, List.take_length] at this; exact this)
      have k0_0 := ((unhide HW).cell (p := ⟨w.heap.size, 0, none⟩) lt0).trans (unhide K0_0)
      have k0_1 := ((unhide HW).cell (p := ⟨w.heap.size, 1, none⟩) lt0).trans (unhide K0_1)
      have k0_2 := ((unhide HW).cell (p := ⟨w.heap.size, 2, none⟩) lt0).trans (unhide K0_2)
      have k0_3 := ((unhide HW).cell (p := ⟨w.heap.size, 3, none⟩) lt0).trans (unhide K0_3)
      cases hg : gW x y u v
      · rw [hg] at C0
        have HG := hide hg
        clear UV hg
        go_wp2_with fail
        refine (unhide C0 _).mono ?_
        rintro e w2 ⟨rfl, hb⟩
        have H2 := hide (below_on (unhide HB) (below_on (unhide HW) hb))
        clear hb
        go_wp2
        go_ret
        exact ⟨by rw [unhide EL, unhide HG]; rfl, unhide H2⟩
      · rw [hg] at C0
        have iw := unhide UV hg
        have HG := hide hg
        clear hg
        go_wp2_with fail
        refine (unhide C0 _).mono ?_
        rintro e w2 ⟨rfl, hb⟩
        have H2 := hide (below_on (unhide HB) (below_on (unhide HW) hb))
        replace k0_2 := cell_later hb k0_2
        replace k0_3 := cell_later hb k0_3
        clear hb
        go_wp2
        go_ret
        exact ⟨by rw [unhide EL, unhide HG]; rfl, unhide H2⟩
theorem withinS (x y u v x2 y2 u2 v2 : Int) (w : World) (hx : -100 ≤ x ∧ x ≤ 100) (hy : -100 ≤ y ∧ y ≤ 100) (hu : -100 ≤ u ∧ u ≤ 100) (hv : -100 ≤ v ∧ v ≤ 100) :
    Calls Try.prog 48 #[.agg #[.int .i64 x, .int .i64 y, .int .i64 u, .int .i64 v], .agg #[.int .i64 x2, .int .i64 y2, .int .i64 u2, .int .i64 v2]] w fun e w' => e = .returned (.bool (gW x2 y2 u2 v2 && inW x y u v x2 y2 u2 v2)) ∧ Below w.heap.size w w' := by
  have C0 := hide (fun w => goodWS x2 y2 u2 v2 w)
  cases hg : gW x2 y2 u2 v2
  · rw [hg] at C0
    clear hg hx hy hu hv
    have B0 := hide (show Below w.heap.size w ((w.alloc (.cells #[.int .i64 x, .int .i64 y, .int .i64 u, .int .i64 v] 25)).alloc (.cells #[.int .i64 x2, .int .i64 y2, .int .i64 u2, .int .i64 v2] 25)) from (((Below.refl _ _).alloc (by simp) _).alloc (by simp) _))
    go_enter Try.func48, Try.ntmps48
    go_wp2_with fail
    refine (unhide C0 _).mono ?_
    rintro e w1 ⟨rfl, hb⟩
    have k0_0 : w1.cell? ⟨w.heap.size, 0, none⟩ = some (.int .i64 x) := cell_later hb (by simp [go_sem])
    have k0_1 : w1.cell? ⟨w.heap.size, 1, none⟩ = some (.int .i64 y) := cell_later hb (by simp [go_sem])
    have k0_2 : w1.cell? ⟨w.heap.size, 2, none⟩ = some (.int .i64 u) := cell_later hb (by simp [go_sem])
    have k0_3 : w1.cell? ⟨w.heap.size, 3, none⟩ = some (.int .i64 v) := cell_later hb (by simp [go_sem])
    have k1_0 : w1.cell? ⟨w.heap.size + 1, 0, none⟩ = some (.int .i64 x2) := cell_later hb (by simp [go_sem])
    have k1_1 : w1.cell? ⟨w.heap.size + 1, 1, none⟩ = some (.int .i64 y2) := cell_later hb (by simp [go_sem])
    have k1_2 : w1.cell? ⟨w.heap.size + 1, 2, none⟩ = some (.int .i64 u2) := cell_later hb (by simp [go_sem])
    have k1_3 : w1.cell? ⟨w.heap.size + 1, 3, none⟩ = some (.int .i64 v2) := cell_later hb (by simp [go_sem])
    have HB := hide (below_on (unhide B0) hb)
    clear hb
    go_wp2_with fail
    go_ret
    exact ⟨rfl, unhide HB⟩
  · rw [hg] at C0
    have g1 := gW_in hg
    have i1 : IntKind.i64.wrap (x2 + u2) = x2 + u2 := by rw [IntKind.wrap_i64]; omega
    have i2 : IntKind.i64.wrap (x + u) = x + u := by rw [IntKind.wrap_i64]; omega
    have i3 : IntKind.i64.wrap (y2 + v2) = y2 + v2 := by rw [IntKind.wrap_i64]; omega
    have i4 : IntKind.i64.wrap (y + v) = y + v := by rw [IntKind.wrap_i64]; omega
    clear hg g1 hx hy hu hv
    have HC := C0
    clear C0
    cases d1 : decide (x ≤ x2) <;> cases d2 : decide (y ≤ y2) <;> cases d3 : decide (x2 + u2 ≤ x + u) <;> cases d4 : decide (y2 + v2 ≤ y + v)
    all_goals
      have C0 := HC
      have e0 : inW x y u v x2 y2 u2 v2 = ((decide (x ≤ x2) && decide (x2 + u2 ≤ x + u)) && (decide (y ≤ y2) && decide (y2 + v2 ≤ y + v))) := rfl
      rw [d1, d2, d3, d4] at e0
      rw [e0]
      have B0 := hide (show Below w.heap.size w ((w.alloc (.cells #[.int .i64 x, .int .i64 y, .int .i64 u, .int .i64 v] 25)).alloc (.cells #[.int .i64 x2, .int .i64 y2, .int .i64 u2, .int .i64 v2] 25)) from (((Below.refl _ _).alloc (by simp) _).alloc (by simp) _))
      go_enter Try.func48, Try.ntmps48
      go_wp2_with fail
      refine (unhide C0 _).mono ?_
      rintro e w1 ⟨rfl, hb⟩
      have k0_0 : w1.cell? ⟨w.heap.size, 0, none⟩ = some (.int .i64 x) := cell_later hb (by simp [go_sem])
      have k0_1 : w1.cell? ⟨w.heap.size, 1, none⟩ = some (.int .i64 y) := cell_later hb (by simp [go_sem])
      have k0_2 : w1.cell? ⟨w.heap.size, 2, none⟩ = some (.int .i64 u) := cell_later hb (by simp [go_sem])
      have k0_3 : w1.cell? ⟨w.heap.size, 3, none⟩ = some (.int .i64 v) := cell_later hb (by simp [go_sem])
      have k1_0 : w1.cell? ⟨w.heap.size + 1, 0, none⟩ = some (.int .i64 x2) := cell_later hb (by simp [go_sem])
      have k1_1 : w1.cell? ⟨w.heap.size + 1, 1, none⟩ = some (.int .i64 y2) := cell_later hb (by simp [go_sem])
      have k1_2 : w1.cell? ⟨w.heap.size + 1, 2, none⟩ = some (.int .i64 u2) := cell_later hb (by simp [go_sem])
      have k1_3 : w1.cell? ⟨w.heap.size + 1, 3, none⟩ = some (.int .i64 v2) := cell_later hb (by simp [go_sem])
      have HB := hide (below_on (unhide B0) hb)
      clear hb
      go_wp2_with fail
      go_ret
      exact ⟨rfl, unhide HB⟩
theorem crB_eq (xs : List Int) (x y u v x2 y2 u2 v2 : Int) : crB xs x y u v x2 y2 u2 v2 = ((!xs.any byo && (gW x y u v && ((xs.length : Int) == u * v))) && (gW x2 y2 u2 v2 && inW x y u v x2 y2 u2 v2)) := by
  unfold crB
  generalize gW x y u v = a1
  generalize gW x2 y2 u2 v2 = a2
  generalize inW x y u v x2 y2 u2 v2 = a3
  generalize ((xs.length : Int) == u * v) = a4
  generalize xs.any byo = a5
  cases a1 <;> cases a2 <;> cases a3 <;> cases a4 <;> cases a5 <;> rfl
theorem take_more (xs : List Int) (f j : Nat) (h : f + j < xs.length) : (xs.drop f).take (j + 1) = (xs.drop f).take j ++ [xs.getD (f + j) 0] := by
  rw [List.take_succ_eq_append_getElem (by rw [List.length_drop]; omega), List.getElem_drop, getD_at14 h]
set_option maxHeartbeats 16000000 in
theorem CropS (a : Option Addr) (n c : Nat) (xs : List Int) (x y u v x2 y2 u2 v2 : Int) (w : World) (h : Arg w a n c xs) (h1 : n ≤ 1048576) :
    Calls Try.prog 23 #[.agg #[.int .i64 x, .int .i64 y, .int .i64 u, .int .i64 v], .slice a n c, .agg #[.int .i64 x2, .int .i64 y2, .int .i64 u2, .int .i64 v2]] w fun e w' => ∃ a' n' c', e = .returned (.tuple #[.slice a' n' c', .bool (crB xs x y u v x2 y2 u2 v2)]) ∧ Below w.heap.size w w' ∧ RtI w.heap.size w' a' n' c' (crV xs x y u v x2 y2 u2 v2) ∧ n' ≤ 1048576 := by
  have hn := h.len
  obtain ⟨i0, hi, hz0, hz1, hz2⟩ := info_parts Try.info3
  have HA := hide h
  clear h
  rw [crB_eq]
  have C0 := hide (fun w (k : Arg w a n c xs) => bytesS a n c xs x y u v w k)
  rw [show ((n : Int) == u * v) = ((xs.length : Int) == u * v) by rw [hn]] at C0
  cases b0 : (!xs.any byo && (gW x y u v && ((xs.length : Int) == u * v)))
  · have hV : crV xs x y u v x2 y2 u2 v2 = [] := by unfold crV; rw [crB_eq, b0]; rfl
    rw [hV]
    clear hV
    rw [b0] at C0
    clear hn hi hz0 hz1 hz2 b0
    have B0 := hide (show Below w.heap.size w ((w.alloc (.cells #[.int .i64 x, .int .i64 y, .int .i64 u, .int .i64 v] 25)).alloc (.cells #[.int .i64 x2, .int .i64 y2, .int .i64 u2, .int .i64 v2] 25)) from (((Below.refl _ _).alloc (by simp) _).alloc (by simp) _))
    go_enter Try.func23, Try.ntmps23
    replace HA := hide ((unhide HA).later (unhide B0))
    go_wp2_with fail
    refine (unhide C0 _ (unhide HA)).mono ?_
    rintro e w1 ⟨rfl, hb⟩
    have k0_0 : w1.cell? ⟨w.heap.size, 0, none⟩ = some (.int .i64 x) := cell_later hb (by simp [go_sem])
    have k0_1 : w1.cell? ⟨w.heap.size, 1, none⟩ = some (.int .i64 y) := cell_later hb (by simp [go_sem])
    have k0_2 : w1.cell? ⟨w.heap.size, 2, none⟩ = some (.int .i64 u) := cell_later hb (by simp [go_sem])
    have k0_3 : w1.cell? ⟨w.heap.size, 3, none⟩ = some (.int .i64 v) := cell_later hb (by simp [go_sem])
    have k1_0 : w1.cell? ⟨w.heap.size + 1, 0, none⟩ = some (.int .i64 x2) := cell_later hb (by simp [go_sem])
    have k1_1 : w1.cell? ⟨w.heap.size + 1, 1, none⟩ = some (.int .i64 y2) := cell_later hb (by simp [go_sem])
    have k1_2 : w1.cell? ⟨w.heap.size + 1, 2, none⟩ = some (.int .i64 u2) := cell_later hb (by simp [go_sem])
    have k1_3 : w1.cell? ⟨w.heap.size + 1, 3, none⟩ = some (.int .i64 v2) := cell_later hb (by simp [go_sem])
    replace HA := hide ((unhide HA).later hb)
    have HB := hide (below_on (unhide B0) hb)
    clear hb
    go_wp2_with fail
    go_ret2
    exact ⟨none, 0, 0, rfl, unhide HB, ⟨rfl, .inl rfl⟩, by omega⟩
  · have g4 : (xs.any byo = false ∧ gW x y u v = true ∧ ((xs.length : Int) == u * v) = true) := by
      simp only [Bool.and_eq_true, Bool.not_eq_true'] at b0
      exact b0
    have g0 := gW_in g4.2.1
    have g3 : (xs.length : Int) = u * v := by simpa using g4.2.2
    have C1 := hide (fun w => withinS x y u v x2 y2 u2 v2 w (by omega) (by omega) (by omega) (by omega))
    cases b1 : (gW x2 y2 u2 v2 && inW x y u v x2 y2 u2 v2)
    · have hV : crV xs x y u v x2 y2 u2 v2 = [] := by unfold crV; rw [crB_eq, b0, b1]; rfl
      rw [hV]
      clear hV
      rw [b0] at C0
      rw [b1] at C1
      clear hn hi hz0 hz1 hz2 g0 g3 g4 b0 b1
      have B0 := hide (show Below w.heap.size w ((w.alloc (.cells #[.int .i64 x, .int .i64 y, .int .i64 u, .int .i64 v] 25)).alloc (.cells #[.int .i64 x2, .int .i64 y2, .int .i64 u2, .int .i64 v2] 25)) from (((Below.refl _ _).alloc (by simp) _).alloc (by simp) _))
      go_enter Try.func23, Try.ntmps23
      replace HA := hide ((unhide HA).later (unhide B0))
      go_wp2_with fail
      refine (unhide C0 _ (unhide HA)).mono ?_
      rintro e w1 ⟨rfl, hb⟩
      have k0_0 : w1.cell? ⟨w.heap.size, 0, none⟩ = some (.int .i64 x) := cell_later hb (by simp [go_sem])
      have k0_1 : w1.cell? ⟨w.heap.size, 1, none⟩ = some (.int .i64 y) := cell_later hb (by simp [go_sem])
      have k0_2 : w1.cell? ⟨w.heap.size, 2, none⟩ = some (.int .i64 u) := cell_later hb (by simp [go_sem])
      have k0_3 : w1.cell? ⟨w.heap.size, 3, none⟩ = some (.int .i64 v) := cell_later hb (by simp [go_sem])
      have k1_0 : w1.cell? ⟨w.heap.size + 1, 0, none⟩ = some (.int .i64 x2) := cell_later hb (by simp [go_sem])
      have k1_1 : w1.cell? ⟨w.heap.size + 1, 1, none⟩ = some (.int .i64 y2) := cell_later hb (by simp [go_sem])
      have k1_2 : w1.cell? ⟨w.heap.size + 1, 2, none⟩ = some (.int .i64 u2) := cell_later hb (by simp [go_sem])
      have k1_3 : w1.cell? ⟨w.heap.size + 1, 3, none⟩ = some (.int .i64 v2) := cell_later hb (by simp [go_sem])
      replace HA := hide ((unhide HA).later hb)
      have HB := hide (below_on (unhide B0) hb)
      clear hb
      go_wp2_with fail
      refine (unhide C1 _).mono ?_
      rintro e w2 ⟨rfl, hb⟩
      replace k0_0 := cell_later hb k0_0
      replace k0_1 := cell_later hb k0_1
      replace k0_2 := cell_later hb k0_2
      replace k0_3 := cell_later hb k0_3
      replace k1_0 := cell_later hb k1_0
      replace k1_1 := cell_later hb k1_1
      replace k1_2 := cell_later hb k1_2
      replace k1_3 := cell_later hb k1_3
      replace HA := hide ((unhide HA).later hb)
      replace HB := hide (below_on (unhide HB) hb)
      clear hb
      go_wp2_with fail
      go_ret2
      exact ⟨none, 0, 0, rfl, unhide HB, ⟨rfl, .inl rfl⟩, by omega⟩
    · have g5 : gW x2 y2 u2 v2 = true ∧ inW x y u v x2 y2 u2 v2 = true := by
        simp only [Bool.and_eq_true] at b1
        exact b1
      have g1 := gW_in g5.1
      have g2 := inW_in g5.2
      have hV : crV xs x y u v x2 y2 u2 v2 = cr xs (((y2 - y) * u + (x2 - x)).toNat) u.toNat u2.toNat v2.toNat := by unfold crV; rw [crB_eq, b0, b1]; rfl
      rw [hV]
      rw [b0] at C0
      rw [b1] at C1
      clear b0 b1 hV g4 g5
      obtain ⟨U, rfl⟩ : ∃ U : Nat, u = (U : Int) := ⟨u.toNat, by omega⟩
      obtain ⟨V, rfl⟩ : ∃ V : Nat, v = (V : Int) := ⟨v.toNat, by omega⟩
      obtain ⟨U2, rfl⟩ : ∃ U2 : Nat, u2 = (U2 : Int) := ⟨u2.toNat, by omega⟩
      obtain ⟨V2, rfl⟩ : ∃ V2 : Nat, v2 = (V2 : Int) := ⟨v2.toNat, by omega⟩
      obtain ⟨dx, rfl⟩ : ∃ dx : Nat, x2 = x + (dx : Int) := ⟨(x2 - x).toNat, by omega⟩
      obtain ⟨dy, rfl⟩ : ∃ dy : Nat, y2 = y + (dy : Int) := ⟨(y2 - y).toNat, by omega⟩
      rw [cr_eq]
      have nUV : n = U * V := by
        have e : ((n : Nat) : Int) = ((U * V : Nat) : Int) := by rw [← hn, g3]; simp
        omega
      obtain ⟨X, hX⟩ : ∃ X : Int, X = x + (dx : Int) := ⟨_, rfl⟩
      obtain ⟨Y, hY⟩ : ∃ Y : Int, Y = y + (dy : Int) := ⟨_, rfl⟩
      have ROW : Hid (∀ k, k < V2 → dy * U + dx + k * U + U2 ≤ n ∧ (dy + k) * U + dx = dy * U + dx + k * U) := hide (fun k hk => by
        have e : (dy + k) * U = dy * U + k * U := Nat.add_mul _ _ _
        have l : (dy + k + 1) * U ≤ V * U := Nat.mul_le_mul_right U (by omega)
        have e2 : (dy + k + 1) * U = dy * U + k * U + U := by rw [Nat.add_mul, e]; omega
        rw [nUV, Nat.mul_comm U V]
        omega)
      have n64 : n ≤ 64 := by rw [nUV]; exact Nat.mul_le_mul (show U ≤ 8 by omega) (show V ≤ 8 by omega)
      have CLN : Hid (∀ k, k ≤ V2 → (cr xs (dy * U + dx) U U2 k).length = k * U2) := hide (fun k hk => cr_len k (fun j hj => by have := (unhide ROW j (by omega)).1; rw [hn]; exact this))
      obtain ⟨Y9, hY9⟩ : ∃ Y9 : Int, Y9 = Y + V2 := ⟨_, rfl⟩
      have iw9 : IntKind.i64.wrap (Y + (V2 : Int)) = Y9 := by rw [hY9, hY, IntKind.wrap_i64]; omega
      obtain ⟨X9, hX9⟩ : ∃ X9 : Int, X9 = X + U2 := ⟨_, rfl⟩
      have iwx9 : IntKind.i64.wrap (X + (U2 : Int)) = X9 := by rw [hX9, hX, IntKind.wrap_i64]; omega
      have uv8 : (1 ≤ U2 ∧ U2 ≤ 8 ∧ dx + U2 ≤ U ∧ U ≤ 8) ∧ (1 ≤ V2 ∧ V2 ≤ 8 ∧ dy + V2 ≤ V ∧ V ≤ 8) := by omega
      have xy : (-20 ≤ x ∧ x ≤ 20) ∧ (-20 ≤ y ∧ y ≤ 20) := ⟨g0.1, g0.2.1⟩
      rw [← hX, ← hY] at C1 ⊢
      have HX := hide hX
      have HY := hide hY
      have HX9 := hide hX9
      have HY9 := hide hY9
      have HN := hide hn
      have HQ := hide nUV
      have GG := hide (And.intro uv8 xy)
      clear hX hY hX9 hY9 g0 g1 g2 g3 nUV hn uv8 xy
      have B0 := hide (show Below w.heap.size w ((w.alloc (.cells #[.int .i64 x, .int .i64 y, .int .i64 (U : Int), .int .i64 (V : Int)] 25)).alloc (.cells #[.int .i64 X, .int .i64 Y, .int .i64 (U2 : Int), .int .i64 (V2 : Int)] 25)) from (((Below.refl _ _).alloc (by simp) _).alloc (by simp) _))
      go_enter Try.func23, Try.ntmps23
      replace HA := hide ((unhide HA).later (unhide B0))
      go_wp2_with fail
      refine (unhide C0 _ (unhide HA)).mono ?_
      rintro e w1 ⟨rfl, hb⟩
      have k0_0 : w1.cell? ⟨w.heap.size, 0, none⟩ = some (.int .i64 x) := cell_later hb (by simp [go_sem])
      have k0_1 : w1.cell? ⟨w.heap.size, 1, none⟩ = some (.int .i64 y) := cell_later hb (by simp [go_sem])
      have k0_2 : w1.cell? ⟨w.heap.size, 2, none⟩ = some (.int .i64 (U : Int)) := cell_later hb (by simp [go_sem])
      have k0_3 : w1.cell? ⟨w.heap.size, 3, none⟩ = some (.int .i64 (V : Int)) := cell_later hb (by simp [go_sem])
      have k1_0 : w1.cell? ⟨w.heap.size + 1, 0, none⟩ = some (.int .i64 X) := cell_later hb (by simp [go_sem])
      have k1_1 : w1.cell? ⟨w.heap.size + 1, 1, none⟩ = some (.int .i64 Y) := cell_later hb (by simp [go_sem])
      have k1_2 : w1.cell? ⟨w.heap.size + 1, 2, none⟩ = some (.int .i64 (U2 : Int)) := cell_later hb (by simp [go_sem])
      have k1_3 : w1.cell? ⟨w.heap.size + 1, 3, none⟩ = some (.int .i64 (V2 : Int)) := cell_later hb (by simp [go_sem])
      replace HA := hide ((unhide HA).later hb)
      have HB := hide (below_on (unhide B0) hb)
      clear hb
      go_wp2_with fail
      refine (unhide C1 _).mono ?_
      rintro e w2 ⟨rfl, hb⟩
      replace k0_0 := cell_later hb k0_0
      replace k0_1 := cell_later hb k0_1
      replace k0_2 := cell_later hb k0_2
      replace k0_3 := cell_later hb k0_3
      replace k1_0 := cell_later hb k1_0
      replace k1_1 := cell_later hb k1_1
      replace k1_2 := cell_later hb k1_2
      replace k1_3 := cell_later hb k1_3
      replace HA := hide ((unhide HA).later hb)
      replace HB := hide (below_on (unhide HB) hb)
      clear hb
      replace B0 := (unhide HB).size
      have K0_0 := hide k0_0
      have K0_1 := hide k0_1
      have K0_2 := hide k0_2
      have K0_3 := hide k0_3
      have K1_0 := hide k1_0
      have K1_1 := hide k1_1
      have K1_2 := hide k1_2
      have K1_3 := hide k1_3
      have lt0 := World.block_lt_of_cell? _ _ k0_0
      have lt1 := World.block_lt_of_cell? _ _ k1_0
      clear k0_0 k0_1 k0_2 k0_3 k1_0 k1_2 k1_3
      go_wp2
      clear k1_1
      go_loopw [8, 9] (fun rv yv wr => ∃ (k : Nat) (Yk : Int), k ≤ V2 ∧ yv = .int .i64 Yk ∧ Hid (Yk = Y + k) ∧ Hid (RwI w2.heap.size wr rv (cr xs (dy * U + dx) U U2 k)) ∧ Hid (Below w2.heap.size w2 wr)) (fun _ yv _ => (Y9 - intOf yv).toNat)
      case atStart => exact ⟨0, Y, Nat.zero_le _, rfl, hide (by simp), hide (RwI.nil _ _), hide (Below.refl _ _)⟩
      case round =>
        obtain ⟨k, Yk, hk, rfl, HYk, HR, HW⟩ := hrel
        have y9 := unhide HY9
        have yk := unhide HYk
        have k1_1 := ((unhide HW).cell (p := ⟨w.heap.size + 1, 1, none⟩) lt1).trans (unhide K1_1)
        have k1_3 := ((unhide HW).cell (p := ⟨w.heap.size + 1, 3, none⟩) lt1).trans (unhide K1_3)
        have k1_0 := ((unhide HW).cell (p := ⟨w.heap.size + 1, 0, none⟩) lt1).trans (unhide K1_0)
        by_cases hlt : k < V2
        · have c1 : Yk < Y9 := by omega
          clear y9 yk
          go_upto_region 8 with fail
          clear k1_1 k1_3 k1_0
          go_loopw [8, 10] (fun rv xv wr => ∃ (j : Nat) (Xj : Int), j ≤ U2 ∧ xv = .int .i64 Xj ∧ Hid (Xj = X + j) ∧ Hid (RwI w2.heap.size wr rv (cr xs (dy * U + dx) U U2 k ++ (xs.drop (dy * U + dx + k * U)).take j)) ∧ Hid (Below w2.heap.size w2 wr)) (fun _ xv _ => (X9 - intOf xv).toNat)
          case atStart => exact ⟨0, X, Nat.zero_le _, rfl, hide (by simp), hide (by rw [List.take_zero, List.append_nil]; exact unhide HR), HW⟩
          case round =>
            clear HR HW
            obtain ⟨j, Xj, hj, rfl, HXj, HR, HW⟩ := hrel
            have x9 := unhide HX9
            have xj := unhide HXj
            have k1_0 := ((unhide HW).cell (p := ⟨w.heap.size + 1, 0, none⟩) lt1).trans (unhide K1_0)
            have k1_2 := ((unhide HW).cell (p := ⟨w.heap.size + 1, 2, none⟩) lt1).trans (unhide K1_2)
            have k0_0 := ((unhide HW).cell (p := ⟨w.heap.size, 0, none⟩) lt0).trans (unhide K0_0)
            have k0_1 := ((unhide HW).cell (p := ⟨w.heap.size, 1, none⟩) lt0).trans (unhide K0_1)
            have k0_2 := ((unhide HW).cell (p := ⟨w.heap.size, 2, none⟩) lt0).trans (unhide K0_2)
            by_cases hlj : j < U2
            · have c2 : Xj < X9 := by omega
              obtain ⟨f, hf⟩ : ∃ f, f = dy * U + dx + k * U := ⟨_, rfl⟩
              obtain ⟨g, hg⟩ : ∃ g, g = f + j := ⟨_, rfl⟩
              obtain ⟨r, hr⟩ : ∃ r, r = (dy + k) * U := ⟨_, rfl⟩
              have RO := unhide ROW k hlt
              have hfr : f = r + dx := by omega
              have gn : g < n := by omega
              have gg := unhide GG
              have hY := unhide HY
              have hX := unhide HX
              have yk := unhide HYk
              obtain ⟨q, hq⟩ : ∃ q : Int, q = (dy : Int) + k := ⟨_, rfl⟩
              have iw1 : IntKind.i64.wrap (Yk - y) = q := by rw [IntKind.wrap_i64]; omega
              have iw2 : IntKind.i64.wrap (q * (U : Int)) = (r : Int) := by
                have e : q * (U : Int) = (r : Int) := by rw [hq, hr]; simp
                rw [e, IntKind.wrap_i64]; omega
              obtain ⟨z, hz⟩ : ∃ z : Int, z = (r : Int) + Xj := ⟨_, rfl⟩
              have iw3 : IntKind.i64.wrap ((r : Int) + Xj) = z := by rw [IntKind.wrap_i64]; omega
              have iw4 : IntKind.i64.wrap (z - x) = (g : Int) := by rw [IntKind.wrap_i64]; omega
              obtain ⟨Xj2, hXj2⟩ : ∃ X2 : Int, X2 = Xj + 1 := ⟨_, rfl⟩
              have iw6 : IntKind.i64.wrap (Xj + 1) = Xj2 := by rw [IntKind.wrap_i64]; omega
              have HXj2 := hide (show Xj2 = X + ((j + 1 : Nat) : Int) by omega)
              have HQ2 := hide (show Xj2 = Xj + 1 from hXj2)
              have gn' : (g : Int) < (n : Int) := by omega
              rw [← hf] at HR
              have TM : Hid (cr xs (dy * U + dx) U U2 k ++ (xs.drop f).take (j + 1) = (cr xs (dy * U + dx) U U2 k ++ (xs.drop f).take j) ++ [xs.getD g 0]) := hide (by rw [take_more xs f j (by rw [unhide HN]; omega), ← hg, List.append_assoc])
              rcases (unhide HA).sl with e | ⟨b, off, rfl, hb, hc⟩
              · exact absurd (unhide HN) (by rw [e]; simp; omega)
              have e0 := ((unhide HW).cell (p := ⟨b, off + g, none⟩) hb).trans (hc g (by rw [unhide HN]; exact gn))
              generalize xs.getD g 0 = E at *
              have LL : (cr xs (dy * U + dx) U U2 k ++ (xs.drop f).take j).length ≤ 128 := by
                have := unhide CLN k (by omega)
                have := Nat.mul_le_mul (show k ≤ 8 by omega) (show U2 ≤ 8 by omega)
                rw [List.length_append, List.length_take]
                omega
              have szr := (unhide HW).size
              generalize cr xs (dy * U + dx) U U2 k ++ (xs.drop f).take j = L0 at *
              clear x9 xj RO hfr gg hY hX yk hq hr hz hXj2 hg hc
              go_wp2_with (at_builtin; refine wpList_append_own_at _ rfl (.tmp 43) (.tmp 59) 28 rfl w2.heap.size 3 i0 (.int .i64 0) 1 8 Try.underlying28 hi hz0 hz1 hz2 rfl (by decide) _ _ _ rfl ((unhide HR).row.alloc _) ⟨_, 0, none⟩ 1 1 [.int .i64 E] rfl rfl (new_cellI _ _) (fun u hu => by simp at hu; subst hu; rfl) (by unfold maxLen; omega) (by omega) (by simp; omega) ?_)
              intro v' w6 hown hgr _ _
              have R6 : Hid (RwI w2.heap.size w6 v' (cr xs (dy * U + dx) U U2 k ++ (xs.drop (dy * U + dx + k * U)).take (j + 1))) := hide (by rw [← hf, unhide TM]; exact RwI.snoc hown)
              have B6 := hide (owns_belowR (unhide HW) szr (unhide HR).row hgr)
              clear hown hgr
              go_wp2
              go_roundw
              case rel => exact ⟨j + 1, Xj2, by omega, rfl, HXj2, R6, B6⟩
              case measure => have := unhide HQ2; simp [intOf]; omega
            · have c2 : ¬ (Xj < X9) := by omega
              obtain rfl : j = U2 := by omega
              have RX : Hid (RwI w2.heap.size wr u8 (cr xs (dy * U + dx) U j (k + 1))) := HR
              obtain ⟨Yk2, hYk2⟩ : ∃ Y2 : Int, Y2 = Yk + 1 := ⟨_, rfl⟩
              have gg := unhide GG
              have hY := unhide HY
              have yk := unhide HYk
              have iw6 : IntKind.i64.wrap (Yk + 1) = Yk2 := by rw [IntKind.wrap_i64]; omega
              have HYk2 := hide (show Yk2 = Y + ((k + 1 : Nat) : Int) by omega)
              have HQ2 := hide (show Yk2 = Yk + 1 from hYk2)
              clear x9 xj gg hY yk hYk2
              go_wp2
              go_roundw
              case rel => exact ⟨k + 1, Yk2, by omega, rfl, HYk2, RX, HW⟩
              case measure => have := unhide HQ2; simp [intOf]; omega
        · have c1 : ¬ (Yk < Y9) := by omega
          obtain rfl : k = V2 := by omega
          have LE : (cr xs (dy * U + dx) U U2 k).length ≤ 1048576 := by
            have := unhide CLN k (by omega)
            have gg := unhide GG
            have := Nat.mul_le_mul (show k ≤ 8 by omega) (show U2 ≤ 8 by omega)
            omega
          obtain ⟨a', c', rfl, rt⟩ := (unhide HR).rt
          clear y9 yk
          go_wp2
          go_ret2
          exact ⟨a', _, c', rfl, below_on (unhide HB) (unhide HW), rt.mono B0, LE⟩
end Go.Proofs.Ytakhgfecjghkpaa
