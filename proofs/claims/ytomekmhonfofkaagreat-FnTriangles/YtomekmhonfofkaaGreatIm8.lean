/- Chapter 8 of the program: points in range, turns, segments, greatest divisors. No condition beyond those typed. Written by mkim8.py. -/
import Derived.Test.YtomekmhonfofkaaGreatSp8X
import Derived.Test.YtomekmhonfofkaaGreatSp8M
import Derived.Test.YtomekmhonfofkaaGreatLaw2
import Derived.BigQuiet
namespace Go.Proofs.YtomekmhonfofkaaGreat
open Go.RowKit
set_option linter.unusedVariables false
set_option maxRecDepth 100000
set_option linter.unusedSimpArgs false

theorem withinI (n far : Int) (w : World) (h0 : 0 ≤ far) (h1 : far ≤ 1000000) :
    Calls Tryz.prog 80 #[.int .i64 n, .int .i64 far] w fun e w' => e = .returned (.bool (inR n (-far) far)) ∧ w' = w := by
  unfold inR
  have iw : IntKind.i64.wrap (-far) = -far := by rw [IntKind.wrap_i64]; omega
  clear h0 h1
  cases d1 : decide (-far ≤ n) <;> cases d2 : decide (n ≤ far) <;>
    (go_enter Tryz.func80, Tryz.ntmps80
     go_wp2
     go_ret
     exact ⟨rfl, rfl⟩)
theorem goodPI (x y : Int) (w : World) :
    Calls Tryz.prog 58 #[.agg #[.int .i64 x, .int .i64 y]] w fun e w' => e = .returned (.bool (gPt (x, y))) ∧ Below w.heap.size w w' := by
  unfold gPt
  cases h1 : inR x (-1000) 1000
  · have C1 := hide (fun w => withinI x 1000 w (by omega) (by omega))
    rw [h1] at C1
    go_enter Tryz.func58, Tryz.ntmps58
    go_wp2_with fail
    refine (unhide C1 _).mono ?_
    rintro e w1 ⟨rfl, rfl⟩
    go_wp2_with fail
    go_ret
    exact ⟨rfl, (Below.refl _ _).alloc (Nat.le_refl _) _⟩
  · have C1 := hide (fun w => withinI x 1000 w (by omega) (by omega))
    have C2 := hide (fun w => withinI y 1000 w (by omega) (by omega))
    rw [h1] at C1
    generalize inR y (-1000) 1000 = r at *
    go_enter Tryz.func58, Tryz.ntmps58
    go_wp2_with fail
    refine (unhide C1 _).mono ?_
    rintro e w1 ⟨rfl, rfl⟩
    go_wp2_with fail
    refine (unhide C2 _).mono ?_
    rintro e w1 ⟨rfl, rfl⟩
    go_wp2_with fail
    go_ret
    exact ⟨by cases r <;> rfl, (Below.refl _ _).alloc (Nat.le_refl _) _⟩
set_option maxHeartbeats 2000000 in
theorem ptsI (a : Option Addr) (n c : Nat) (l : List (Int × Int)) (w : World) (h : SlP w a l) (hn : l.length = n) (hm : n ≤ maxLen) :
    Calls Tryz.prog 35 #[.slice a n c] w fun e w' => e = .returned (.bool (l.all gPt)) ∧ Below w.heap.size w w' := by
  have HS := hide h
  have HN := hide hn
  clear h hn
  unfold maxLen at hm
  go_enter Tryz.func35, Tryz.ntmps35
  go_wp2
  go_loopw [7] (fun iv wr => ∃ i : Nat, i ≤ n ∧ iv = .int .i64 i ∧ Hid ((l.take i).all gPt = true) ∧ Hid (Below w.heap.size w wr)) (fun iv _ => n - (intOf iv).toNat)
  case atStart => exact ⟨0, Nat.zero_le _, rfl, hide rfl, hide (Below.refl _ _)⟩
  case round =>
    obtain ⟨i, hi, rfl, HA, HB⟩ := hrel
    by_cases hlt : i < n
    · have hlt' : (i : Int) < (n : Int) := by omega
      rcases (unhide HS) with e | ⟨b, off, rfl, hb, hc⟩
      · exact absurd (unhide HN) (by rw [e]; simp; omega)
      have e0 := hc i (by rw [unhide HN]; exact hlt)
      obtain ⟨y, hy⟩ : ∃ y, y = l[i]'(by rw [unhide HN]; exact hlt) := ⟨_, rfl⟩
      rw [← hy] at e0
      have MY : Hid (y ∈ l) := hide (by rw [hy]; exact List.getElem_mem _)
      have TK : Hid ((l.take (i + 1)).all gPt = gPt y) := hide (by rw [take_succP (by rw [unhide HN]; exact hlt), List.all_append, unhide HA, ← hy]; simp)
      clear hy hc
      have E0 : wr.cell? ⟨b, off + i * 2, none⟩ = some (.int .i64 y.1) := ((unhide HB).cell (p := ⟨b, off + i * 2, none⟩) hb).trans (e0.1)
      have E1 : wr.cell? ⟨b, off + i * 2 + 1, none⟩ = some (.int .i64 y.2) := ((unhide HB).cell (p := ⟨b, off + i * 2 + 1, none⟩) hb).trans (e0.2)
      clear e0
      have C1 := hide (fun w => goodPI y.1 y.2 w)
      cases hg : gPt y
      · have hg2 : gPt (y.1, y.2) = false := hg
        rw [hg2] at C1
        have NA : Hid (l.all gPt = false) := hide (by rw [List.all_eq_false]; exact ⟨y, unhide MY, by rw [hg]; simp⟩)
        go_wp2_with fail
        refine (unhide C1 _).mono ?_
        rintro e w1 ⟨rfl, hb1⟩
        have HB1 := hide (below_on (below_on (unhide HB) ((Below.refl _ _).alloc (Nat.le_refl _) _)) hb1)
        clear hb1 E0 E1
        go_wp2
        go_ret
        exact ⟨by rw [unhide NA]; rfl, unhide HB1⟩
      · have hg2 : gPt (y.1, y.2) = true := hg
        rw [hg2] at C1
        go_wp2_with fail
        refine (unhide C1 _).mono ?_
        rintro e w1 ⟨rfl, hb1⟩
        have HB1 := hide (below_on (below_on (unhide HB) ((Below.refl _ _).alloc (Nat.le_refl _) _)) hb1)
        clear hb1 E0 E1
        go_wp2
        go_roundw
        case rel => exact ⟨i + 1, by omega, by go_num, hide (by rw [unhide TK, hg]), HB1⟩
        case measure => simp [intOf]; omega
    · obtain rfl : i = n := by omega
      have EA : Hid (l.all gPt = true) := hide (by have := unhide HA; rw [← unhide HN, List.take_length] at this; exact this)
      go_wp2
      go_ret
      exact ⟨by rw [unhide EA]; rfl, unhide HB⟩
set_option maxHeartbeats 4000000 in
theorem wayI (a : Option Addr) (n c : Nat) (l : List (Int × Int)) (w : World) (h : SlP w a l) (hn : l.length = n) (hm : n ≤ maxLen) :
    Calls Tryz.prog 47 #[.slice a n c] w fun e w' => e = .returned (.bool (wayB l)) ∧ Below w.heap.size w w' := by
  have C2 := hide (fun w (k : SlP w a l) => ptsI a n c l w k hn hm)
  have HS := hide h
  unfold wayB inR
  rw [hn]
  clear h hn hm
  cases d1 : decide ((3 : Int) ≤ (n : Int)) <;> cases d2 : decide ((n : Int) ≤ 12)
  · go_enter Tryz.func47, Tryz.ntmps47
    go_wp2_with fail
    go_ret
    exact ⟨rfl, Below.refl _ _⟩
  · go_enter Tryz.func47, Tryz.ntmps47
    go_wp2_with fail
    go_ret
    exact ⟨rfl, Below.refl _ _⟩
  · go_enter Tryz.func47, Tryz.ntmps47
    go_wp2_with fail
    go_ret
    exact ⟨rfl, Below.refl _ _⟩
  · generalize l.all gPt = r at *
    go_enter Tryz.func47, Tryz.ntmps47
    go_wp2_with fail
    refine (unhide C2 _ (unhide HS)).mono ?_
    rintro e w2 ⟨rfl, hb⟩
    go_wp2_with fail
    go_ret
    exact ⟨by cases r <;> rfl, hb⟩
theorem nanI (n : Int) (w : World) : Calls Tryz.prog 82 #[.int .i64 n] w fun e w' => e = .returned (.bool false) ∧ w' = w := by
  have z : (n != n) = false := by simp
  go_enter Tryz.func82, Tryz.ntmps82
  go_wp2
  go_ret
  exact ⟨rfl, rfl⟩
theorem cmpI8 (x y : Int) (w : World) : Calls Tryz.prog 63 #[.int .i64 x, .int .i64 y] w fun e w' => e = .returned (.int .i64 (sgZ (x - y))) ∧ w' = w := by
  unfold sgZ
  have key : ∀ r : Int, (if 0 < x - y then (1 : Int) else if x - y < 0 then -1 else 0) = r → Calls Tryz.prog 63 #[.int .i64 x, .int .i64 y] w fun e w' => e = .returned (.int .i64 r) ∧ w' = w := by
    intro r hr
    by_cases h1 : x < y
    · have d1 : decide (x < y) = true := decide_eq_true h1
      rw [if_neg (by omega), if_pos (by omega)] at hr
      subst hr
      go_enter Tryz.func63, Tryz.ntmps63
      go_wp2_with fail
      refine (nanI x _).mono ?_
      rintro e w1 ⟨rfl, rfl⟩
      go_wp2_with fail
      refine (nanI y _).mono ?_
      rintro e w1 ⟨rfl, rfl⟩
      go_wp2_with fail
      go_ret
      exact ⟨rfl, rfl⟩
    · have d1 : decide (x < y) = false := decide_eq_false h1
      by_cases h2 : y < x
      · have d2 : decide (y < x) = true := decide_eq_true h2
        rw [if_pos (by omega)] at hr
        subst hr
        go_enter Tryz.func63, Tryz.ntmps63
        go_wp2_with fail
        refine (nanI x _).mono ?_
        rintro e w1 ⟨rfl, rfl⟩
        go_wp2_with fail
        refine (nanI y _).mono ?_
        rintro e w1 ⟨rfl, rfl⟩
        go_wp2_with fail
        go_ret
        exact ⟨rfl, rfl⟩
      · have d2 : decide (y < x) = false := decide_eq_false h2
        rw [if_neg (by omega), if_neg (by omega)] at hr
        subst hr
        go_enter Tryz.func63, Tryz.ntmps63
        go_wp2_with fail
        refine (nanI x _).mono ?_
        rintro e w1 ⟨rfl, rfl⟩
        go_wp2_with fail
        refine (nanI y _).mono ?_
        rintro e w1 ⟨rfl, rfl⟩
        go_wp2_with fail
        go_ret
        exact ⟨rfl, rfl⟩
  exact key _ rfl
set_option maxHeartbeats 2000000 in
theorem turnI (a b c : Int × Int) (w : World) (ha : Near a) (hb : Near b) (hc : Near c) :
    Calls Tryz.prog 36 #[.agg #[.int .i64 a.1, .int .i64 a.2], .agg #[.int .i64 b.1, .int .i64 b.2], .agg #[.int .i64 c.1, .int .i64 c.2]] w fun e w' => e = .returned (.int .i64 (sgZ (crs a b c))) ∧ Below w.heap.size w w' := by
  obtain ⟨a0, a1, a2, a3⟩ := ha
  obtain ⟨b0, b1, b2, b3⟩ := hb
  obtain ⟨c0, c1, c2, c3⟩ := hc
  have w1 : IntKind.i64.wrap (b.1 - a.1) = b.1 - a.1 := by rw [IntKind.wrap_i64]; omega
  have w2 : IntKind.i64.wrap (c.2 - a.2) = c.2 - a.2 := by rw [IntKind.wrap_i64]; omega
  have w3 : IntKind.i64.wrap (b.2 - a.2) = b.2 - a.2 := by rw [IntKind.wrap_i64]; omega
  have w4 : IntKind.i64.wrap (c.1 - a.1) = c.1 - a.1 := by rw [IntKind.wrap_i64]; omega
  have m1 := @mul_bd (b.1 - a.1) (c.2 - a.2) (by omega) (by omega) (by omega) (by omega)
  have m2 := @mul_bd (b.2 - a.2) (c.1 - a.1) (by omega) (by omega) (by omega) (by omega)
  have w5 : IntKind.i64.wrap ((b.1 - a.1) * (c.2 - a.2)) = (b.1 - a.1) * (c.2 - a.2) := by rw [IntKind.wrap_i64]; omega
  have w6 : IntKind.i64.wrap ((b.2 - a.2) * (c.1 - a.1)) = (b.2 - a.2) * (c.1 - a.1) := by rw [IntKind.wrap_i64]; omega
  have CC := hide (fun w => cmpI8 ((b.1 - a.1) * (c.2 - a.2)) ((b.2 - a.2) * (c.1 - a.1)) w)
  have ec : (b.1 - a.1) * (c.2 - a.2) - (b.2 - a.2) * (c.1 - a.1) = crs a b c := rfl
  rw [ec] at CC
  generalize sgZ (crs a b c) = sv at *
  clear ec
  clear a0 a1 a2 a3 b0 b1 b2 b3 c0 c1 c2 c3 m1 m2
  go_enter Tryz.func36, Tryz.ntmps36
  go_wp2_with fail
  refine (unhide CC _).mono ?_
  rintro e wz ⟨rfl, rfl⟩
  go_wp2_with fail
  go_ret
  exact ⟨rfl, al3 _ _ _ _⟩
set_option maxHeartbeats 4000000 in
theorem betweenI (x a b : Int) (w : World) : Calls Tryz.prog 103 #[.int .i64 x, .int .i64 a, .int .i64 b] w fun e w' => e = .returned (.bool (btw a b x)) ∧ w' = w := by
  have go : ∀ lo hi : Int, btw a b x = (decide (lo ≤ x) && decide (x ≤ hi)) → (b < a → lo = b ∧ hi = a) → (a < b → lo = a ∧ hi = b) → (a = b → lo = a ∧ hi = a) → Calls Tryz.prog 103 #[.int .i64 x, .int .i64 a, .int .i64 b] w fun e w' => e = .returned (.bool (btw a b x)) ∧ w' = w := by
    intro lo hi e1 h1 h2 h3
    rw [e1]
    clear e1
    rcases Int.lt_trichotomy a b with h | h | h
    · obtain ⟨rfl, rfl⟩ := h2 h
      clear h1 h2 h3
      have h' : ¬ hi < lo := by omega
      cases d1 : decide (lo ≤ x) <;> cases d2 : decide (x ≤ hi) <;>
        (go_enter Tryz.func103, Tryz.ntmps103
         go_wp2
         go_ret
         exact ⟨rfl, rfl⟩)
    · subst h
      obtain ⟨rfl, rfl⟩ := h3 rfl
      clear h1 h2 h3
      have h' : ¬ hi < hi := by omega
      cases d1 : decide (hi ≤ x) <;> cases d2 : decide (x ≤ hi) <;>
        (go_enter Tryz.func103, Tryz.ntmps103
         go_wp2
         go_ret
         exact ⟨rfl, rfl⟩)
    · obtain ⟨rfl, rfl⟩ := h1 h
      clear h1 h2 h3
      have h' : ¬ hi < lo := by omega
      cases d1 : decide (lo ≤ x) <;> cases d2 : decide (x ≤ hi) <;>
        (go_enter Tryz.func103, Tryz.ntmps103
         go_wp2
         go_ret
         exact ⟨rfl, rfl⟩)
  refine go (min a b) (max a b) ?_ ?_ ?_ ?_
  · unfold btw
    rw [Bool.eq_iff_iff]
    simp
    omega
  all_goals omega
theorem sg_zero (k : Int) : decide (k = 0) = decide (sgZ k = 0) := by
  unfold sgZ
  split
  · rw [decide_eq_false (by omega), decide_eq_false (by omega)]
  · split
    · rw [decide_eq_false (by omega), decide_eq_false (by omega)]
    · rw [decide_eq_true (by omega), decide_eq_true rfl]
set_option maxHeartbeats 2000000 in
theorem hasI (a b p : Int × Int) (w : World) (ha : Near a) (hb : Near b) (hp : Near p) :
    Calls Tryz.prog 89 #[.agg #[.int .i64 a.1, .int .i64 a.2, .int .i64 b.1, .int .i64 b.2], .agg #[.int .i64 p.1, .int .i64 p.2]] w fun e w' => e = .returned (.bool (onV a b p)) ∧ Below w.heap.size w w' := by
  have C1 := hide (fun w => turnI a b p w ha hb hp)
  have C2 := hide (fun w => betweenI p.1 a.1 b.1 w)
  have C3 := hide (fun w => betweenI p.2 a.2 b.2 w)
  clear ha hb hp
  unfold onV
  rw [sg_zero (crs a b p)]
  generalize sgZ (crs a b p) = k at *
  by_cases hk : k = 0
  · have z0 : (k != 0) = false := by simp [hk]
    rw [show decide (k = 0) = true from decide_eq_true hk]
    clear hk
    cases h1 : btw a.1 b.1 p.1
    · rw [h1] at C2
      have B0 := hide (show Below w.heap.size w ((w.alloc (.cells #[.int .i64 a.1, .int .i64 a.2, .int .i64 b.1, .int .i64 b.2] 94)).alloc (.cells #[.int .i64 p.1, .int .i64 p.2] 37)) from (((Below.refl _ _).alloc (by simp) _).alloc (by simp) _))
      go_enter Tryz.func89, Tryz.ntmps89
      go_wp2_with fail
      refine (unhide C1 _).mono ?_
      rintro e w1 ⟨rfl, hb⟩
      have k0_0 : w1.cell? ⟨w.heap.size, 0, none⟩ = some (.int .i64 a.1) := cell_later hb (by simp [go_sem])
      have k0_1 : w1.cell? ⟨w.heap.size, 1, none⟩ = some (.int .i64 a.2) := cell_later hb (by simp [go_sem])
      have k0_2 : w1.cell? ⟨w.heap.size, 2, none⟩ = some (.int .i64 b.1) := cell_later hb (by simp [go_sem])
      have k0_3 : w1.cell? ⟨w.heap.size, 3, none⟩ = some (.int .i64 b.2) := cell_later hb (by simp [go_sem])
      have k1_0 : w1.cell? ⟨w.heap.size + 1, 0, none⟩ = some (.int .i64 p.1) := cell_later hb (by simp [go_sem])
      have k1_1 : w1.cell? ⟨w.heap.size + 1, 1, none⟩ = some (.int .i64 p.2) := cell_later hb (by simp [go_sem])
      have HB := hide (below_on (unhide B0) hb)
      clear hb
      go_wp2_with fail
      refine (unhide C2 _).mono ?_
      rintro e w2 ⟨rfl, rfl⟩
      go_wp2_with fail
      go_ret
      exact ⟨rfl, unhide HB⟩
    · rw [h1] at C2
      generalize btw a.2 b.2 p.2 = r at *
      have B0 := hide (show Below w.heap.size w ((w.alloc (.cells #[.int .i64 a.1, .int .i64 a.2, .int .i64 b.1, .int .i64 b.2] 94)).alloc (.cells #[.int .i64 p.1, .int .i64 p.2] 37)) from (((Below.refl _ _).alloc (by simp) _).alloc (by simp) _))
      go_enter Tryz.func89, Tryz.ntmps89
      go_wp2_with fail
      refine (unhide C1 _).mono ?_
      rintro e w1 ⟨rfl, hb⟩
      have k0_0 : w1.cell? ⟨w.heap.size, 0, none⟩ = some (.int .i64 a.1) := cell_later hb (by simp [go_sem])
      have k0_1 : w1.cell? ⟨w.heap.size, 1, none⟩ = some (.int .i64 a.2) := cell_later hb (by simp [go_sem])
      have k0_2 : w1.cell? ⟨w.heap.size, 2, none⟩ = some (.int .i64 b.1) := cell_later hb (by simp [go_sem])
      have k0_3 : w1.cell? ⟨w.heap.size, 3, none⟩ = some (.int .i64 b.2) := cell_later hb (by simp [go_sem])
      have k1_0 : w1.cell? ⟨w.heap.size + 1, 0, none⟩ = some (.int .i64 p.1) := cell_later hb (by simp [go_sem])
      have k1_1 : w1.cell? ⟨w.heap.size + 1, 1, none⟩ = some (.int .i64 p.2) := cell_later hb (by simp [go_sem])
      have HB := hide (below_on (unhide B0) hb)
      clear hb
      go_wp2_with fail
      refine (unhide C2 _).mono ?_
      rintro e w2 ⟨rfl, rfl⟩
      go_wp2_with fail
      refine (unhide C3 _).mono ?_
      rintro e w2 ⟨rfl, rfl⟩
      go_wp2_with fail
      go_ret
      exact ⟨by cases r <;> rfl, unhide HB⟩
  · have z0 : (k != 0) = true := by simp [hk]
    rw [show decide (k = 0) = false from decide_eq_false hk]
    clear hk
    have B0 := hide (show Below w.heap.size w ((w.alloc (.cells #[.int .i64 a.1, .int .i64 a.2, .int .i64 b.1, .int .i64 b.2] 94)).alloc (.cells #[.int .i64 p.1, .int .i64 p.2] 37)) from (((Below.refl _ _).alloc (by simp) _).alloc (by simp) _))
    go_enter Tryz.func89, Tryz.ntmps89
    go_wp2_with fail
    refine (unhide C1 _).mono ?_
    rintro e w1 ⟨rfl, hb⟩
    have HB := hide (below_on (unhide B0) hb)
    clear hb
    go_wp2_with fail
    go_ret
    exact ⟨rfl, unhide HB⟩
set_option maxHeartbeats 2000000 in
theorem hasEndI (a b c d : Int × Int) (w : World) (ha : Near a) (hb : Near b) (hc : Near c) (hd : Near d) :
    Calls Tryz.prog 90 #[.agg #[.int .i64 a.1, .int .i64 a.2, .int .i64 b.1, .int .i64 b.2], .agg #[.int .i64 c.1, .int .i64 c.2, .int .i64 d.1, .int .i64 d.2]] w fun e w' => e = .returned (.bool (onV a b c || onV a b d)) ∧ Below w.heap.size w w' := by
  have C1 := hide (fun w => hasI a b c w ha hb hc)
  have C2 := hide (fun w => hasI a b d w ha hb hd)
  clear ha hb hc hd
  generalize onV a b c = x at *
  generalize onV a b d = y at *
  cases x
  · have B0 := hide (show Below w.heap.size w ((w.alloc (.cells #[.int .i64 a.1, .int .i64 a.2, .int .i64 b.1, .int .i64 b.2] 94)).alloc (.cells #[.int .i64 c.1, .int .i64 c.2, .int .i64 d.1, .int .i64 d.2] 94)) from (((Below.refl _ _).alloc (by simp) _).alloc (by simp) _))
    go_enter Tryz.func90, Tryz.ntmps90
    go_wp2_with fail
    refine (unhide C1 _).mono ?_
    rintro e w1 ⟨rfl, hb⟩
    have k0_0 : w1.cell? ⟨w.heap.size, 0, none⟩ = some (.int .i64 a.1) := cell_later hb (by simp [go_sem])
    have k0_1 : w1.cell? ⟨w.heap.size, 1, none⟩ = some (.int .i64 a.2) := cell_later hb (by simp [go_sem])
    have k0_2 : w1.cell? ⟨w.heap.size, 2, none⟩ = some (.int .i64 b.1) := cell_later hb (by simp [go_sem])
    have k0_3 : w1.cell? ⟨w.heap.size, 3, none⟩ = some (.int .i64 b.2) := cell_later hb (by simp [go_sem])
    have k1_2 : w1.cell? ⟨w.heap.size + 1, 2, none⟩ = some (.int .i64 d.1) := cell_later hb (by simp [go_sem])
    have k1_3 : w1.cell? ⟨w.heap.size + 1, 3, none⟩ = some (.int .i64 d.2) := cell_later hb (by simp [go_sem])
    have HB := hide (below_on (unhide B0) hb)
    clear hb
    go_wp2_with fail
    refine (unhide C2 _).mono ?_
    rintro e w2 ⟨rfl, hb⟩
    clear k0_0 k0_1 k0_2 k0_3 k1_2 k1_3
    replace HB := hide (below_on (unhide HB) hb)
    clear hb
    go_wp2_with fail
    go_ret
    exact ⟨by cases y <;> rfl, unhide HB⟩
  · have B0 := hide (show Below w.heap.size w ((w.alloc (.cells #[.int .i64 a.1, .int .i64 a.2, .int .i64 b.1, .int .i64 b.2] 94)).alloc (.cells #[.int .i64 c.1, .int .i64 c.2, .int .i64 d.1, .int .i64 d.2] 94)) from (((Below.refl _ _).alloc (by simp) _).alloc (by simp) _))
    go_enter Tryz.func90, Tryz.ntmps90
    go_wp2_with fail
    refine (unhide C1 _).mono ?_
    rintro e w1 ⟨rfl, hb⟩
    have HB := hide (below_on (unhide B0) hb)
    clear hb
    go_wp2_with fail
    go_ret
    exact ⟨rfl, unhide HB⟩
set_option maxHeartbeats 2000000 in
theorem nextAgainI (a b c d : Int × Int) (w : World) (ha : Near a) (hb : Near b) (hc : Near c) (hd : Near d) :
    Calls Tryz.prog 84 #[.agg #[.int .i64 a.1, .int .i64 a.2, .int .i64 b.1, .int .i64 b.2], .agg #[.int .i64 c.1, .int .i64 c.2, .int .i64 d.1, .int .i64 d.2]] w fun e w' => e = .returned (.bool (onV a b d || onV c d a)) ∧ Below w.heap.size w w' := by
  have C1 := hide (fun w => hasI a b d w ha hb hd)
  have C2 := hide (fun w => hasI c d a w hc hd ha)
  clear ha hb hc hd
  generalize onV a b d = x at *
  generalize onV c d a = y at *
  cases x
  · have B0 := hide (show Below w.heap.size w ((w.alloc (.cells #[.int .i64 a.1, .int .i64 a.2, .int .i64 b.1, .int .i64 b.2] 94)).alloc (.cells #[.int .i64 c.1, .int .i64 c.2, .int .i64 d.1, .int .i64 d.2] 94)) from (((Below.refl _ _).alloc (by simp) _).alloc (by simp) _))
    go_enter Tryz.func84, Tryz.ntmps84
    go_wp2_with fail
    refine (unhide C1 _).mono ?_
    rintro e w1 ⟨rfl, hb⟩
    have k1_0 : w1.cell? ⟨w.heap.size + 1, 0, none⟩ = some (.int .i64 c.1) := cell_later hb (by simp [go_sem])
    have k1_1 : w1.cell? ⟨w.heap.size + 1, 1, none⟩ = some (.int .i64 c.2) := cell_later hb (by simp [go_sem])
    have k1_2 : w1.cell? ⟨w.heap.size + 1, 2, none⟩ = some (.int .i64 d.1) := cell_later hb (by simp [go_sem])
    have k1_3 : w1.cell? ⟨w.heap.size + 1, 3, none⟩ = some (.int .i64 d.2) := cell_later hb (by simp [go_sem])
    have k0_0 : w1.cell? ⟨w.heap.size, 0, none⟩ = some (.int .i64 a.1) := cell_later hb (by simp [go_sem])
    have k0_1 : w1.cell? ⟨w.heap.size, 1, none⟩ = some (.int .i64 a.2) := cell_later hb (by simp [go_sem])
    have HB := hide (below_on (unhide B0) hb)
    clear hb
    go_wp2_with fail
    refine (unhide C2 _).mono ?_
    rintro e w2 ⟨rfl, hb⟩
    clear k1_0 k1_1 k1_2 k1_3 k0_0 k0_1
    replace HB := hide (below_on (unhide HB) hb)
    clear hb
    go_wp2_with fail
    go_ret
    exact ⟨by cases y <;> rfl, unhide HB⟩
  · have B0 := hide (show Below w.heap.size w ((w.alloc (.cells #[.int .i64 a.1, .int .i64 a.2, .int .i64 b.1, .int .i64 b.2] 94)).alloc (.cells #[.int .i64 c.1, .int .i64 c.2, .int .i64 d.1, .int .i64 d.2] 94)) from (((Below.refl _ _).alloc (by simp) _).alloc (by simp) _))
    go_enter Tryz.func84, Tryz.ntmps84
    go_wp2_with fail
    refine (unhide C1 _).mono ?_
    rintro e w1 ⟨rfl, hb⟩
    have HB := hide (below_on (unhide B0) hb)
    clear hb
    go_wp2_with fail
    go_ret
    exact ⟨rfl, unhide HB⟩
set_option maxHeartbeats 4000000 in
theorem partsI (a b c d : Int × Int) (w : World) (ha : Near a) (hb : Near b) (hc : Near c) (hd : Near d) :
    Calls Tryz.prog 91 #[.agg #[.int .i64 a.1, .int .i64 a.2, .int .i64 b.1, .int .i64 b.2], .agg #[.int .i64 c.1, .int .i64 c.2, .int .i64 d.1, .int .i64 d.2]] w fun e w' => e = .returned (.bool (decide (sgZ (crs a b c) * sgZ (crs a b d) < 0))) ∧ Below w.heap.size w w' := by
  have C1 := hide (fun w => turnI a b c w ha hb hc)
  have C2 := hide (fun w => turnI a b d w ha hb hd)
  have WM := sg_mul (sg_bd (crs a b c)) (sg_bd (crs a b d))
  clear ha hb hc hd
  generalize sgZ (crs a b c) = x at *
  generalize sgZ (crs a b d) = y at *
  go_enter Tryz.func91, Tryz.ntmps91
  go_upto_region 1 with fail
  have hb : Below w.heap.size w ((w.alloc (.cells #[.int .i64 a.1, .int .i64 a.2, .int .i64 b.1, .int .i64 b.2] 94)).alloc (.cells #[.int .i64 c.1, .int .i64 c.2, .int .i64 d.1, .int .i64 d.2] 94)) := (((Below.refl _ _).alloc (by simp) _).alloc (by simp) _)
  have k0_0 : ((w.alloc (.cells #[.int .i64 a.1, .int .i64 a.2, .int .i64 b.1, .int .i64 b.2] 94)).alloc (.cells #[.int .i64 c.1, .int .i64 c.2, .int .i64 d.1, .int .i64 d.2] 94)).cell? ⟨w.heap.size, 0, none⟩ = some (.int .i64 a.1) := by simp [go_sem]
  have k0_1 : ((w.alloc (.cells #[.int .i64 a.1, .int .i64 a.2, .int .i64 b.1, .int .i64 b.2] 94)).alloc (.cells #[.int .i64 c.1, .int .i64 c.2, .int .i64 d.1, .int .i64 d.2] 94)).cell? ⟨w.heap.size, 1, none⟩ = some (.int .i64 a.2) := by simp [go_sem]
  have k0_2 : ((w.alloc (.cells #[.int .i64 a.1, .int .i64 a.2, .int .i64 b.1, .int .i64 b.2] 94)).alloc (.cells #[.int .i64 c.1, .int .i64 c.2, .int .i64 d.1, .int .i64 d.2] 94)).cell? ⟨w.heap.size, 2, none⟩ = some (.int .i64 b.1) := by simp [go_sem]
  have k0_3 : ((w.alloc (.cells #[.int .i64 a.1, .int .i64 a.2, .int .i64 b.1, .int .i64 b.2] 94)).alloc (.cells #[.int .i64 c.1, .int .i64 c.2, .int .i64 d.1, .int .i64 d.2] 94)).cell? ⟨w.heap.size, 3, none⟩ = some (.int .i64 b.2) := by simp [go_sem]
  have k1_0 : ((w.alloc (.cells #[.int .i64 a.1, .int .i64 a.2, .int .i64 b.1, .int .i64 b.2] 94)).alloc (.cells #[.int .i64 c.1, .int .i64 c.2, .int .i64 d.1, .int .i64 d.2] 94)).cell? ⟨w.heap.size + 1, 0, none⟩ = some (.int .i64 c.1) := by simp [go_sem]
  have k1_1 : ((w.alloc (.cells #[.int .i64 a.1, .int .i64 a.2, .int .i64 b.1, .int .i64 b.2] 94)).alloc (.cells #[.int .i64 c.1, .int .i64 c.2, .int .i64 d.1, .int .i64 d.2] 94)).cell? ⟨w.heap.size + 1, 1, none⟩ = some (.int .i64 c.2) := by simp [go_sem]
  have k1_2 : ((w.alloc (.cells #[.int .i64 a.1, .int .i64 a.2, .int .i64 b.1, .int .i64 b.2] 94)).alloc (.cells #[.int .i64 c.1, .int .i64 c.2, .int .i64 d.1, .int .i64 d.2] 94)).cell? ⟨w.heap.size + 1, 2, none⟩ = some (.int .i64 d.1) := by simp [go_sem]
  have k1_3 : ((w.alloc (.cells #[.int .i64 a.1, .int .i64 a.2, .int .i64 b.1, .int .i64 b.2] 94)).alloc (.cells #[.int .i64 c.1, .int .i64 c.2, .int .i64 d.1, .int .i64 d.2] 94)).cell? ⟨w.heap.size + 1, 3, none⟩ = some (.int .i64 d.2) := by simp [go_sem]
  have szw0 : w.heap.size + 2 ≤ ((w.alloc (.cells #[.int .i64 a.1, .int .i64 a.2, .int .i64 b.1, .int .i64 b.2] 94)).alloc (.cells #[.int .i64 c.1, .int .i64 c.2, .int .i64 d.1, .int .i64 d.2] 94)).heap.size := by simp
  have HB := hide hb
  clear hb
  generalize ((w.alloc (.cells #[.int .i64 a.1, .int .i64 a.2, .int .i64 b.1, .int .i64 b.2] 94)).alloc (.cells #[.int .i64 c.1, .int .i64 c.2, .int .i64 d.1, .int .i64 d.2] 94)) = w0 at *
  go_upto_region 1 with fail
  go_region_held3 (fun w' => w'.cell? ⟨w.heap.size, 0, none⟩ = some (.int .i64 a.1) ∧ w'.cell? ⟨w.heap.size, 1, none⟩ = some (.int .i64 a.2) ∧ w'.cell? ⟨w.heap.size, 2, none⟩ = some (.int .i64 b.1) ∧ w'.cell? ⟨w.heap.size, 3, none⟩ = some (.int .i64 b.2) ∧ w'.cell? ⟨w.heap.size + 1, 0, none⟩ = some (.int .i64 c.1) ∧ w'.cell? ⟨w.heap.size + 1, 1, none⟩ = some (.int .i64 c.2) ∧ w'.cell? ⟨w.heap.size + 1, 2, none⟩ = some (.int .i64 d.1) ∧ w'.cell? ⟨w.heap.size + 1, 3, none⟩ = some (.int .i64 d.2)) (with_reducible (first | exact ⟨k0_0, k0_1, k0_2, k0_3, k1_0, k1_1, k1_2, k1_3⟩ | exact ⟨cdP k0_0, cdP k0_1, cdP k0_2, cdP k0_3, cdP k1_0, cdP k1_1, cdP k1_2, cdP k1_3⟩ | fail))
    (first
    | (have chk := M1; clear chk; go_at_call 36; refine (unhide C2 _).mono ?_; rintro e w2 ⟨rfl, hb⟩; have hbx : Below w1.heap.size w1 w2 := hb; have szw2 := hbx.size; replace k0_0 := cell_later hbx k0_0; replace k0_1 := cell_later hbx k0_1; replace k0_2 := cell_later hbx k0_2; replace k0_3 := cell_later hbx k0_3; replace k1_0 := cell_later hbx k1_0; replace k1_1 := cell_later hbx k1_1; replace k1_2 := cell_later hbx k1_2; replace k1_3 := cell_later hbx k1_3; have HBr := hide (below_on (unhide HBr) hbx); clear hbx hb C2)
    | (go_at_call 36; refine (unhide C1 _).mono ?_; rintro e w1 ⟨rfl, hb⟩; have hbx : Below w0.heap.size w0 w1 := below_of_drew hb; have szw1 := hbx.size; replace k0_0 := cell_later hbx k0_0; replace k0_1 := cell_later hbx k0_1; replace k0_2 := cell_later hbx k0_2; replace k0_3 := cell_later hbx k0_3; replace k1_0 := cell_later hbx k1_0; replace k1_1 := cell_later hbx k1_1; replace k1_2 := cell_later hbx k1_2; replace k1_3 := cell_later hbx k1_3; have M1 := True.intro; have HBr := hide hbx; clear hbx hb C1))
  replace HB := hide (below_on (unhide HB) (unhide HBr))
  clear HBr
  go_wp2_with fail
  go_ret
  exact ⟨rfl, unhide HB⟩
def meI (a b c d : Int × Int) : Bool := (onV a b c || onV a b d) || (onV c d a || onV c d b) || (decide (sgZ (crs a b c) * sgZ (crs a b d) < 0) && decide (sgZ (crs c d a) * sgZ (crs c d b) < 0))
theorem meI_eq (a b c d : Int × Int) : meI a b c d = meV a b c d := by
  unfold meI meV
  cases onV a b c <;> cases onV a b d <;> cases onV c d a <;> cases onV c d b <;> rfl
set_option maxHeartbeats 4000000 in
theorem meetsI (a b c d : Int × Int) (w : World) (ha : Near a) (hb : Near b) (hc : Near c) (hd : Near d) :
    Calls Tryz.prog 85 #[.agg #[.int .i64 a.1, .int .i64 a.2, .int .i64 b.1, .int .i64 b.2], .agg #[.int .i64 c.1, .int .i64 c.2, .int .i64 d.1, .int .i64 d.2]] w fun e w' => e = .returned (.bool (meV a b c d)) ∧ Below w.heap.size w w' := by
  have C1 := hide (fun w => hasEndI a b c d w ha hb hc hd)
  have C2 := hide (fun w => hasEndI c d a b w hc hd ha hb)
  have C3 := hide (fun w => partsI a b c d w ha hb hc hd)
  have C4 := hide (fun w => partsI c d a b w hc hd ha hb)
  clear ha hb hc hd
  rw [← meI_eq]
  unfold meI
  generalize (onV a b c || onV a b d) = x1 at *
  generalize (onV c d a || onV c d b) = x2 at *
  generalize decide (sgZ (crs a b c) * sgZ (crs a b d) < 0) = x3 at *
  generalize decide (sgZ (crs c d a) * sgZ (crs c d b) < 0) = x4 at *
  cases x1
  · cases x2
    · cases x3
      · have B0 := hide (show Below w.heap.size w ((w.alloc (.cells #[.int .i64 a.1, .int .i64 a.2, .int .i64 b.1, .int .i64 b.2] 94)).alloc (.cells #[.int .i64 c.1, .int .i64 c.2, .int .i64 d.1, .int .i64 d.2] 94)) from (((Below.refl _ _).alloc (by simp) _).alloc (by simp) _))
        go_enter Tryz.func85, Tryz.ntmps85
        go_wp2_with fail
        refine (unhide C1 _).mono ?_
        rintro e w1 ⟨rfl, hb⟩
        have k0_0 : w1.cell? ⟨w.heap.size, 0, none⟩ = some (.int .i64 a.1) := cell_later hb (by simp [go_sem])
        have k0_1 : w1.cell? ⟨w.heap.size, 1, none⟩ = some (.int .i64 a.2) := cell_later hb (by simp [go_sem])
        have k0_2 : w1.cell? ⟨w.heap.size, 2, none⟩ = some (.int .i64 b.1) := cell_later hb (by simp [go_sem])
        have k0_3 : w1.cell? ⟨w.heap.size, 3, none⟩ = some (.int .i64 b.2) := cell_later hb (by simp [go_sem])
        have k1_0 : w1.cell? ⟨w.heap.size + 1, 0, none⟩ = some (.int .i64 c.1) := cell_later hb (by simp [go_sem])
        have k1_1 : w1.cell? ⟨w.heap.size + 1, 1, none⟩ = some (.int .i64 c.2) := cell_later hb (by simp [go_sem])
        have k1_2 : w1.cell? ⟨w.heap.size + 1, 2, none⟩ = some (.int .i64 d.1) := cell_later hb (by simp [go_sem])
        have k1_3 : w1.cell? ⟨w.heap.size + 1, 3, none⟩ = some (.int .i64 d.2) := cell_later hb (by simp [go_sem])
        have HB := hide (below_on (unhide B0) hb)
        clear hb
        go_wp2_with fail
        refine (unhide C2 _).mono ?_
        rintro e w2 ⟨rfl, hb⟩
        replace k0_0 := cell_later hb k0_0
        replace k0_1 := cell_later hb k0_1
        replace k0_2 := cell_later hb k0_2
        replace k0_3 := cell_later hb k0_3
        replace k1_0 := cell_later hb k1_0
        replace k1_1 := cell_later hb k1_1
        replace k1_2 := cell_later hb k1_2
        replace k1_3 := cell_later hb k1_3
        replace HB := hide (below_on (unhide HB) hb)
        clear hb
        go_wp2_with fail
        refine (unhide C3 _).mono ?_
        rintro e w3 ⟨rfl, hb⟩
        clear k0_0 k0_1 k0_2 k0_3 k1_0 k1_1 k1_2 k1_3
        replace HB := hide (below_on (unhide HB) hb)
        clear hb
        go_wp2_with fail
        go_ret
        exact ⟨rfl, unhide HB⟩
      · have B0 := hide (show Below w.heap.size w ((w.alloc (.cells #[.int .i64 a.1, .int .i64 a.2, .int .i64 b.1, .int .i64 b.2] 94)).alloc (.cells #[.int .i64 c.1, .int .i64 c.2, .int .i64 d.1, .int .i64 d.2] 94)) from (((Below.refl _ _).alloc (by simp) _).alloc (by simp) _))
        go_enter Tryz.func85, Tryz.ntmps85
        go_wp2_with fail
        refine (unhide C1 _).mono ?_
        rintro e w1 ⟨rfl, hb⟩
        have k0_0 : w1.cell? ⟨w.heap.size, 0, none⟩ = some (.int .i64 a.1) := cell_later hb (by simp [go_sem])
        have k0_1 : w1.cell? ⟨w.heap.size, 1, none⟩ = some (.int .i64 a.2) := cell_later hb (by simp [go_sem])
        have k0_2 : w1.cell? ⟨w.heap.size, 2, none⟩ = some (.int .i64 b.1) := cell_later hb (by simp [go_sem])
        have k0_3 : w1.cell? ⟨w.heap.size, 3, none⟩ = some (.int .i64 b.2) := cell_later hb (by simp [go_sem])
        have k1_0 : w1.cell? ⟨w.heap.size + 1, 0, none⟩ = some (.int .i64 c.1) := cell_later hb (by simp [go_sem])
        have k1_1 : w1.cell? ⟨w.heap.size + 1, 1, none⟩ = some (.int .i64 c.2) := cell_later hb (by simp [go_sem])
        have k1_2 : w1.cell? ⟨w.heap.size + 1, 2, none⟩ = some (.int .i64 d.1) := cell_later hb (by simp [go_sem])
        have k1_3 : w1.cell? ⟨w.heap.size + 1, 3, none⟩ = some (.int .i64 d.2) := cell_later hb (by simp [go_sem])
        have HB := hide (below_on (unhide B0) hb)
        clear hb
        go_wp2_with fail
        refine (unhide C2 _).mono ?_
        rintro e w2 ⟨rfl, hb⟩
        replace k0_0 := cell_later hb k0_0
        replace k0_1 := cell_later hb k0_1
        replace k0_2 := cell_later hb k0_2
        replace k0_3 := cell_later hb k0_3
        replace k1_0 := cell_later hb k1_0
        replace k1_1 := cell_later hb k1_1
        replace k1_2 := cell_later hb k1_2
        replace k1_3 := cell_later hb k1_3
        replace HB := hide (below_on (unhide HB) hb)
        clear hb
        go_wp2_with fail
        refine (unhide C3 _).mono ?_
        rintro e w3 ⟨rfl, hb⟩
        replace k0_0 := cell_later hb k0_0
        replace k0_1 := cell_later hb k0_1
        replace k0_2 := cell_later hb k0_2
        replace k0_3 := cell_later hb k0_3
        replace k1_0 := cell_later hb k1_0
        replace k1_1 := cell_later hb k1_1
        replace k1_2 := cell_later hb k1_2
        replace k1_3 := cell_later hb k1_3
        replace HB := hide (below_on (unhide HB) hb)
        clear hb
        go_wp2_with fail
        refine (unhide C4 _).mono ?_
        rintro e w4 ⟨rfl, hb⟩
        clear k0_0 k0_1 k0_2 k0_3 k1_0 k1_1 k1_2 k1_3
        replace HB := hide (below_on (unhide HB) hb)
        clear hb
        go_wp2_with fail
        go_ret
        exact ⟨by cases x4 <;> rfl, unhide HB⟩
    · have B0 := hide (show Below w.heap.size w ((w.alloc (.cells #[.int .i64 a.1, .int .i64 a.2, .int .i64 b.1, .int .i64 b.2] 94)).alloc (.cells #[.int .i64 c.1, .int .i64 c.2, .int .i64 d.1, .int .i64 d.2] 94)) from (((Below.refl _ _).alloc (by simp) _).alloc (by simp) _))
      go_enter Tryz.func85, Tryz.ntmps85
      go_wp2_with fail
      refine (unhide C1 _).mono ?_
      rintro e w1 ⟨rfl, hb⟩
      have k0_0 : w1.cell? ⟨w.heap.size, 0, none⟩ = some (.int .i64 a.1) := cell_later hb (by simp [go_sem])
      have k0_1 : w1.cell? ⟨w.heap.size, 1, none⟩ = some (.int .i64 a.2) := cell_later hb (by simp [go_sem])
      have k0_2 : w1.cell? ⟨w.heap.size, 2, none⟩ = some (.int .i64 b.1) := cell_later hb (by simp [go_sem])
      have k0_3 : w1.cell? ⟨w.heap.size, 3, none⟩ = some (.int .i64 b.2) := cell_later hb (by simp [go_sem])
      have k1_0 : w1.cell? ⟨w.heap.size + 1, 0, none⟩ = some (.int .i64 c.1) := cell_later hb (by simp [go_sem])
      have k1_1 : w1.cell? ⟨w.heap.size + 1, 1, none⟩ = some (.int .i64 c.2) := cell_later hb (by simp [go_sem])
      have k1_2 : w1.cell? ⟨w.heap.size + 1, 2, none⟩ = some (.int .i64 d.1) := cell_later hb (by simp [go_sem])
      have k1_3 : w1.cell? ⟨w.heap.size + 1, 3, none⟩ = some (.int .i64 d.2) := cell_later hb (by simp [go_sem])
      have HB := hide (below_on (unhide B0) hb)
      clear hb
      go_wp2_with fail
      refine (unhide C2 _).mono ?_
      rintro e w2 ⟨rfl, hb⟩
      clear k0_0 k0_1 k0_2 k0_3 k1_0 k1_1 k1_2 k1_3
      replace HB := hide (below_on (unhide HB) hb)
      clear hb
      go_wp2_with fail
      go_ret
      exact ⟨rfl, unhide HB⟩
  · have B0 := hide (show Below w.heap.size w ((w.alloc (.cells #[.int .i64 a.1, .int .i64 a.2, .int .i64 b.1, .int .i64 b.2] 94)).alloc (.cells #[.int .i64 c.1, .int .i64 c.2, .int .i64 d.1, .int .i64 d.2] 94)) from (((Below.refl _ _).alloc (by simp) _).alloc (by simp) _))
    go_enter Tryz.func85, Tryz.ntmps85
    go_wp2_with fail
    refine (unhide C1 _).mono ?_
    rintro e w1 ⟨rfl, hb⟩
    have HB := hide (below_on (unhide B0) hb)
    clear hb
    go_wp2_with fail
    go_ret
    exact ⟨rfl, unhide HB⟩
theorem farI (n : Int) (w : World) (h0 : -4000000000000 ≤ n) (h1 : n ≤ 4000000000000) : Calls Tryz.prog 61 #[.int .i64 n] w fun e w' => e = .returned (.int .i64 (n.natAbs : Int)) ∧ w' = w := by
  have iw : IntKind.i64.wrap (-n) = -n := by rw [IntKind.wrap_i64]; omega
  rcases Int.lt_trichotomy n 0 with h | h | h
  · have l1 : n < -n := by omega
    have l2 : ¬ -n < n := by omega
    have e1 : (n.natAbs : Int) = -n := by omega
    rw [e1]
    clear h0 h1 e1
    go_enter Tryz.func61, Tryz.ntmps61
    go_wp2
    go_ret
    exact ⟨rfl, rfl⟩
  · subst h
    clear h0 h1
    go_enter Tryz.func61, Tryz.ntmps61
    go_wp2
    go_ret
    exact ⟨rfl, rfl⟩
  · have l1 : ¬ n < -n := by omega
    have l2 : -n < n := by omega
    have e1 : (n.natAbs : Int) = n := by omega
    rw [e1]
    clear h0 h1 e1
    go_enter Tryz.func61, Tryz.ntmps61
    go_wp2
    go_ret
    exact ⟨rfl, rfl⟩
end Go.Proofs.YtomekmhonfofkaaGreat
