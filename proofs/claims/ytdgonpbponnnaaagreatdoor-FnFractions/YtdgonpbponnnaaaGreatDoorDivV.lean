/- A digit of a quotient, guessed and taken off in place: the specification's l1Guess, l1Less and l1Back. No condition beyond those typed. -/
import Derived.Test.YtdgonpbponnnaaaGreatDoorDivI
namespace Go.Proofs.YtdgonpbponnnaaaGreatDoor
open Go.RowKit
set_option linter.unusedVariables false
set_option maxRecDepth 100000
set_option linter.unusedSimpArgs false

theorem But.drewN {lo hi : Nat} {w w' : World} (h : But lo hi w w') (N : Nat) : But lo hi w (w'.drewN N) := ⟨h.os, h.tape, h.output, h.size, h.block⟩
theorem GInv.small {dg lf top v1 v2 u2 : Int} (h : GInv dg lf top v1 v2 u2) (h1 : 0 ≤ v1) (ht : top ≤ v1 * 65536 + 65535) (hg : 65536 ≤ dg) : lf < 65536 := by
  have e := h.e
  have : 65536 * v1 ≤ dg * v1 := Int.mul_le_mul_of_nonneg_right hg h1
  omega
theorem GInv.great {dg lf top v1 v2 u2 : Int} (h : GInv dg lf top v1 v2 u2) (hd : dg ≤ 65535) (hl : 65536 ≤ lf) (hv0 : 0 ≤ v2) (hv : v2 ≤ 65535) (hu : 0 ≤ u2) : dg * v2 ≤ lf * 65536 + u2 := by
  have : dg * v2 ≤ 65535 * 65535 := Int.mul_le_mul hd hv hv0 (by omega)
  omega

set_option maxHeartbeats 4000000 in
theorem guessS_any (base : Nat) (w : World) (g L : Nat) (qs : List Int) (b off m : Nat) (ys : List Int) (j c' : Nat) (hw : Win base w g L qs b off m ys) (hj : j + m < L) (hm : 2 ≤ m) (hv1 : 1 ≤ ys.getD (m - 1) 0) (hu0 : qs.getD (j + m) 0 ≤ ys.getD (m - 1) 0) :
    Calls Tryz.prog 102 #[.slice (some ⟨g, 0, none⟩) L L, .slice (some ⟨b, off, none⟩) m c', .int .i64 j] w fun e w' =>
      ∃ d N, e = .returned (.int .i64 d) ∧ w' = w.drewN N ∧ Guess d ((qs.getD (j + m) 0 * 65536 + qs.getD (j + (m - 1)) 0) * 65536 + qs.getD (j + (m - 2)) 0) (ys.getD (m - 1) 0 * 65536 + ys.getD (m - 2) 0) := by
  have htop := hw.top
  have c1 := hw.cells (m - 1) (by omega)
  have c2 := hw.cells (m - 2) (by omega)
  have k0 := row_at hw.own hw.len (show j + m < L by omega)
  have k1 := row_at hw.own hw.len (show j + (m - 1) < L by omega)
  have k2 := row_at hw.own hw.len (show j + (m - 2) < L by omega)
  have b1 := okL_get hw.yok (m - 1)
  have b2 := okL_get hw.yok (m - 2)
  have a0 := okL_get hw.ok (j + m)
  have a1 := okL_get hw.ok (j + (m - 1))
  have a2 := okL_get hw.ok (j + (m - 2))
  clear hw
  generalize ys.getD (m - 1) 0 = v1 at *
  generalize ys.getD (m - 2) 0 = v2 at *
  generalize qs.getD (j + m) 0 = u0 at *
  generalize qs.getD (j + (m - 1)) 0 = u1 at *
  generalize qs.getD (j + (m - 2)) 0 = u2 at *
  obtain ⟨b10, b11⟩ := b1
  obtain ⟨b20, b21⟩ := b2
  obtain ⟨a00, a01⟩ := a0
  obtain ⟨a10, a11⟩ := a1
  obtain ⟨a20, a21⟩ := a2
  have t1 : ((m : Int) - 1).toNat = m - 1 := by omega
  have t2 : ((m : Int) - 2).toNat = m - 2 := by omega
  have t0 : ((j : Int) + (m : Int)).toNat = j + m := by omega
  have t3 : ((j : Int) + (m : Int) - 1).toNat = j + (m - 1) := by omega
  have t4 : ((j : Int) + (m : Int) - 2).toNat = j + (m - 2) := by omega
  have i1 : (0 : Int) ≤ (m : Int) - 1 := by omega
  have i2 : (m : Int) - 1 < (m : Int) := by omega
  have i3 : (0 : Int) ≤ (m : Int) - 2 := by omega
  have i4 : (m : Int) - 2 < (m : Int) := by omega
  have i5 : (0 : Int) ≤ (j : Int) + (m : Int) - 1 := by omega
  have i6 : (0 : Int) ≤ (j : Int) + (m : Int) - 2 := by omega
  have i7 : (j : Int) + (m : Int) - 1 < (L : Int) := by omega
  have i8 : (j : Int) + (m : Int) - 2 < (L : Int) := by omega
  have i9 : (j : Int) + (m : Int) < (L : Int) := by omega
  have i10 : (0 : Int) ≤ (j : Int) + (m : Int) := by omega
  have w0 : IntKind.i64.wrap ((j : Int) + (m : Int)) = (j : Int) + (m : Int) := by rw [IntKind.wrap_i64]; omega
  have w1 : IntKind.i64.wrap ((j : Int) + (m : Int) - 1) = (j : Int) + (m : Int) - 1 := by rw [IntKind.wrap_i64]; omega
  have w2 : IntKind.i64.wrap ((j : Int) + (m : Int) - 2) = (j : Int) + (m : Int) - 2 := by rw [IntKind.wrap_i64]; omega
  have w3 : IntKind.i64.wrap (u0 * 65536) = u0 * 65536 := by rw [IntKind.wrap_i64]; omega
  obtain ⟨top, HT⟩ : ∃ top, Hid (u0 * 65536 + u1 = top) := ⟨_, hide rfl⟩
  have w4 : IntKind.i64.wrap (u0 * 65536 + u1) = top := by rw [unhide HT, IntKind.wrap_i64]; have := unhide HT; omega
  have ht0 : 0 ≤ top := by have := unhide HT; omega
  have ht1 : top ≤ 4294967295 := by have := unhide HT; omega
  have ht2 : Hid (top ≤ v1 * 65536 + 65535) := hide (by have := unhide HT; omega)
  have hbz : (v1 == 0) = false := by simp; omega
  have tq : top.tdiv v1 = top / v1 := Int.tdiv_eq_ediv_of_nonneg (by omega)
  have tm : top.tmod v1 = top % v1 := Int.tmod_eq_emod_of_nonneg (by omega)
  have HG0 := hide (GInv.start (u2 := u2) (v2 := v2) ht0 (show 0 < v1 by omega) b20 a21)
  have q1 := Int.ediv_le_self v1 ht0
  have q0 : 0 ≤ top / v1 := Int.ediv_nonneg ht0 (by omega)
  have m0 : 0 ≤ top % v1 := Int.emod_nonneg _ (by omega)
  have m1 : top % v1 < v1 := Int.emod_lt_of_pos _ (by omega)
  go_enter Tryz.func102, Tryz.ntmps102
  go_wp2
  go_quiet (fail)
  clear w4
  go_wp2
  go_loopw [9, 10] (fun dv lv wr => ∃ (dg lf : Int) (N : Nat), dv = .int .i64 dg ∧ lv = .int .i64 lf ∧ wr = w.drewN N ∧ Hid (GInv dg lf top v1 v2 u2)) (fun dv _ _ => (intOf dv).toNat)
  case atStart => exact ⟨_, _, nq, rfl, rfl, rfl, HG0⟩
  case round =>
    obtain ⟨dg, lf, N, rfl, rfl, rfl, HG⟩ := hrel
    obtain ⟨g1, g2, g3, g4⟩ := (unhide HG).bounds hv1 b20 b21 ht1
    have g0 := (unhide HG).d0
    have l0 := (unhide HG).l0
    clear tq tm HG0 q1 q0 m0 m1 w3
    have hw1 : IntKind.i64.wrap (dg * v2) = dg * v2 := by rw [IntKind.wrap_i64]; omega
    have hw2 : IntKind.i64.wrap (lf * 65536) = lf * 65536 := by rw [IntKind.wrap_i64]; omega
    have hw3 : IntKind.i64.wrap ((m : Int) - 2) = (m : Int) - 2 := by rw [IntKind.wrap_i64]; omega
    have hw4 : IntKind.i64.wrap (lf * 65536 + u2) = lf * 65536 + u2 := by rw [IntKind.wrap_i64]; omega
    by_cases hge : 65536 ≤ dg
    · have hsm := (unhide HG).small (by omega) (unhide ht2) hge
      obtain ⟨hd, hn⟩ := (unhide HG).next (by omega) a20 (.inl hge)
      have HN := hide hn
      have hd1 : decide (lf < 65536) = true := decide_eq_true hsm
      have hd2 : decide ((65536 : Int) ≤ dg) = true := decide_eq_true hge
      clear hn
      go_wp2
      go_quiet (fail)
      go_wp2
      go_roundw
      case rel => exact ⟨_, _, _, rfl, rfl, rfl, HN⟩
      case measure => simp [intOf]; omega
    · have hged : decide ((65536 : Int) ≤ dg) = false := by simp; omega
      by_cases hll : lf < 65536
      · have hd1 : decide (lf < 65536) = true := decide_eq_true hll
        by_cases hgt : lf * 65536 + u2 < dg * v2
        · obtain ⟨hd, hn⟩ := (unhide HG).next (by omega) a20 (.inr hgt)
          have HN := hide hn
          clear hn
          go_wp2
          go_quiet (fail)
          go_wp2
          go_roundw
          case rel => exact ⟨_, _, _, rfl, rfl, rfl, HN⟩
          case measure => simp [intOf]; omega
        · have HS := hide ((unhide HG).stop (by omega) (by omega))
          go_wp2
          go_quiet (fail)
          go_wp2
          go_ret
          exact ⟨dg, N + nq, rfl, by simp [World.drewN, Nat.add_assoc], by rw [unhide HT]; exact unhide HS⟩
      · have hd1 : decide (lf < 65536) = false := decide_eq_false hll
        have HS := hide ((unhide HG).stop (by omega) ((unhide HG).great (by omega) (by omega) b20 b21 a20))
        go_wp2
        go_quiet (fail)
        go_wp2
        go_ret
        exact ⟨dg, N + nq, rfl, by simp [World.drewN, Nat.add_assoc], by rw [unhide HT]; exact unhide HS⟩

theorem less_arith (t : Int) (h : t < 0) : (-t + 65536 - 1) / 65536 = -(t / 65536) ∧ t + -(t / 65536) * 65536 = t % 65536 := by
  constructor <;> omega

set_option maxHeartbeats 4000000 in
theorem lessS_any (base : Nat) (w : World) (g L : Nat) (qs : List Int) (b off m : Nat) (ys : List Int) (j c' : Nat) (d : Int) (hw : Win base w g L qs b off m ys) (hj : j + m < L) (hm : 1 ≤ m) (hbs : b < w.heap.size) (d0 : 0 ≤ d) (d1 : d ≤ 65535) :
    Calls Tryz.prog 103 #[.slice (some ⟨g, 0, none⟩) L L, .slice (some ⟨b, off, none⟩) m c', .int .i64 j, .int .i64 d] w fun e w' =>
      ∃ lf, e = .returned (.int .i64 lf) ∧ 0 ≤ lf ∧ (0 < lf ↔ val ((qs.drop j).take (m + 1)) - d * val ys < 0) ∧ Took base w g L qs j m ((val ((qs.drop j).take (m + 1)) - d * val ys) % 65536 ^ (m + 1)) w' := by
  have HW := hide hw
  have htop := hw.top
  have hbg := hw.ne
  clear hw
  go_enter Tryz.func103, Tryz.ntmps103
  go_wp2
  go_loopw [9, 10] (fun cv iv wr => ∃ (k : Nat) (lf : Int) (zs : List Int), k ≤ m + 1 ∧ iv = .int .i64 k ∧ cv = .int .i64 lf ∧ 0 ≤ lf ∧ lf ≤ 65536 ∧ Hid (Acc zs k (-lf) (val (((qs.drop j).take (m + 1)).take k) - d * val (ys.take k))) ∧
      Hid (wr.ownsRow base 3 1 (.slice (some ⟨g, 0, none⟩) L L) L ((mixW qs j zs).map (Value.int .i64))) ∧ Hid (But g (g + 1) w wr)) (fun _ iv _ => m + 1 - (intOf iv).toNat)
  case atStart => exact ⟨0, 0, [], Nat.zero_le _, rfl, rfl, by omega, by omega, hide (by simpa [val] using Acc.start), hide (by rw [mixW_nil]; exact (unhide HW).own), hide (But.refl _ _ _)⟩
  case round =>
    obtain ⟨k, lf, zs, hk, rfl, rfl, hc0, hc1, HA, HO, HB⟩ := hrel
    by_cases hlt : k ≤ m
    · have hyb := okL_get (unhide HW).yok k
      have hqb := okL_get (unhide HW).ok (j + k)
      have hvy := hide (val_take_succ ys k)
      have hvq := hide (val_take_succ ((qs.drop j).take (m + 1)) k)
      rw [win_get qs j k (m + 1) (by omega)] at hvq
      have SY : Hid (Sl wr (some ⟨b, off, none⟩) ys) := hide (.inr ⟨b, off, rfl, Nat.lt_of_lt_of_le hbs (unhide HB).size, fun i hi => (unhide HB).cell ((unhide HW).cells i (by rw [← (unhide HW).ylen]; exact hi)) (by omega)⟩)
      have LY := hide (fun w h => limb_any (some ⟨b, off, none⟩) m c' ys k w h (unhide HW).ylen)
      have HZL := hide (unhide HA).len
      obtain ⟨r1, r2, _⟩ := mixW_owns (unhide HO) (unhide HW).len (unhide HA).len (show j + k < L by omega) 0
      have R3 := hide (fun D => (mixW_owns (owns_drewN (unhide HO) 0) (unhide HW).len (unhide HA).len (show j + k < L by omega) D).2.2)
      clear R3
      generalize ys.getD k 0 = y at *
      generalize hqd : qs.getD (j + k) 0 = q at *
      have HQD := hide hqd
      clear hqd
      obtain ⟨hy0, hy1⟩ := hyb
      obtain ⟨hq0, hq1⟩ := hqb
      obtain ⟨hm0, hm1⟩ := mul_bound d0 d1 hy0 hy1
      have hle : (k : Int) ≤ (m : Int) := by omega
      have HA2 := hide ((unhide HA).step (q - d * y - lf))
      have t0 : ((j : Int) + (k : Int)).toNat = j + k := by omega
      have i9 : (j : Int) + (k : Int) < (L : Int) := by omega
      have i10 : (0 : Int) ≤ (j : Int) + (k : Int) := by omega
      have w0 : IntKind.i64.wrap ((j : Int) + (k : Int)) = (j : Int) + (k : Int) := by rw [IntKind.wrap_i64]; omega
      have w1 : IntKind.i64.wrap (d * y) = d * y := by rw [IntKind.wrap_i64]; omega
      have w2 : IntKind.i64.wrap (q - d * y) = q - d * y := by rw [IntKind.wrap_i64]; omega
      have w3 : IntKind.i64.wrap (q - d * y - lf) = q - d * y - lf := by rw [IntKind.wrap_i64]; omega
      by_cases hneg : q - d * y - lf < 0
      · obtain ⟨la1, la2⟩ := less_arith _ hneg
        go_wp2
        go_quiet ((go_at_call 109; exact Calls.quiet_of_same (unhide LY _ ((unhide SY).drewN _))))
        have HOd := hide (owns_drewN (unhide HO) nq)
        have HBd := hide ((unhide HB).drewN nq)
        clear HO HB SY LY r1 r2 w0 w1 w2 w3
        generalize wr.drewN nq = wq at *
        obtain ⟨t, HTT⟩ : ∃ t, Hid (q - d * y - lf = t) := ⟨_, hide rfl⟩
        obtain ⟨r1, r2, r3⟩ := mixW_owns (unhide HOd) (unhide HW).len (unhide HZL) (show j + k < L by omega) (t % 65536)
        have R3 := hide r3
        have HB2 := hide ((unhide HBd).set (p := ⟨g, j + k, none⟩) (Nat.le_refl _) (Nat.lt_succ_self _) (.int .i64 (t % 65536)))
        rw [unhide HTT] at hneg la1 la2 HA2 ⊢
        have tl : t < 0 ∧ -4294967296 ≤ t := ⟨hneg, by have := unhide HTT; omega⟩
        obtain ⟨_, tl2⟩ := tl
        clear r3 HOd
        go_wp2
        go_roundw
        case rel => exact ⟨k + 1, -(t / 65536), _, by omega, by go_num, by first | rfl | (congr 1; done) | (congr 1; omega), by omega, by have := unhide HTT; omega, hide ((by rw [Int.neg_neg]; exact (unhide HA2).cast (by rw [unhide hvq, unhide hvy, ← unhide HTT, show q - d * y - lf - -lf = q - d * y by omega, Int.mul_add d, Int.mul_sub, ← Int.mul_assoc, ← Int.mul_assoc, Int.mul_comm d (65536 ^ k)]; omega))), by first | exact R3 | (have := R3; simpa using this), by first | exact HB2 | (have := HB2; simpa using this)⟩
        case measure => simp [intOf]; omega
      · go_wp2
        go_quiet ((go_at_call 109; exact Calls.quiet_of_same (unhide LY _ ((unhide SY).drewN _))))
        have HOd := hide (owns_drewN (unhide HO) nq)
        have HBd := hide ((unhide HB).drewN nq)
        clear HO HB SY LY r1 r2 w0 w1 w2 w3
        generalize wr.drewN nq = wq at *
        obtain ⟨t, HTT⟩ : ∃ t, Hid (q - d * y - lf = t) := ⟨_, hide rfl⟩
        obtain ⟨r1, r2, r3⟩ := mixW_owns (unhide HOd) (unhide HW).len (unhide HZL) (show j + k < L by omega) t
        have R3 := hide r3
        have HB2 := hide ((unhide HBd).set (p := ⟨g, j + k, none⟩) (Nat.le_refl _) (Nat.lt_succ_self _) (.int .i64 t))
        rw [unhide HTT] at hneg HA2 ⊢
        have tl : 0 ≤ t ∧ t ≤ 65535 := ⟨by omega, by have := unhide HTT; omega⟩
        obtain ⟨tl1, tl2⟩ := tl
        clear r3 HOd
        go_wp2
        go_roundw
        case rel => exact ⟨k + 1, 0, _, by omega, by go_num, rfl, by omega, by omega, hide (by
          have := (unhide HA2).cast (V' := val (((qs.drop j).take (m + 1)).take (k + 1)) - d * val (ys.take (k + 1))) (by rw [unhide hvq, unhide hvy, ← unhide HTT, show q - d * y - lf - -lf = q - d * y by omega, Int.mul_add d, Int.mul_sub, ← Int.mul_assoc, ← Int.mul_assoc, Int.mul_comm d (65536 ^ k)]; omega)
          rw [show t % 65536 = t by omega, show t / 65536 = -0 by omega] at this
          exact this), R3, HB2⟩
        case measure => simp [intOf]; omega
    · obtain rfl : k = m + 1 := by omega
      have hgt : ¬ ((m : Int) + 1 ≤ (m : Int)) := by omega
      go_wp2
      go_ret
      have hA : Acc zs (m + 1) (-lf) (val ((qs.drop j).take (m + 1)) - d * val ys) := (unhide HA).cast (by
        rw [List.take_of_length_le (l := (qs.drop j).take (m + 1)) (by rw [List.length_take]; omega), List.take_of_length_le (l := ys) (by rw [(unhide HW).ylen]; omega)])
      obtain ⟨m1, m2⟩ := hA.mod
      exact ⟨lf, rfl, hc0, by rw [← m2]; omega, _, unhide HB, hA.len, hA.ok, m1, unhide HO⟩

set_option maxHeartbeats 4000000 in
theorem backS_any (base : Nat) (w : World) (g L : Nat) (qs : List Int) (b off m : Nat) (ys : List Int) (j c' : Nat) (hw : Win base w g L qs b off m ys) (hj : j + m < L) (hm : 1 ≤ m) (hbs : b < w.heap.size) :
    Calls Tryz.prog 104 #[.slice (some ⟨g, 0, none⟩) L L, .slice (some ⟨b, off, none⟩) m c', .int .i64 j] w fun e w' =>
      e = .returned (.tuple #[]) ∧ Took base w g L qs j m ((val ((qs.drop j).take (m + 1)) + val ys) % 65536 ^ (m + 1)) w' := by
  have HW := hide hw
  have htop := hw.top
  have hbg := hw.ne
  clear hw
  go_enter Tryz.func104, Tryz.ntmps104
  go_wp2
  go_loopw [6, 7] (fun cv iv wr => ∃ (k : Nat) (cy : Int) (zs : List Int), k ≤ m + 1 ∧ iv = .int .i64 k ∧ cv = .int .i64 cy ∧ 0 ≤ cy ∧ cy ≤ 1 ∧ Hid (Acc zs k cy (val (((qs.drop j).take (m + 1)).take k) + val (ys.take k))) ∧
      Hid (wr.ownsRow base 3 1 (.slice (some ⟨g, 0, none⟩) L L) L ((mixW qs j zs).map (Value.int .i64))) ∧ Hid (But g (g + 1) w wr)) (fun _ iv _ => m + 1 - (intOf iv).toNat)
  case atStart => exact ⟨0, 0, [], Nat.zero_le _, rfl, rfl, by omega, by omega, hide (by simpa [val] using Acc.start), hide (by rw [mixW_nil]; exact (unhide HW).own), hide (But.refl _ _ _)⟩
  case round =>
    obtain ⟨k, cy, zs, hk, rfl, rfl, hc0, hc1, HA, HO, HB⟩ := hrel
    by_cases hlt : k ≤ m
    · have hyb := okL_get (unhide HW).yok k
      have hqb := okL_get (unhide HW).ok (j + k)
      have hvy := hide (val_take_succ ys k)
      have hvq := hide (val_take_succ ((qs.drop j).take (m + 1)) k)
      rw [win_get qs j k (m + 1) (by omega)] at hvq
      have SY : Hid (Sl wr (some ⟨b, off, none⟩) ys) := hide (.inr ⟨b, off, rfl, Nat.lt_of_lt_of_le hbs (unhide HB).size, fun i hi => (unhide HB).cell ((unhide HW).cells i (by rw [← (unhide HW).ylen]; exact hi)) (by omega)⟩)
      have LY := hide (fun w h => limb_any (some ⟨b, off, none⟩) m c' ys k w h (unhide HW).ylen)
      have HZL := hide (unhide HA).len
      obtain ⟨r1, r2, _⟩ := mixW_owns (unhide HO) (unhide HW).len (unhide HA).len (show j + k < L by omega) 0
      generalize ys.getD k 0 = y at *
      generalize hqd : qs.getD (j + k) 0 = q at *
      have HQD := hide hqd
      clear hqd
      obtain ⟨hy0, hy1⟩ := hyb
      obtain ⟨hq0, hq1⟩ := hqb
      have hle : (k : Int) ≤ (m : Int) := by omega
      have HA2 := hide ((unhide HA).step (q + y + cy))
      have t0 : ((j : Int) + (k : Int)).toNat = j + k := by omega
      have i9 : (j : Int) + (k : Int) < (L : Int) := by omega
      have i10 : (0 : Int) ≤ (j : Int) + (k : Int) := by omega
      have w0 : IntKind.i64.wrap ((j : Int) + (k : Int)) = (j : Int) + (k : Int) := by rw [IntKind.wrap_i64]; omega
      have w1 : IntKind.i64.wrap (q + y) = q + y := by rw [IntKind.wrap_i64]; omega
      have w2 : IntKind.i64.wrap (q + y + cy) = q + y + cy := by rw [IntKind.wrap_i64]; omega
      go_wp2
      go_quiet ((go_at_call 109; exact Calls.quiet_of_same (unhide LY _ ((unhide SY).drewN _))))
      have HOd := hide (owns_drewN (unhide HO) nq)
      have HBd := hide ((unhide HB).drewN nq)
      clear HO HB SY LY r1 r2 w0 w1 w2
      generalize wr.drewN nq = wq at *
      obtain ⟨r1, r2, r3⟩ := mixW_owns (unhide HOd) (unhide HW).len (unhide HZL) (show j + k < L by omega) ((q + y + cy) % 65536)
      have R3 := hide r3
      have HB2 := hide ((unhide HBd).set (p := ⟨g, j + k, none⟩) (Nat.le_refl _) (Nat.lt_succ_self _) (.int .i64 ((q + y + cy) % 65536)))
      clear r3 HOd
      go_wp2
      go_roundw
      case rel => exact ⟨k + 1, _, _, by omega, by go_num, rfl, by omega, by omega, hide ((unhide HA2).cast (by rw [unhide hvq, unhide hvy, show q + y + cy - cy = q + y by omega, Int.mul_add]; omega)), R3, HB2⟩
      case measure => simp [intOf]; omega
    · obtain rfl : k = m + 1 := by omega
      have hgt : ¬ ((m : Int) + 1 ≤ (m : Int)) := by omega
      go_wp2
      refine bodyPost_end (v := .tuple #[]) (by simp [results, Tryz.results104, go_sem]) rfl ?_
      have hA : Acc zs (m + 1) cy (val ((qs.drop j).take (m + 1)) + val ys) := (unhide HA).cast (by
        rw [List.take_of_length_le (l := (qs.drop j).take (m + 1)) (by rw [List.length_take]; omega), List.take_of_length_le (l := ys) (by rw [(unhide HW).ylen]; omega)])
      exact ⟨rfl, _, unhide HB, hA.len, hA.ok, hA.mod.1, unhide HO⟩
end Go.Proofs.YtdgonpbponnnaaaGreatDoor
