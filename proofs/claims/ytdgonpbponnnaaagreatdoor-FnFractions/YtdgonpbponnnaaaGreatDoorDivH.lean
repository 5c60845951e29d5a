/- Quotients of limbs by others: the specification's l1DivLimbs. No condition beyond those typed. -/
import Derived.Test.YtdgonpbponnnaaaGreatDoorDivV
namespace Go.Proofs.YtdgonpbponnnaaaGreatDoor
open Go.RowKit
set_option linter.unusedVariables false
set_option maxRecDepth 100000
set_option linter.unusedSimpArgs false

theorem lead_le {qs ys : List Int} {j m : Nat} (hq : okL qs) (hy : okL ys) (ty : trim ys = ys) (hl : ys.length = m) (hm : 1 ≤ m) (h : val ((qs.drop j).take (m + 1)) < val ys * 65536) : qs.getD (j + m) 0 ≤ ys.getD (m - 1) 0 := by
  have e := val_take_succ ((qs.drop j).take (m + 1)) m
  rw [win_get qs j m (m + 1) (by omega), List.take_of_length_le (i := m + 1) (by rw [List.length_take]; omega)] at e
  have p0 := val_nonneg (okL_take (okL_take (okL_drop hq j) (m + 1)) m)
  obtain ⟨_, t2, _⟩ := top_pos hy ty hl hm
  have hp : (0 : Int) < 65536 ^ (m - 1) := Int.pow_pos (by omega)
  have e2 : (65536 : Int) ^ m = 65536 ^ (m - 1) * 65536 := by have := Int.pow_succ (65536 : Int) (m - 1); rw [show (m - 1).succ = m by omega] at this; exact this
  generalize ys.getD (m - 1) 0 = y at *
  generalize qs.getD (j + m) 0 = u at *
  rcases Int.lt_or_le y u with h' | h'
  · exfalso
    have h1 : 65536 ^ m * (y + 1) ≤ 65536 ^ m * u := Int.mul_le_mul_of_nonneg_left (by omega) (by omega)
    have h2 : 65536 ^ m * (y + 1) = 65536 ^ (m - 1) * (y + 1) * 65536 := by rw [e2, Int.mul_right_comm]
    omega
  · exact h'
theorem bits_next {y : Int} {s : Nat} (hy : 1 ≤ y) (h : y * 2 ^ s < 32768) : y * 2 ^ (s + 1) < 65536 ∧ s < 15 := by
  have hp : (0 : Int) < 2 ^ s := Int.pow_pos (by omega)
  constructor
  · rw [Int.pow_succ, ← Int.mul_assoc]; omega
  · rcases Nat.lt_or_ge s 15 with h' | h'
    · exact h'
    · have h1 : 1 * (2 : Int) ^ s ≤ y * 2 ^ s := Int.mul_le_mul_of_nonneg_right hy (by omega)
      have h2 : (2 : Int) ^ 15 ≤ 2 ^ s := by
        have := Nat.pow_le_pow_right (show 0 < 2 by omega) h'
        exact_mod_cast this
      omega

set_option maxHeartbeats 8000000 in
theorem longS_any (b0 off0 : Nat) (a0 : Option Addr) (m e c0 c' : Nat) (xs ys : List Int) (w : World) (hx0 : Arg w a0 (m + e) c0 xs) (hy : Arg w (some ⟨b0, off0, none⟩) m c' ys) (ox : okL xs) (tx : trim xs = xs) (oy : okL ys) (ty : trim ys = ys) (hm : 2 ≤ m) (h1 : m + e ≤ 900000) (hge : ¬ cmpL xs ys < 0) :
    Calls Tryz.prog 79 #[.slice a0 (m + e) c0, .slice (some ⟨b0, off0, none⟩) m c'] w (Out2 w (val xs / val ys) (val xs % val ys)) := by
  obtain ⟨i0, hi, hz0, hz1, hz2⟩ := info_parts Tryz.info3
  have HX0 := hide hx0
  have HY := hide hy
  obtain ⟨tp1, tp2, tp3⟩ := top_pos oy ty hy.len (by omega)
  have hty := (okL_get oy (m - 1)).2
  have hcy : w.cell? ⟨b0, off0 + (m - 1), none⟩ = some (.int .i64 (ys.getD (m - 1) 0)) := by
    rcases hy.sl with h | ⟨b', off', h, _, hc⟩
    · have := hy.len; rw [h] at this; simp at this; omega
    · simp only [Option.some.injEq, Addr.mk.injEq, and_true] at h
      obtain ⟨rfl, rfl⟩ := h
      exact hc (m - 1) (by rw [hy.len]; omega)
  obtain ⟨y1, HY1⟩ : ∃ y1, Hid (ys.getD (m - 1) 0 = y1) := ⟨_, hide rfl⟩
  have HSL := hide (fun s => shift_len (m := m) (s := s) oy ty hy.len (by omega))
  rw [unhide HY1] at tp1 hty hcy HSL
  have HC := hide (fun w1 a n c (h : Arg w1 a n c xs) (hn : n = m + e) (k : Arg w1 (some ⟨b0, off0, none⟩) m c' ys) => cmpS_any a (some ⟨b0, off0, none⟩) n m c c' xs ys w1 h.sl k.sl h.len k.len (Nat.le_trans h.cap h.top) (Nat.le_trans k.cap k.top))
  clear hx0 hy tp2 tp3
  have t1 : ((m : Int) - 1).toNat = m - 1 := by omega
  have i1 : (0 : Int) ≤ (m : Int) - 1 := by omega
  have i2 : (m : Int) - 1 < (m : Int) := by omega
  have hm1' : ((m : Int) == 1) = false := by simp; omega
  go_enter Tryz.func79, Tryz.ntmps79
  go_wp2_with fail
  refine (cut_any a0 (m + e) c0 xs w (unhide HX0) (by omega)).mono ?_
  rintro e' wa ⟨a, na, c, rfl, hba, hoa, haa⟩
  rw [tx] at hoa haa
  obtain rfl : na = m + e := by have := haa.len; have := (unhide HX0).len; omega
  have HXA := hide haa
  have HYA := hide ((unhide HY).later hba)
  have HBA := hide hba
  have hcy1 := cell_later hba hcy
  clear hba hoa haa hcy
  go_wp2_with fail
  refine (unhide HC wa a (m + e) c (unhide HXA) rfl (unhide HYA)).mono ?_
  rintro e' wb ⟨rfl, hbb⟩
  have HX := hide ((unhide HXA).later hbb)
  replace HY := hide ((unhide HYA).later hbb)
  have HBB := hide (below_on (unhide HBA) hbb)
  have hcy := cell_later hbb hcy1
  clear hbb hcy1 HXA HYA HBA HC
  go_wp2
  go_loop [6] (fun sv => ∃ s : Nat, sv = .int .i64 s ∧ s ≤ 15 ∧ Hid (y1 * 2 ^ s < 65536)) (fun sv => (15 - intOf sv).toNat)
  case atStart => exact ⟨0, rfl, by omega, hide (by simp; omega)⟩
  case round =>
    obtain ⟨s, rfl, hs15, HS⟩ := hrel
    obtain ⟨pp, HPP⟩ : ∃ pp : Int, Hid (y1 * 2 ^ s = pp) := ⟨_, hide rfl⟩
    have hws : IntKind.u64.wrap (s : Int) = s := by rw [IntKind.wrap_u64]; omega
    have hpb : 0 ≤ pp ∧ pp < 65536 := by
      have h0 : (0 : Int) < 2 ^ s := Int.pow_pos (by omega)
      have h1 := Int.mul_nonneg (show 0 ≤ y1 by omega) (Int.le_of_lt h0)
      rw [unhide HPP] at h1
      have h2 := unhide HS
      rw [unhide HPP] at h2
      exact ⟨h1, h2⟩
    obtain ⟨hp00, hp01⟩ := hpb
    have hpe := unhide HPP
    by_cases hsl : pp < 32768
    · obtain ⟨n1, n2⟩ := bits_next (s := s) tp1 (by rw [hpe]; exact hsl)
      have HN1 := hide n1
      clear n1
      go_wp2
      go_round
      case rel => exact ⟨s + 1, by go_num, by omega, HN1⟩
      case measure => simp [intOf]; omega
    · clear hws
      have HL := hide (unhide HSL s (unhide HS) hs15 (pow2_div s hs15))
      obtain ⟨p, HP⟩ : ∃ p : Int, Hid ((2 : Int) ^ s = p) := ⟨_, hide rfl⟩
      have hp0 : 0 < p := by rw [← unhide HP]; exact (pow2_le s hs15).1
      have hws : IntKind.u64.wrap (s : Int) = s := by rw [IntKind.wrap_u64]; omega
      go_wp2_with fail
      refine (upS_any a (m + e) c xs s wb (unhide HX) ox (by omega) hs15).mono ?_
      rintro e' w1 ⟨g, rs0, rfl, hg, hb1, hown1, rl, ro, rv⟩
      have H1 := hide (And.intro hb1 (And.intro hown1 (And.intro rl (And.intro ro rv))))
      clear hb1 hown1 rl ro rv
      go_wp2_with fail
      refine (upS_any (some ⟨b0, off0, none⟩) m c' ys s w1 ((unhide HY).later (unhide H1).1) oy (by omega) hs15).mono ?_
      rintro e' w2 ⟨gb, bs0, rfl, hgb, hb2, hown2, bl, bo, bv⟩
      have hownb := Own.of_owns hown2 bl
      have hargb : Arg w2 (some ⟨gb, 0, none⟩) (m + 1) (m + 1) bs0 := ⟨hownb.sl, bl, Nat.le_refl _, by unfold maxLen; omega, .inr ⟨_, _, rfl⟩⟩
      have hnmb := Nm.trimmed bo
      rw [bv] at hnmb
      have H2 := hide (And.intro hb2 (And.intro hownb (And.intro hargb hnmb)))
      clear hb2 hown2 bl bo bv hownb hargb hnmb
      go_wp2_with fail
      refine (cut_any _ _ _ _ _ (unhide H2).2.2.1 (by omega)).mono ?_
      rintro e' w3 ⟨a3, n3, c3, rfl, hb3, hown3, harg3⟩
      obtain ⟨vs, HVS⟩ : ∃ vs, Hid (trim bs0 = vs) := ⟨_, hide rfl⟩
      have hnm3 := (unhide H2).2.2.2
      rw [unhide HVS] at harg3 hown3 hnm3
      have hvl : vs.length = m := hnm3.len_eq (by omega) (unhide HL).1 (unhide HL).2
      have hn3 : n3 = m := by have := harg3.len; omega
      subst hn3
      obtain ⟨g3, rfl, hg3, hcells⟩ : ∃ g3, a3 = some ⟨g3, 0, none⟩ ∧ w2.heap.size ≤ g3 ∧ ∀ i, i < n3 → w3.cell? ⟨g3, 0 + i, none⟩ = some (.int .i64 (vs.getD i 0)) := by
        rcases hown3 with h | ⟨b', cur, h, hb', hh, hc⟩
        · rw [h] at hvl; simp at hvl; omega
        · subst h
          rcases harg3.sl with h | ⟨b2, o2, h, _, hc2⟩
          · rw [h] at hvl; simp at hvl; omega
          · simp only [Option.some.injEq, Addr.mk.injEq, and_true] at h
            obtain ⟨rfl, rfl⟩ := h
            exact ⟨_, rfl, hb', fun i hi => hc2 i (by omega)⟩
      have hg3l : g3 < w3.heap.size := World.block_lt_of_cell? _ _ (hcells 0 (by omega))
      have H3 := hide (And.intro hnm3 (And.intro hvl hcells))
      have hgl : g < w1.heap.size := World.block_lt_of_cell? _ _ (row_at (unhide H1).2.1 (unhide H1).2.2.1 (show 0 < n3 + e + 1 by omega))
      have hsz0 : w1.heap.size ≤ w2.heap.size := (unhide H2).1.size
      have hsz : w2.heap.size ≤ w3.heap.size := hb3.size
      have H23 := hide (below_on (unhide H2).1 hb3)
      clear hb3 harg3 hown3 hnm3 hvl hcells
      go_wp2_with (at_make; refine wpList_make_full _ rfl _ _ 23 rfl wb.heap.size 3 i0 (.int .i64 0) 1 Tryz.underlying23 hi hz0 hz1 .i64 .i64 _ _ (e + 1) rfl rfl (by omega) (by omega) (by rw [hz2]; omega) (by unfold maxLen; omega) (by have := (unhide H1).1.size; omega) ?_)
      intro w4 hownq hgrow
      have hb4 : Below w3.heap.size w3 w4 := (Below.refl _ _).grown hgrow (Nat.le_refl _) (fun k e => by cases e)
      have HQ0 : Hid (w4.ownsRow wb.heap.size 3 1 (.slice (some ⟨w3.heap.size, 0, none⟩) (e + 1) (e + 1)) (e + 1) ((rowT (e + 1) []).map (Value.int .i64))) := by
        rw [made_ints] at hownq; exact hide (by unfold rowT; simpa using hownq)
      have HR0 : Hid (w4.ownsRow wb.heap.size 3 1 (.slice (some ⟨g, 0, none⟩) (n3 + e + 1) (n3 + e + 1)) (n3 + e + 1) (rs0.map (Value.int .i64))) :=
        hide (owns_but (g' := g + 1) (owns_but (g' := g + 1) (unhide H1).2.1 (But.of_below (unhide H23)) (by omega)) (But.of_below hb4) (by omega))
      have HC0 : Hid (∀ i, i < n3 → w4.cell? ⟨g3, 0 + i, none⟩ = some (.int .i64 (vs.getD i 0))) := hide (fun i hi => cell_later hb4 ((unhide H3).2.2 i hi))
      have HB0 : Hid (Below wb.heap.size wb w4) := hide (below_on (below_on (unhide H1).1 (unhide H23)) hb4)
      have HD0 : Hid (DivL rs0 [] (e + 1) n3 e (val ys * p) (val xs * p)) := by
        have lx := val_lt ox
        rw [(unhide HX).len] at lx
        have ly := top_le oy ty (by rw [(unhide HY).len]; omega)
        rw [(unhide HY).len] at ly
        exact hide (DivL.start (unhide H1).2.2.1 (unhide H1).2.2.2.1 (by rw [(unhide H1).2.2.2.2, unhide HP]) hp0 (by omega) lx ly)
      have hgq : g ≠ w3.heap.size := by omega
      have hg3q : g3 ≠ w3.heap.size := by omega
      have hgg3 : g3 ≠ g := by omega
      have hwq : wb.heap.size ≤ w3.heap.size := by omega
      have HVP : Hid (0 < val ys * p ∧ val ys * p ≤ 65536 ^ n3) := by
        have := unhide HL
        rw [unhide HP] at this
        have hp : (0 : Int) < 65536 ^ (n3 - 1) := Int.pow_pos (by omega)
        exact hide ⟨by omega, by omega⟩
      have HVV : Hid (Nm vs (val ys * p)) := hide (by have := (unhide H3).1; rw [unhide HP] at this; exact this)
      have HVL := hide (unhide H3).2.1
      have HT1 : Hid (1 ≤ vs.getD (n3 - 1) 0) := hide (top_pos (unhide HVV).ok (unhide HVV).tr (unhide HVL) (by omega)).1
      clear hownq hgrow hb4 H2 H23 H3 HVS hsz hsz0 hgl hg3l t1 i1 i2 tp1 hty HY1 HSL hpe hcy HS HPP
      go_wp2
      go_loopw [10] (fun iv wr => ∃ (k : Nat) (rs zs : List Int), k ≤ e + 1 ∧ iv = .int .i64 ((k : Int) - 1) ∧ Hid (DivL rs zs k n3 e (val ys * p) (val xs * p)) ∧
          Hid (wr.ownsRow wb.heap.size 3 1 (.slice (some ⟨g, 0, none⟩) (n3 + e + 1) (n3 + e + 1)) (n3 + e + 1) (rs.map (Value.int .i64))) ∧
          Hid (wr.ownsRow wb.heap.size 3 1 (.slice (some ⟨w3.heap.size, 0, none⟩) (e + 1) (e + 1)) (e + 1) ((rowT k zs).map (Value.int .i64))) ∧
          Hid (∀ i, i < n3 → wr.cell? ⟨g3, 0 + i, none⟩ = some (.int .i64 (vs.getD i 0))) ∧ Hid (Below wb.heap.size wb wr)) (fun iv _ => (intOf iv + 1).toNat)
      case atStart => exact ⟨e + 1, rs0, [], Nat.le_refl _, by simp <;> omega, HD0, HR0, HQ0, HC0, HB0⟩
      case round =>
        obtain ⟨k, rs, zs, hk, hiv, HD, HR, HQ, HC, HB⟩ := hrel
        cases k with
        | zero =>
          have e1 : (((0 : Nat) : Int) - 1) = -1 := by omega
          rw [e1] at hiv
          subst hiv
          obtain ⟨d1, d2⟩ := (unhide HD).done hp0 (by
            have h1 := (unhide HVP).1
            rcases Int.lt_or_le 0 (val ys) with h' | h'
            · exact h'
            · have := Int.mul_le_mul_of_nonneg_right h' (show 0 ≤ p by omega)
              omega)
          have hzl : zs.length = e + 1 := by have := (unhide HD).zl; omega
          have ho := Own.of_owns (zs := zs) (by have := unhide HQ; unfold rowT at this; simpa using this) hzl
          have harg0 : Arg wr (some ⟨w3.heap.size, 0, none⟩) (e + 1) (e + 1) zs := ⟨ho.sl, hzl, Nat.le_refl _, by unfold maxLen; omega, .inr ⟨_, _, rfl⟩⟩
          have hor := Own.of_owns (zs := rs) (unhide HR) (unhide HD).rl
          have hargr : Arg wr (some ⟨g, 0, none⟩) (n3 + e + 1) (n3 + e + 1) rs := ⟨hor.sl, (unhide HD).rl, Nat.le_refl _, by unfold maxLen; omega, .inr ⟨_, _, rfl⟩⟩
          have H0 := hide (And.intro ho (And.intro harg0 (And.intro hargr (And.intro d1 d2))))
          clear ho harg0 hor hargr hzl e1 d1 d2
          go_wp2_with fail
          refine (cut_any _ _ _ zs _ (unhide H0).2.1 (by omega)).mono ?_
          rintro e' w5 ⟨a5, n5, c5, rfl, hb5, hown, harg⟩
          have HF : Hid (Below wr.heap.size wr w5 ∧ Own wr.heap.size w5 a5 (trim zs) ∧ Arg w5 a5 n5 c5 (trim zs) ∧ Nm (trim zs) (val xs / val ys)) := by
            refine hide ⟨hb5, hown, harg, ?_⟩
            rw [← (unhide H0).2.2.2.1]
            exact Nm.trimmed (unhide HD).zo
          clear hb5 harg hown
          go_wp2_with fail
          refine (cut_any _ _ _ rs _ ((unhide H0).2.2.1.later (unhide HF).1) (by omega)).mono ?_
          rintro e' w6 ⟨a6, n6, c6, rfl, hb6, hown, harg⟩
          have H6 := hide (And.intro hb6 harg)
          have hn6 : n6 ≤ n3 + e + 1 := by have h1 := harg.len; have h2 := trim_len rs; have h3 := (unhide HD).rl; omega
          clear hb6 harg hown
          go_wp2_with fail
          refine (downS_any _ _ _ (trim rs) s _ (unhide H6).2 (okL_trim (unhide HD).ro) (by omega) hs15).mono ?_
          rintro e' w7 ⟨a7, n7, c7, ts, rfl, hb7, ho7, ha7, hn7⟩
          have HG : Hid (Below wb.heap.size wb w7 ∧ (Own wb.heap.size w7 a5 (trim zs) ∧ Arg w7 a5 n5 c5 (trim zs)) ∧ Own wb.heap.size w7 a7 ts ∧ Arg w7 a7 n7 c7 ts ∧ Nm ts (val xs % val ys) ∧ Apart a5 (trim zs) a7 ts) := by
            have b67 := below_on (unhide H6).1 hb7
            refine hide ⟨below_on (below_on (unhide HB) (unhide HF).1) b67, ⟨((unhide HF).2.1.mono (unhide HB).size).later b67, (unhide HF).2.2.1.later b67⟩, ho7.mono (Nat.le_trans (unhide HB).size (Nat.le_trans (unhide HF).1.size (unhide H6).1.size)), ha7, ?_, apart_of (unhide HF).2.1 (ho7.mono (unhide H6).1.size)⟩
            rw [val_trim, unhide HP, (unhide H0).2.2.2.2] at hn7
            exact hn7
          clear hb7 ho7 ha7 hn7
          go_wp2
          go_ret2
          have hbs := (unhide HBB).size
          exact ⟨a5, n5, c5, _, a7, n7, c7, _, rfl, below_on (unhide HBB) (unhide HG).1, (unhide HG).2.1.1.mono hbs, (unhide HG).2.1.2, (unhide HF).2.2.2, (unhide HG).2.2.1.mono hbs, (unhide HG).2.2.2.1, (unhide HG).2.2.2.2.1, (unhide HG).2.2.2.2.2⟩
        | succ j =>
          have e1 : (((j + 1 : Nat) : Int) - 1) = j := by omega
          rw [e1] at hiv
          subst hiv
          clear e1
          have hwin : Win wb.heap.size wr g (n3 + e + 1) rs g3 0 n3 vs := ⟨unhide HR, (unhide HD).rl, (unhide HD).ro, by omega, hgg3, unhide HC, unhide HVL, (unhide HVV).ok⟩
          obtain ⟨z1, z2, z3⟩ := (unhide HD).zero (unhide HVP).2
          have hPV : val ((rs.drop j).take (n3 + 1)) < val vs * 65536 := by rw [z2, (unhide HVV).v]; exact z3
          have HPV := hide hPV
          have HWIN := hide hwin
          have hg3r : g3 < wr.heap.size := World.block_lt_of_cell? _ _ (unhide HC 0 (by omega))
          have HLE := hide (lead_le (unhide HD).ro (unhide HVV).ok (unhide HVV).tr (unhide HVL) (by omega) hPV)
          clear hwin z1 z2 z3 hPV
          have i1 : (0 : Int) ≤ (j : Int) := by omega
          have i4 : (j : Int) < (e : Int) + 1 := by omega
          go_wp2_with fail
          refine (guessS_any wb.heap.size wr g (n3 + e + 1) rs g3 0 n3 vs j c3 (unhide HWIN) (by omega) hm (unhide HT1) (unhide HLE)).mono ?_
          rintro e' w5 ⟨d, N, rfl, rfl, hg⟩
          have hgood := guess_good (unhide HD).ro (unhide HVV).ok (unhide HVL) hm (unhide HT1) (unhide HPV) hg
          have d0 := hg.d0
          have d1 := hg.d1
          have hVB : val vs ≤ 65536 ^ (n3 + 1) := by
            have h1 := (unhide HVP).2
            rw [(unhide HVV).v]
            have h2 := pow_mono (show n3 ≤ n3 + 1 by omega)
            omega
          have HM := hide (take_math (by rw [(unhide HVV).v]; exact (unhide HVP).1) hVB hgood.1 hgood.2)
          clear hg hgood hVB
          go_wp2_with fail
          refine (lessS_any wb.heap.size (wr.drewN N) g (n3 + e + 1) rs g3 0 n3 vs j c3 d ((unhide HWIN).drewN N) (by omega) (by omega) hg3r d0 d1).mono ?_
          rintro e' w5 ⟨lf, rfl, lf0, hlf, ht⟩
          have HT := hide ht.drewN
          have HLF := hide hlf
          clear ht hlf
          by_cases hneg : 0 < lf
          · obtain ⟨zs1, z1, z2, z3, hb, hw1⟩ := (unhide HT).win (unhide HWIN) (by omega)
            have HZ := hide (And.intro z1 (And.intro z2 (And.intro z3 (And.intro hb hw1))))
            have HMM := hide ((unhide HM).1 ((unhide HLF).1 hneg))
            have hg35 : g3 < w5.heap.size := Nat.lt_of_lt_of_le hg3r hb.size
            clear z1 z2 z3 hb hw1
            go_wp2_with fail
            refine (backS_any wb.heap.size w5 g (n3 + e + 1) (mixW rs j zs1) g3 0 n3 vs j c3 (unhide HZ).2.2.2.2 (by omega) (by omega) hg35).mono ?_
            rintro e' w6 ⟨rfl, ht2⟩
            have HF : Hid (Took wb.heap.size wr g (n3 + e + 1) rs j n3 (val ((rs.drop j).take (n3 + 1)) % val vs) w6) := by
              obtain ⟨zs2, b2, l2, k2, v2, o2⟩ := ht2
              have hl := (unhide HD).rl
              refine hide ⟨zs2, (unhide HZ).2.2.2.1.trans b2, l2, k2, ?_, ?_⟩
              · rw [v2, mixW_win rs j zs1 (by omega) (unhide HZ).1, (unhide HZ).2.2.1]
                exact (unhide HMM).2
              · rw [mixW_mixW rs j zs1 zs2 (by rw [(unhide HZ).1]; omega) (by rw [(unhide HZ).1, l2])] at o2
                exact o2
            have HDE := hide (unhide HMM).1
            clear ht2 HZ HMM HM HT HLF
            obtain ⟨ws, wl, wo, wv, hbut, hwin5⟩ := (unhide HF).win (unhide HWIN) (by omega)
            have HD6 := hide ((unhide HD).step (ws := ws) (unhide HVP).1 (unhide HVP).2 wl wo (by rw [wv, (unhide HVV).v]))
            rw [← (unhide HVV).v, ← unhide HDE, (unhide HVV).v] at HD6
            have hq5 := owns_but (unhide HQ) hbut (by omega)
            obtain ⟨⟨y, r1⟩, r2, r3⟩ := rowT_owns hq5 (unhide HD).zl (d - 1)
            have hb6 : But w3.heap.size (w3.heap.size + 1) w6 (w6.setCell ⟨w3.heap.size, j, none⟩ (.int .i64 (d - 1))) := (But.refl _ _ _).set (p := ⟨w3.heap.size, j, none⟩) (Nat.le_refl _) (Nat.lt_succ_self _) _
            have HR6 := hide (owns_but hwin5.own hb6 hgq)
            have HC6 : Hid (∀ i, i < n3 → (w6.setCell ⟨w3.heap.size, j, none⟩ (.int .i64 (d - 1))).cell? ⟨g3, 0 + i, none⟩ = some (.int .i64 (vs.getD i 0))) := hide (fun i hi => hb6.cell (hwin5.cells i hi) (by omega))
            have HB6 := hide (but_below hb6 (but_below hbut (unhide HB) hg) hwq)
            have HQ6 := hide r3
            clear wl wo wv hbut hwin5 hq5 r3 hb6 HWIN HD HR HQ HC HB HF HDE
            go_wp2
            go_roundw
            case rel => exact ⟨j, _, _, by omega, rfl, HD6, HR6, HQ6, HC6, HB6⟩
            case measure => simp [intOf]
          · have HMM := hide ((unhide HM).2 (by have := unhide HLF; omega))
            have HF : Hid (Took wb.heap.size wr g (n3 + e + 1) rs j n3 (val ((rs.drop j).take (n3 + 1)) % val vs) w5) := hide (by rw [← (unhide HMM).2]; exact unhide HT)
            have HDE := hide (unhide HMM).1
            clear HMM HM HT HLF
            obtain ⟨ws, wl, wo, wv, hbut, hwin5⟩ := (unhide HF).win (unhide HWIN) (by omega)
            have HD6 := hide ((unhide HD).step (ws := ws) (unhide HVP).1 (unhide HVP).2 wl wo (by rw [wv, (unhide HVV).v]))
            rw [← (unhide HVV).v, ← unhide HDE, (unhide HVV).v] at HD6
            have hq5 := owns_but (unhide HQ) hbut (by omega)
            obtain ⟨⟨y, r1⟩, r2, r3⟩ := rowT_owns hq5 (unhide HD).zl d
            have hb6 : But w3.heap.size (w3.heap.size + 1) w5 (w5.setCell ⟨w3.heap.size, j, none⟩ (.int .i64 d)) := (But.refl _ _ _).set (p := ⟨w3.heap.size, j, none⟩) (Nat.le_refl _) (Nat.lt_succ_self _) _
            have HR6 := hide (owns_but hwin5.own hb6 hgq)
            have HC6 : Hid (∀ i, i < n3 → (w5.setCell ⟨w3.heap.size, j, none⟩ (.int .i64 d)).cell? ⟨g3, 0 + i, none⟩ = some (.int .i64 (vs.getD i 0))) := hide (fun i hi => hb6.cell (hwin5.cells i hi) (by omega))
            have HB6 := hide (but_below hb6 (but_below hbut (unhide HB) hg) hwq)
            have HQ6 := hide r3
            clear wl wo wv hbut hwin5 hq5 r3 hb6 HWIN HD HR HQ HC HB HF HDE
            go_wp2
            go_roundw
            case rel => exact ⟨j, _, _, by omega, rfl, HD6, HR6, HQ6, HC6, HB6⟩
            case measure => simp [intOf]
end Go.Proofs.YtdgonpbponnnaaaGreatDoor
