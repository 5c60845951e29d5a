/- Quotients of limbs by two limbs or more: the program's divLong. No condition beyond those typed. -/
import Derived.Test.YtdgonpbponnnaaaGreatDoorDivK
namespace Go.Proofs.YtdgonpbponnnaaaGreatDoor
open Go.RowKit
set_option linter.unusedVariables false
set_option maxRecDepth 100000
set_option linter.unusedSimpArgs false

set_option maxHeartbeats 8000000 in
theorem longI_any (b0 off0 : Nat) (a : Option Addr) (m e c c' : Nat) (xs ys : List Int) (w : World) (hx : Arg w a (m + e) c xs) (hy : Arg w (some ⟨b0, off0, none⟩) m c' ys) (ox : okL xs) (oy : okL ys) (ty : trim ys = ys) (hm : 2 ≤ m) (h1 : m + e ≤ 900000) :
    Calls Tryz.prog 99 #[.slice a (m + e) c, .slice (some ⟨b0, off0, none⟩) m c'] w (Out2 w (val xs / val ys) (val xs % val ys)) := by
  obtain ⟨i0, hi, hz0, hz1, hz2⟩ := info_parts Tryz.info3
  have HX := hide hx
  have HY := hide hy
  obtain ⟨tp1, tp2, tp3⟩ := top_pos oy ty hy.len (by omega)
  have hty := (okL_get oy (m - 1)).2
  have hcy : w.cell? ⟨b0, off0 + (m - 1), none⟩ = some (.int .i64 (ys.getD (m - 1) 0)) := by
    rcases hy.sl with h | ⟨b', off', h, _, hc⟩
    · have := hy.len; rw [h] at this; simp at this; omega
    · simp only [Option.some.injEq, Addr.mk.injEq, and_true] at h
      obtain ⟨rfl, rfl⟩ := h
      exact hc (m - 1) (by rw [hy.len]; omega)
  obtain ⟨y1, HY1⟩ : ∃ y1, Hid (ys.getD (m - 1) 0 = y1) := ⟨_, hide rfl⟩
  have HSL := hide (fun s => shift_len (m := m) (s := s) oy ty hy.len (by omega))
  rw [unhide HY1] at tp1 hty hcy HSL
  clear hx hy tp2 tp3
  have t1 : ((m : Int) - 1).toNat = m - 1 := by omega
  have i1 : (0 : Int) ≤ (m : Int) - 1 := by omega
  have i2 : (m : Int) - 1 < (m : Int) := by omega
  have hw1 : IntKind.u64.wrap y1 = y1 := by rw [IntKind.wrap_u64]; omega
  go_enter Tryz.func99, Tryz.ntmps99
  go_wp2_with fail
  refine (len_any y1 w tp1 hty).mono ?_
  rintro e' w ⟨nb, rfl, rfl, nb1, nb2, nb3⟩
  obtain ⟨s, hs⟩ : ∃ s : Nat, nb + s = 16 := ⟨16 - nb, by omega⟩
  have hs15 : s ≤ 15 := by omega
  have hsub : (16 : Int) - (nb : Int) = (s : Int) := by omega
  have HL := hide (unhide HSL s (pow2_top nb3 hs) hs15 (pow2_div s hs15))
  obtain ⟨p, HP⟩ : ∃ p : Int, Hid ((2 : Int) ^ s = p) := ⟨_, hide rfl⟩
  have hp0 : 0 < p := by rw [← unhide HP]; exact (pow2_le s hs15).1
  clear nb3 hcy
  go_wp2_with fail
  refine (upI_any a (m + e) c xs s w (unhide HX) ox (by omega) hs15).mono ?_
  rintro e' w1 ⟨g, rs0, rfl, hg, hb1, hown1, rl, ro, rv⟩
  have H1 := hide (And.intro hb1 (And.intro hown1 (And.intro rl (And.intro ro rv))))
  clear hb1 hown1 rl ro rv
  go_wp2_with fail
  refine (upI_any (some ⟨b0, off0, none⟩) m c' ys s w1 ((unhide HY).later (unhide H1).1) oy (by omega) hs15).mono ?_
  rintro e' w2 ⟨gb, bs0, rfl, hgb, hb2, hown2, bl, bo, bv⟩
  have hownb := Own.of_owns hown2 bl
  have hargb : Arg w2 (some ⟨gb, 0, none⟩) (m + 1) (m + 1) bs0 := ⟨hownb.sl, bl, Nat.le_refl _, by unfold maxLen; omega, .inr ⟨_, _, rfl⟩⟩
  have hnmb := Nm.trimmed bo
  rw [bv] at hnmb
  have H2 := hide (And.intro hb2 (And.intro hownb (And.intro hargb hnmb)))
  clear hb2 hown2 bl bo bv hownb hargb hnmb
  go_wp2_with fail
  refine (trim_any _ _ _ _ _ (unhide H2).2.2.1).mono ?_
  rintro e' w3 ⟨a3, n3, c3, rfl, rfl, harg, hown⟩
  obtain ⟨vs, HVS⟩ : ∃ vs, Hid (trim bs0 = vs) := ⟨_, hide rfl⟩
  have harg3 := harg _ (unhide H2).2.2.1
  have hown3 := hown _ _ (unhide H2).2.1
  have hnm3 := (unhide H2).2.2.2
  rw [unhide HVS] at harg3 hown3 hnm3
  have hvl : vs.length = m := hnm3.len_eq (by omega) (unhide HL).1 (unhide HL).2
  have hn3 : n3 = m := by have := harg3.len; omega
  subst hn3
  obtain ⟨g3, rfl, hg3, hcells⟩ : ∃ g3, a3 = some ⟨g3, 0, none⟩ ∧ w1.heap.size ≤ g3 ∧ ∀ i, i < n3 → w3.cell? ⟨g3, 0 + i, none⟩ = some (.int .i64 (vs.getD i 0)) := by
    rcases hown3 with h | ⟨b', cur, h, hb', hh, hc⟩
    · rw [h] at hvl; simp at hvl; omega
    · subst h
      rcases harg3.sl with h | ⟨b2, o2, h, _, hc2⟩
      · rw [h] at hvl; simp at hvl; omega
      · simp only [Option.some.injEq, Addr.mk.injEq, and_true] at h
        obtain ⟨rfl, rfl⟩ := h
        exact ⟨_, rfl, hb', fun i hi => hc2 i (by omega)⟩
  have hg3l : g3 < w3.heap.size := World.block_lt_of_cell? _ _ (hcells 0 (by omega))
  have H3 := hide (And.intro hnm3 (And.intro hvl hcells))
  have hgl : g < w1.heap.size := World.block_lt_of_cell? _ _ (row_at (unhide H1).2.1 (unhide H1).2.2.1 (show 0 < n3 + e + 1 by omega))
  have hsz : w1.heap.size ≤ w3.heap.size := (unhide H2).1.size
  clear harg hown harg3 hown3 hnm3 hvl hcells
  go_wp2_with (at_make; refine wpList_make_full _ rfl _ _ 23 rfl w.heap.size 3 i0 (.int .i64 0) 1 Tryz.underlying23 hi hz0 hz1 .i64 .i64 _ _ (e + 1) rfl rfl (by omega) (by omega) (by rw [hz2]; omega) (by unfold maxLen; omega) (by have := (unhide H1).1.size; omega) ?_)
  intro w4 hownq hgrow
  have hb4 : Below w3.heap.size w3 w4 := (Below.refl _ _).grown hgrow (Nat.le_refl _) (fun k e => by cases e)
  have HQ0 : Hid (w4.ownsRow w.heap.size 3 1 (.slice (some ⟨w3.heap.size, 0, none⟩) (e + 1) (e + 1)) (e + 1) ((rowT (e + 1) []).map (Value.int .i64))) := by
    rw [made_ints] at hownq; exact hide (by unfold rowT; simpa using hownq)
  have HR0 : Hid (w4.ownsRow w.heap.size 3 1 (.slice (some ⟨g, 0, none⟩) (n3 + e + 1) (n3 + e + 1)) (n3 + e + 1) (rs0.map (Value.int .i64))) :=
    hide (owns_but (g' := g + 1) (owns_but (g' := g + 1) (unhide H1).2.1 (But.of_below (unhide H2).1) (by omega)) (But.of_below hb4) (by omega))
  have HC0 : Hid (∀ i, i < n3 → w4.cell? ⟨g3, 0 + i, none⟩ = some (.int .i64 (vs.getD i 0))) := hide (fun i hi => cell_later hb4 ((unhide H3).2.2 i hi))
  have HB0 : Hid (Below w.heap.size w w4) := hide (below_on (below_on (unhide H1).1 (unhide H2).1) hb4)
  have HD0 : Hid (DivL rs0 [] (e + 1) n3 e (val ys * p) (val xs * p)) := by
    have lx := val_lt ox
    rw [(unhide HX).len] at lx
    have ly := top_le oy ty (by rw [(unhide HY).len]; omega)
    rw [(unhide HY).len] at ly
    exact hide (DivL.start (unhide H1).2.2.1 (unhide H1).2.2.2.1 (by rw [(unhide H1).2.2.2.2, unhide HP]) hp0 (by omega) lx ly)
  have hgq : g ≠ w3.heap.size := by omega
  have hg3q : g3 ≠ w3.heap.size := by omega
  have hgg3 : g3 ≠ g := by omega
  have hwq : w.heap.size ≤ w3.heap.size := by omega
  have HVP : Hid (0 < val ys * p ∧ val ys * p ≤ 65536 ^ n3) := by
    have := unhide HL
    rw [unhide HP] at this
    have hp : (0 : Int) < 65536 ^ (n3 - 1) := Int.pow_pos (by omega)
    exact hide ⟨by omega, by omega⟩
  have HVV : Hid (Nm vs (val ys * p)) := hide (by have := (unhide H3).1; rw [unhide HP] at this; exact this)
  have HVL := hide (unhide H3).2.1
  have HT1 : Hid (1 ≤ vs.getD (n3 - 1) 0) := hide (top_pos (unhide HVV).ok (unhide HVV).tr (unhide HVL) (by omega)).1
  clear hownq hgrow hb4 H2 H3 HVS hsz hgl hg3l hsub nb1 nb2 hs hw1 t1 i1 i2 tp1 hty HY1 HSL
  go_wp2
  go_loopw [10] (fun iv wr => ∃ (k : Nat) (rs zs : List Int), k ≤ e + 1 ∧ iv = .int .i64 ((k : Int) - 1) ∧ Hid (DivL rs zs k n3 e (val ys * p) (val xs * p)) ∧
      Hid (wr.ownsRow w.heap.size 3 1 (.slice (some ⟨g, 0, none⟩) (n3 + e + 1) (n3 + e + 1)) (n3 + e + 1) (rs.map (Value.int .i64))) ∧
      Hid (wr.ownsRow w.heap.size 3 1 (.slice (some ⟨w3.heap.size, 0, none⟩) (e + 1) (e + 1)) (e + 1) ((rowT k zs).map (Value.int .i64))) ∧
      Hid (∀ i, i < n3 → wr.cell? ⟨g3, 0 + i, none⟩ = some (.int .i64 (vs.getD i 0))) ∧ Hid (Below w.heap.size w wr)) (fun iv _ => (intOf iv + 1).toNat)
  case atStart => exact ⟨e + 1, rs0, [], Nat.le_refl _, by simp, HD0, HR0, HQ0, HC0, HB0⟩
  case round =>
    obtain ⟨k, rs, zs, hk, hiv, HD, HR, HQ, HC, HB⟩ := hrel
    cases k with
    | zero =>
      have e1 : (((0 : Nat) : Int) - 1) = -1 := by omega
      rw [e1] at hiv
      subst hiv
      obtain ⟨d1, d2⟩ := (unhide HD).done hp0 (by
        have h1 := (unhide HVP).1
        rcases Int.lt_or_le 0 (val ys) with h' | h'
        · exact h'
        · have := Int.mul_le_mul_of_nonneg_right h' (show 0 ≤ p by omega)
          omega)
      have hzl : zs.length = e + 1 := by have := (unhide HD).zl; omega
      have ho := Own.of_owns (zs := zs) (by have := unhide HQ; unfold rowT at this; simpa using this) hzl
      have harg0 : Arg wr (some ⟨w3.heap.size, 0, none⟩) (e + 1) (e + 1) zs := ⟨ho.sl, hzl, Nat.le_refl _, by unfold maxLen; omega, .inr ⟨_, _, rfl⟩⟩
      have hor := Own.of_owns (zs := rs) (unhide HR) (unhide HD).rl
      have hargr : Arg wr (some ⟨g, 0, none⟩) (n3 + e + 1) (n3 + e + 1) rs := ⟨hor.sl, (unhide HD).rl, Nat.le_refl _, by unfold maxLen; omega, .inr ⟨_, _, rfl⟩⟩
      have H0 := hide (And.intro ho (And.intro harg0 (And.intro hargr (And.intro d1 d2))))
      clear ho harg0 hor hargr hzl e1 d1 d2
      go_wp2_with fail
      refine (trim_any _ _ _ zs _ (unhide H0).2.1).mono ?_
      rintro e' w5 ⟨a5, n5, c5, rfl, rfl, harg, hown⟩
      have HF : Hid (Own w.heap.size w5 a5 (trim zs) ∧ Arg w5 a5 n5 c5 (trim zs) ∧ Nm (trim zs) (val xs / val ys)) := by
        refine hide ⟨hown _ _ (unhide H0).1, harg _ (unhide H0).2.1, ?_⟩
        rw [← (unhide H0).2.2.2.1]
        exact Nm.trimmed (unhide HD).zo
      clear harg hown
      go_wp2_with fail
      refine (downI_any _ _ _ rs s _ (unhide H0).2.2.1 (unhide HD).ro (by omega) hs15).mono ?_
      rintro e' w6 ⟨a6, n6, c6, ts, rfl, hb6, ho6, ha6, hn6⟩
      have HG : Hid (Below w.heap.size w w6 ∧ Own w.heap.size w6 a5 (trim zs) ∧ Arg w6 a5 n5 c5 (trim zs) ∧ Own w.heap.size w6 a6 ts ∧ Arg w6 a6 n6 c6 ts ∧ Nm ts (val xs % val ys) ∧ Apart a5 (trim zs) a6 ts) := by
        refine hide ⟨below_on (unhide HB) hb6, (unhide HF).1.later hb6, (unhide HF).2.1.later hb6, ho6.mono (unhide HB).size, ha6, ?_, apart_of (unhide HF).1 ho6⟩
        rw [unhide HP, (unhide H0).2.2.2.2] at hn6
        exact hn6
      clear hb6 ho6 ha6 hn6
      go_wp2
      go_ret2
      exact ⟨a5, n5, c5, _, a6, n6, c6, _, rfl, (unhide HG).1, (unhide HG).2.1, (unhide HG).2.2.1, (unhide HF).2.2, (unhide HG).2.2.2.1, (unhide HG).2.2.2.2.1, (unhide HG).2.2.2.2.2.1, (unhide HG).2.2.2.2.2.2⟩
    | succ j =>
      have e1 : (((j + 1 : Nat) : Int) - 1) = j := by omega
      rw [e1] at hiv
      subst hiv
      clear e1
      have hwin : Win w.heap.size wr g (n3 + e + 1) rs g3 0 n3 vs := ⟨unhide HR, (unhide HD).rl, (unhide HD).ro, by omega, hgg3, unhide HC, unhide HVL, (unhide HVV).ok⟩
      obtain ⟨z1, z2, z3⟩ := (unhide HD).zero (unhide HVP).2
      have HT := hide (fun c => takeI_any w.heap.size wr g (n3 + e + 1) rs g3 0 n3 vs j c c3 hwin (by omega) (hm := hm) (hv1 := unhide HT1) (hlt := by rw [z2, (unhide HVV).v]; exact z3))
      have HWIN := hide hwin
      clear hwin z1 z2 z3
      have i1 : (0 : Int) ≤ (j : Int) := by omega
      have i2 : (j : Int) ≤ (j : Int) + (n3 : Int) + 1 := by omega
      have i3 : (j : Int) + (n3 : Int) + 1 ≤ (n3 : Int) + (e : Int) + 1 := by omega
      have i4 : (j : Int) < (e : Int) + 1 := by omega
      go_wp2_with fail
      rw [show j + n3 + 1 - j = n3 + 1 by omega]
      refine (unhide HT (n3 + e + 1 - j) (by omega)).mono ?_
      rintro e' w5 ⟨rfl, ht⟩
      obtain ⟨ws, wl, wo, wv, hbut, hwin5⟩ := ht.win (unhide HWIN) (by omega)
      have HD6 := hide ((unhide HD).step (ws := ws) (unhide HVP).1 (unhide HVP).2 wl wo (by rw [wv, (unhide HVV).v]))
      rw [(unhide HVV).v]
      generalize val ((rs.drop j).take (n3 + 1)) / (val ys * p) = D at *
      have hq5 := owns_but (unhide HQ) hbut (by omega)
      obtain ⟨⟨y, r1⟩, r2, r3⟩ := rowT_owns hq5 (unhide HD).zl D
      have hb6 : But w3.heap.size (w3.heap.size + 1) w5 (w5.setCell ⟨w3.heap.size, j, none⟩ (.int .i64 D)) := (But.refl _ _ _).set (p := ⟨w3.heap.size, j, none⟩) (Nat.le_refl _) (Nat.lt_succ_self _) _
      have HR6 := hide (owns_but hwin5.own hb6 hgq)
      have HC6 : Hid (∀ i, i < n3 → (w5.setCell ⟨w3.heap.size, j, none⟩ (.int .i64 D)).cell? ⟨g3, 0 + i, none⟩ = some (.int .i64 (vs.getD i 0))) := hide (fun i hi => hb6.cell (hwin5.cells i hi) (by omega))
      have HB6 := hide (but_below hb6 (but_below hbut (unhide HB) hg) hwq)
      have HQ6 := hide r3
      clear ht wl wo wv hbut hwin5 hq5 r3 hb6 HT HWIN HD HR HQ HC HB
      go_wp2
      go_roundw
      case rel => exact ⟨j, _, _, by omega, rfl, HD6, HR6, HQ6, HC6, HB6⟩
      case measure => simp [intOf]
end Go.Proofs.YtdgonpbponnnaaaGreatDoor
