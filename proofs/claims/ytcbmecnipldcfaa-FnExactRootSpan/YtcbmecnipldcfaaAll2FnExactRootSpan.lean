/- The law FnExactRootSpan returns true for every argument and leaves it as it was: the given statement FnExactRootSpanSaid. No condition. -/
import Derived.Test.YtcbmecnipldcfaaPackR6
import Derived.Test.YtcbmecnipldcfaaOpen
import Derived.Test.YtcbmecnipldcfaaIo
import Derived.Test.YtcbmecnipldcfaaOpenQ
namespace Go.Proofs.Ytcbmecnipldcfaa
open Go.RowKit
set_option linter.unusedVariables false
set_option maxRecDepth 100000
set_option linter.unusedSimpArgs false

structure TlawRoot (w wx : World) (v0 : QV) (d0 : QD) : Prop where
  bel : Below w.heap.size w wx
  x0_0 : wx.cell? ⟨w.heap.size, 0, none⟩ = some (.bool v0.num.g)
  x0_1 : wx.cell? ⟨w.heap.size, 1, none⟩ = some (.slice v0.num.a v0.num.n v0.num.c)
  x0_2 : wx.cell? ⟨w.heap.size, 2, none⟩ = some (.bool v0.den.g)
  x0_3 : wx.cell? ⟨w.heap.size, 3, none⟩ = some (.slice v0.den.a v0.den.n v0.den.c)
  s0 : AllSl wx [(v0.num, d0.num), (v0.den, d0.den)]
theorem TlawRoot.later {w wx wy : World} {v0 : QV} {d0 : QD} (h : TlawRoot w wx v0 d0) (hb : Below wx.heap.size wx wy) : TlawRoot w wy v0 d0 :=
  ⟨below_on h.bel hb, cell_later hb h.x0_0, cell_later hb h.x0_1, cell_later hb h.x0_2, cell_later hb h.x0_3, h.s0.later hb⟩
theorem TlawRoot.but {w wx wy : World} {v0 : QV} {d0 : QD} {lo hi : Nat} (h : TlawRoot w wx v0 d0) (hb : But lo hi wx wy) (hl : w.heap.size + 1 ≤ lo) (hx0 : AllSl w [(v0.num, d0.num), (v0.den, d0.den)]) : TlawRoot w wy v0 d0 := by
  have hB := hb.below h.bel (by omega) h.bel.size
  exact ⟨hB, hb.cell h.x0_0 (by omega), hb.cell h.x0_1 (by omega), hb.cell h.x0_2 (by omega), hb.cell h.x0_3 (by omega), hx0.later hB⟩
theorem TlawRoot.start (w : World) (v0 : QV) (d0 : QD) (t0 : TypeId) (hx0 : AllSl w [(v0.num, d0.num), (v0.den, d0.den)]) : TlawRoot w (w.alloc (.cells #[.bool v0.num.g, .slice v0.num.a v0.num.n v0.num.c, .bool v0.den.g, .slice v0.den.a v0.den.n v0.den.c] t0)) v0 d0 := by
  have hb : Below w.heap.size w (w.alloc (.cells #[.bool v0.num.g, .slice v0.num.a v0.num.n v0.num.c, .bool v0.den.g, .slice v0.den.a v0.den.n v0.den.c] t0)) := (Below.refl _ _).alloc (Nat.le_refl _) _
  exact ⟨hb, by simp [go_sem], by simp [go_sem], by simp [go_sem], by simp [go_sem], hx0.later hb⟩

set_option maxHeartbeats 1000000 in
theorem lawRoot_out0 (v0 : QV) (x1 : Int) (w : World) (m0 : v0.num.n ≤ maxLen) (m1 : v0.den.n ≤ maxLen) (h0 : 0 ≤ 1048576) (h : 1048576 < v0.num.n + v0.den.n) :
    Calls Try.prog 6 #[.agg #[.bool v0.num.g, .slice v0.num.a v0.num.n v0.num.c, .bool v0.den.g, .slice v0.den.a v0.den.n v0.den.c], .int .i64 x1] w fun e w' => e = .returned (.bool true) ∧ Below w.heap.size w w' := by
  go_enter Try.func6, Try.ntmps6
  go_wp2_with fail
  refine (szQ_out v0 _ _ (by omega) (by omega) m0 m1 (by omega)).mono ?_
  rintro e w1 ⟨rfl, hb⟩
  have HB := hide (ba hb)
  clear hb
  go_wp2
  go_ret
  exact ⟨rfl, unhide HB⟩

set_option maxRecDepth 100000 in
set_option maxHeartbeats 16000000 in
theorem lawRoot_in (v0 : QV) (x1 : Int) (d0 : QD) (w : World) (hx0 : AllSl w [(v0.num, d0.num), (v0.den, d0.den)]) (wf1 : -9223372036854775808 ≤ x1 ∧ x1 ≤ 9223372036854775807) (h : v0.num.n + v0.den.n ≤ 1048576) :
    Calls Try.prog 6 #[.agg #[.bool v0.num.g, .slice v0.num.a v0.num.n v0.num.c, .bool v0.den.g, .slice v0.den.a v0.den.n v0.den.c], .int .i64 x1] w fun e w' => e = .returned (.bool true) ∧ Below w.heap.size w w' := by
  have HX0 := hide hx0
  clear hx0
  have l0 : v0.num.n ≤ 1048576 := by omega
  have lm0 : v0.num.n ≤ maxLen := by unfold maxLen; omega
  have l1 : v0.den.n ≤ 1048576 := by omega
  have lm1 : v0.den.n ≤ maxLen := by unfold maxLen; omega
  have hd0 : ¬ ((1048576 : Int) - (v0.num.n : Int) - (v0.den.n : Int) < 0) := by omega
  obtain ⟨U, HU⟩ : ∃ U : SD → Bool → Prop, Hid (U = AnsRt d0 x1) := ⟨_, hide rfl⟩
  have US : Hid (∀ d ok d' ok', U d ok → U d' ok' → d = d' ∧ ok = ok') := hide (by rw [unhide HU]; exact fun d ok d' ok' h k => h.same k)
  have UL : Hid (∀ d ok, U d ok → d.lo.num.xs.length ≤ 40 ∧ d.lo.den.xs.length ≤ 40 ∧ d.hi.num.xs.length ≤ 40 ∧ d.hi.den.xs.length ≤ 40) := hide (by rw [unhide HU]; exact fun d ok h => h.lens)
  have CS : Hid (∀ (q0 : QV) (w : World), AllAr w [(q0.num, d0.num), (q0.den, d0.den)] → Calls Try.prog 28 #[.agg #[.bool q0.num.g, .slice q0.num.a q0.num.n q0.num.c, .bool q0.den.g, .slice q0.den.a q0.den.n q0.den.c], .int .i64 x1] w (RetS w U)) := hide (by rw [unhide HU]; exact fun q0 w h0 => RootSS q0 d0 x1 w h0)
  have CI : Hid (∀ (q0 : QV) (w : World), AllAr w [(q0.num, d0.num), (q0.den, d0.den)] → Calls Try.prog 29 #[.agg #[.bool q0.num.g, .slice q0.num.a q0.num.n q0.num.c, .bool q0.den.g, .slice q0.den.a q0.den.n q0.den.c], .int .i64 x1] w (RetS w U)) := hide (by rw [unhide HU]; exact fun q0 w h0 => RootSI q0 d0 x1 w h0)
  clear HU
  go_enter Try.func6, Try.ntmps6
  go_wp2_with fail
  refine (szQ_in v0 _ _ (by omega) (by omega) (by omega)).mono ?_
  rintro e w1 ⟨rfl, hb⟩
  have T := hide ((TlawRoot.start w v0 d0 32 (unhide HX0)).later hb)
  have z : w.heap.size + 1 ≤ w1.heap.size := by have := hb.size; simp at this; omega
  clear hb
  have p0 := (unhide T).x0_0
  have p1 := (unhide T).x0_1
  have p2 := (unhide T).x0_2
  have p3 := (unhide T).x0_3
  go_wp2_with fail
  refine (toQ_at v0 d0 _ (unhide T).s0 l0 l1).mono ?_
  rintro e wa0x ⟨qa0, rfl, hb, hna, ow, ar⟩
  replace T := hide ((unhide T).later hb)
  have A0 := hide ar
  have sa0x := hb.size
  clear hb hna ow ar p0 p1 p2 p3
  go_wp2_with fail
  refine (unhide CS qa0 _ (unhide A0)).mono ?_
  rintro e ws ⟨vr, dr, okr, rfl, hb, hown, hu⟩
  have V0 := hide (VarS.start 49 hown)
  have UR := hide hu
  have ss := hb.size
  replace T := hide (((unhide T).later hb).later ((Below.refl _ _).alloc (Nat.le_refl _) (.cells #[.bool vr.lo.num.g, .slice vr.lo.num.a vr.lo.num.n vr.lo.num.c, .bool vr.lo.den.g, .slice vr.lo.den.a vr.lo.den.n vr.lo.den.c, .bool vr.hi.num.g, .slice vr.hi.num.a vr.hi.num.n vr.hi.num.c, .bool vr.hi.den.g, .slice vr.hi.den.a vr.hi.den.n vr.hi.den.c] 49)))
  clear hb hown hu A0
  have zG1 : w.heap.size + 1 ≤ ws.heap.size := by omega
  have r0 : vr.lo.num.n ≤ 40 := by rw [← ((unhide V0).own.own (vr.lo.num, dr.lo.num) (by simp)).len]; exact (unhide UL _ _ (unhide UR)).1
  have rm0 : vr.lo.num.n ≤ maxLen := by unfold maxLen; omega
  have rl0 : vr.lo.num.n ≤ 1048576 := by omega
  have r1 : vr.lo.den.n ≤ 40 := by rw [← ((unhide V0).own.own (vr.lo.den, dr.lo.den) (by simp)).len]; exact (unhide UL _ _ (unhide UR)).2.1
  have rm1 : vr.lo.den.n ≤ maxLen := by unfold maxLen; omega
  have rl1 : vr.lo.den.n ≤ 1048576 := by omega
  have r2 : vr.hi.num.n ≤ 40 := by rw [← ((unhide V0).own.own (vr.hi.num, dr.hi.num) (by simp)).len]; exact (unhide UL _ _ (unhide UR)).2.2.1
  have rm2 : vr.hi.num.n ≤ maxLen := by unfold maxLen; omega
  have rl2 : vr.hi.num.n ≤ 1048576 := by omega
  have r3 : vr.hi.den.n ≤ 40 := by rw [← ((unhide V0).own.own (vr.hi.den, dr.hi.den) (by simp)).len]; exact (unhide UL _ _ (unhide UR)).2.2.2
  have rm3 : vr.hi.den.n ≤ maxLen := by unfold maxLen; omega
  have rl3 : vr.hi.den.n ≤ 1048576 := by omega
  have p0 := (unhide T).x0_0
  have p1 := (unhide T).x0_1
  have p2 := (unhide T).x0_2
  have p3 := (unhide T).x0_3
  go_wp2_with fail
  refine (toQ_at v0 d0 _ (unhide T).s0 l0 l1).mono ?_
  rintro e wx0 ⟨y0, rfl, hb, hnn, ow0, ar0⟩
  have hn0 := hide hnn
  clear hnn
  have VX0 := hide (VarQ.start 38 (ow0.wide (lo' := ws.heap.size + 1) (by simp) (Nat.le_refl _)))
  have AX0 := hide (ar0.later ((Below.refl _ _).alloc (Nat.le_refl _) (.cells #[.bool y0.num.g, .slice y0.num.a y0.num.n y0.num.c, .bool y0.den.g, .slice y0.den.a y0.den.n y0.den.c] 38)))
  have s0 : ws.heap.size + 1 ≤ wx0.heap.size := by have := hb.size; simp at this; omega
  replace V0 := hide ((unhide V0).later hb)
  replace T := hide ((unhide T).later hb)
  replace V0 := hide ((unhide V0).later ((Below.refl _ _).alloc (Nat.le_refl _) (.cells #[.bool y0.num.g, .slice y0.num.a y0.num.n y0.num.c, .bool y0.den.g, .slice y0.den.a y0.den.n y0.den.c] 38)))
  replace T := hide ((unhide T).later ((Below.refl _ _).alloc (Nat.le_refl _) (.cells #[.bool y0.num.g, .slice y0.num.a y0.num.n y0.num.c, .bool y0.den.g, .slice y0.den.a y0.den.n y0.den.c] 38)))
  clear hb ow0 ar0 p0 p1 p2 p3
  go_wp2_with fail
  refine (unhide CI y0 _ (unhide AX0)).mono ?_
  rintro e w5 ⟨vg, dg, okg, rfl, hb, hown, hu⟩
  obtain ⟨e1, e2⟩ := unhide US _ _ _ _ (unhide UR) hu
  subst e1 e2
  have VG := hide (VarS.start 49 (hown.wide (lo' := wx0.heap.size + 1) (by simp) (Nat.le_refl _)))
  have sg : wx0.heap.size + 1 ≤ w5.heap.size := by have := hb.size; simp at this; omega
  have en0 : vg.lo.num.n = vr.lo.num.n := by rw [← ((unhide VG).own.own (vg.lo.num, dr.lo.num) (by simp)).len, ← ((unhide V0).own.own (vr.lo.num, dr.lo.num) (by simp)).len]
  have q0 : vg.lo.num.n ≤ 40 := by omega
  have qm0 : vg.lo.num.n ≤ maxLen := by omega
  have ql0 : vg.lo.num.n ≤ 1048576 := by omega
  have en1 : vg.lo.den.n = vr.lo.den.n := by rw [← ((unhide VG).own.own (vg.lo.den, dr.lo.den) (by simp)).len, ← ((unhide V0).own.own (vr.lo.den, dr.lo.den) (by simp)).len]
  have q1 : vg.lo.den.n ≤ 40 := by omega
  have qm1 : vg.lo.den.n ≤ maxLen := by omega
  have ql1 : vg.lo.den.n ≤ 1048576 := by omega
  have en2 : vg.hi.num.n = vr.hi.num.n := by rw [← ((unhide VG).own.own (vg.hi.num, dr.hi.num) (by simp)).len, ← ((unhide V0).own.own (vr.hi.num, dr.hi.num) (by simp)).len]
  have q2 : vg.hi.num.n ≤ 40 := by omega
  have qm2 : vg.hi.num.n ≤ maxLen := by omega
  have ql2 : vg.hi.num.n ≤ 1048576 := by omega
  have en3 : vg.hi.den.n = vr.hi.den.n := by rw [← ((unhide VG).own.own (vg.hi.den, dr.hi.den) (by simp)).len, ← ((unhide V0).own.own (vr.hi.den, dr.hi.den) (by simp)).len]
  have q3 : vg.hi.den.n ≤ 40 := by omega
  have qm3 : vg.hi.den.n ≤ maxLen := by omega
  have ql3 : vg.hi.den.n ≤ 1048576 := by omega
  clear AX0
  replace V0 := hide ((unhide V0).later hb)
  replace T := hide ((unhide T).later hb)
  replace VX0 := hide ((unhide VX0).later hb)
  clear hb hown hu
  replace V0 := hide ((unhide V0).later ((Below.refl _ _).alloc (Nat.le_refl _) (.cells #[.bool vg.lo.num.g, .slice vg.lo.num.a vg.lo.num.n vg.lo.num.c, .bool vg.lo.den.g, .slice vg.lo.den.a vg.lo.den.n vg.lo.den.c, .bool vg.hi.num.g, .slice vg.hi.num.a vg.hi.num.n vg.hi.num.c, .bool vg.hi.den.g, .slice vg.hi.den.a vg.hi.den.n vg.hi.den.c] 49)))
  replace T := hide ((unhide T).later ((Below.refl _ _).alloc (Nat.le_refl _) (.cells #[.bool vg.lo.num.g, .slice vg.lo.num.a vg.lo.num.n vg.lo.num.c, .bool vg.lo.den.g, .slice vg.lo.den.a vg.lo.den.n vg.lo.den.c, .bool vg.hi.num.g, .slice vg.hi.num.a vg.hi.num.n vg.hi.num.c, .bool vg.hi.den.g, .slice vg.hi.den.a vg.hi.den.n vg.hi.den.c] 49)))
  replace VX0 := hide ((unhide VX0).later ((Below.refl _ _).alloc (Nat.le_refl _) (.cells #[.bool vg.lo.num.g, .slice vg.lo.num.a vg.lo.num.n vg.lo.num.c, .bool vg.lo.den.g, .slice vg.lo.den.a vg.lo.den.n vg.lo.den.c, .bool vg.hi.num.g, .slice vg.hi.num.a vg.hi.num.n vg.hi.num.c, .bool vg.hi.den.g, .slice vg.hi.den.a vg.hi.den.n vg.hi.den.c] 49)))
  have enh0 := hide en0
  clear en0
  have enh1 := hide en1
  clear en1
  have enh2 := hide en2
  clear en2
  have enh3 := hide en3
  clear en3
  have p0 := (unhide V0).c0
  have p1 := (unhide V0).c1
  have p2 := (unhide V0).c2
  have p3 := (unhide V0).c3
  have p4 := (unhide V0).c4
  have p5 := (unhide V0).c5
  have p6 := (unhide V0).c6
  have p7 := (unhide V0).c7
  go_wp2_with fail
  refine (eqS_at vg vr dr _ (unhide VG).own.sl (unhide V0).own.sl qm0 qm1 qm2 qm3).mono ?_
  rintro e w6 ⟨rfl, hb⟩
  clear p0 p1 p2 p3 p4 p5 p6 p7
  replace V0 := hide ((unhide V0).later hb)
  replace T := hide ((unhide T).later hb)
  replace VX0 := hide ((unhide VX0).later hb)
  replace VG := hide ((unhide VG).later hb)
  clear hb
  generalize wx0.heap.size = GX0 at *
  generalize w5.heap.size = GG at *
  generalize ws.heap.size = GC at *
  go_wp2_with fail
  have ka0 := (unhide T).x0_0
  have kx0 := (unhide VX0).c0
  have ka1 := (unhide T).x0_1
  have kx1 := (unhide VX0).c1
  have ka2 := (unhide T).x0_2
  have kx2 := (unhide VX0).c2
  have ka3 := (unhide T).x0_3
  have kx3 := (unhide VX0).c3
  go_region_held3 (fun w' => w'.cell? ⟨w.heap.size, 0, none⟩ = some (.bool v0.num.g) ∧ w'.cell? ⟨w.heap.size, 1, none⟩ = some (.slice v0.num.a v0.num.n v0.num.c) ∧ w'.cell? ⟨w.heap.size, 2, none⟩ = some (.bool v0.den.g) ∧ w'.cell? ⟨w.heap.size, 3, none⟩ = some (.slice v0.den.a v0.den.n v0.den.c) ∧ w'.cell? ⟨GX0, 0, none⟩ = some (.bool y0.num.g) ∧ w'.cell? ⟨GX0, 1, none⟩ = some (.slice y0.num.a y0.num.n y0.num.c) ∧ w'.cell? ⟨GX0, 2, none⟩ = some (.bool y0.den.g) ∧ w'.cell? ⟨GX0, 3, none⟩ = some (.slice y0.den.a y0.den.n y0.den.c)) (with_reducible (first | exact ⟨ka0, ka1, ka2, ka3, kx0, kx1, kx2, kx3⟩ | exact ⟨cd_other ka0, cd_other ka1, cd_other ka2, cd_other ka3, cd_other kx0, cd_other kx1, cd_other kx2, cd_other kx3⟩ | fail))
    (first
    | (go_at_call 14; refine (toQ_at v0 d0 _ ?_ l0 l1).mono ?_; exact (unhide T).s0.later (Below.refl _ _).drew; rintro e w7 ⟨u7, rfl, hb', hn7, ow7, ar7⟩; have hb := below_of_drew hb'; replace V0 := hide ((unhide V0).later hb); replace T := hide ((unhide T).later hb); replace VX0 := hide ((unhide VX0).later hb); replace VG := hide ((unhide VG).later hb); replace ka0 := (unhide T).x0_0; replace kx0 := (unhide VX0).c0; replace ka1 := (unhide T).x0_1; replace kx1 := (unhide VX0).c1; replace ka2 := (unhide T).x0_2; replace kx2 := (unhide VX0).c2; replace ka3 := (unhide T).x0_3; replace kx3 := (unhide VX0).c3; have S7 := hide ow7.sl; clear hb hb' ow7 ar7 hn7)
    | (go_at_call 17; refine (eqQ_at y0 u7 d0 _ (unhide VX0).own.sl (unhide S7) (by rw [(unhide hn0).1]; exact lm0) (by rw [(unhide hn0).2]; exact lm1)).mono ?_; rintro e w8 ⟨rfl, hb⟩; replace V0 := hide ((unhide V0).later hb); replace T := hide ((unhide T).later hb); replace VX0 := hide ((unhide VX0).later hb); replace VG := hide ((unhide VG).later hb); replace ka0 := (unhide T).x0_0; replace kx0 := (unhide VX0).c0; replace ka1 := (unhide T).x0_1; replace kx1 := (unhide VX0).c1; replace ka2 := (unhide T).x0_2; replace kx2 := (unhide VX0).c2; replace ka3 := (unhide T).x0_3; replace kx3 := (unhide VX0).c3; clear hb))
  clear S7 ka0 kx0 ka1 kx1 ka2 kx2 ka3 kx3
  have p0 := (unhide VX0).c0
  have p1 := (unhide VX0).c1
  have p2 := (unhide VX0).c2
  have p3 := (unhide VX0).c3
  have hl0 : y0.num.n ≤ 1048576 := by rw [(unhide hn0).1]; exact l0
  have hl1 : y0.den.n ≤ 1048576 := by rw [(unhide hn0).2]; exact l1
  go_wp2_with fail
  refine (markQ_at y0 d0 [] [] 1 (GC + 1) GX0 _ (unhide VX0).own hl0 hl1 (by have := (unhide VX0).gt; omega) (by omega) (by have := (unhide hn0).1; have := (unhide hn0).2; omega)).mono ?_
  rintro e w10 ⟨rfl, hbt, hmk⟩
  replace T := hide ((unhide T).but hbt (by omega) (unhide HX0))
  replace V0 := hide ((unhide V0).but hbt (by omega) (by omega))
  replace VG := hide ((unhide VG).but hbt (by omega) (by omega))
  clear VX0 p0 p1 p2 p3 hbt hmk hl0 hl1
  have hk0 : decide ((1 : Int) + (y0.num.n : Int) + (y0.den.n : Int) < 0) = false := by simp; omega
  have p0 := (unhide VG).c0
  have pq0 := (unhide V0).c0
  have p1 := (unhide VG).c1
  have pq1 := (unhide V0).c1
  have p2 := (unhide VG).c2
  have pq2 := (unhide V0).c2
  have p3 := (unhide VG).c3
  have pq3 := (unhide V0).c3
  have p4 := (unhide VG).c4
  have pq4 := (unhide V0).c4
  have p5 := (unhide VG).c5
  have pq5 := (unhide V0).c5
  have p6 := (unhide VG).c6
  have pq6 := (unhide V0).c6
  have p7 := (unhide VG).c7
  have pq7 := (unhide V0).c7
  go_wp2_with fail
  refine (eqS_at vg vr dr _ (unhide VG).own.sl (unhide V0).own.sl qm0 qm1 qm2 qm3).mono ?_
  rintro e w20 ⟨rfl, hb⟩
  clear p0 pq0 p1 pq1 p2 pq2 p3 pq3 p4 pq4 p5 pq5 p6 pq6 p7 pq7 hk0
  replace V0 := hide ((unhide V0).later hb)
  replace T := hide ((unhide T).later hb)
  replace VG := hide ((unhide VG).later hb)
  clear hb
  have p0 := (unhide VG).c0
  have p1 := (unhide VG).c1
  have p2 := (unhide VG).c2
  have p3 := (unhide VG).c3
  have p4 := (unhide VG).c4
  have p5 := (unhide VG).c5
  have p6 := (unhide VG).c6
  have p7 := (unhide VG).c7
  go_wp2_with fail
  refine (markS_at vg dr [] [] 1 (GX0 + 1) GG _ (unhide VG).own ql0 ql1 ql2 ql3 (by have := (unhide VG).gt; omega) (by omega) (by omega)).mono ?_
  rintro e w21 ⟨rfl, hbt, hmk⟩
  replace T := hide ((unhide T).but hbt (by omega) (unhide HX0))
  replace V0 := hide ((unhide V0).but hbt (by omega) (by omega))
  replace VG := hide ((unhide VG).mark (d' := ⟨⟨⟨dr.lo.num.g, marks (1) vg.lo.num.n⟩, ⟨dr.lo.den.g, marks (1 + vg.lo.num.n) vg.lo.den.n⟩⟩, ⟨⟨dr.hi.num.g, marks (1 + vg.lo.num.n + vg.lo.den.n) vg.hi.num.n⟩, ⟨dr.hi.den.g, marks (1 + vg.lo.num.n + vg.lo.den.n + vg.hi.num.n) vg.hi.den.n⟩⟩⟩) hbt (by omega) hmk)
  clear p0 p1 p2 p3 p4 p5 p6 p7 hbt hmk
  have p0 := (unhide VG).c0
  have p1 := (unhide VG).c1
  have p2 := (unhide VG).c2
  have p3 := (unhide VG).c3
  have p4 := (unhide VG).c4
  have p5 := (unhide VG).c5
  have p6 := (unhide VG).c6
  have p7 := (unhide VG).c7
  go_wp2_with fail
  refine (heldS_at vg 1 _ ((unhide VG).own.sl (vg.lo.num, ⟨dr.lo.num.g, marks (1) vg.lo.num.n⟩) (by simp)).sl ((unhide VG).own.sl (vg.lo.den, ⟨dr.lo.den.g, marks (1 + (vg.lo.num.n : Int)) vg.lo.den.n⟩) (by simp)).sl ((unhide VG).own.sl (vg.hi.num, ⟨dr.hi.num.g, marks (1 + (vg.lo.num.n : Int) + (vg.lo.den.n : Int)) vg.hi.num.n⟩) (by simp)).sl ((unhide VG).own.sl (vg.hi.den, ⟨dr.hi.den.g, marks (1 + (vg.lo.num.n : Int) + (vg.lo.den.n : Int) + (vg.hi.num.n : Int)) vg.hi.den.n⟩) (by simp)).sl ql0 ql1 ql2 ql3 (by omega) (by omega)).mono ?_
  rintro e wk ⟨rfl, hb⟩
  replace V0 := hide ((unhide V0).later hb)
  replace T := hide ((unhide T).later hb)
  replace VG := hide ((unhide VG).later hb)
  have hr0 : ¬ ((1 : Int) + (vg.lo.num.n : Int) + (vg.lo.den.n : Int) + (vg.hi.num.n : Int) + (vg.hi.den.n : Int) < 0) := by omega
  have zk : w.heap.size + 1 ≤ wk.heap.size := by have h1 := (unhide VG).gt; omega
  clear p0 p1 p2 p3 p4 p5 p6 p7 hb
  have p0 := (unhide T).x0_0
  have p1 := (unhide T).x0_1
  have p2 := (unhide T).x0_2
  have p3 := (unhide T).x0_3
  go_wp2_with fail
  refine (toQ_at v0 d0 _ (unhide T).s0 l0 l1).mono ?_
  rintro e wa0y ⟨qa0, rfl, hb, hna, ow, ar⟩
  replace T := hide ((unhide T).later hb)
  replace V0 := hide ((unhide V0).later hb)
  replace VG := hide ((unhide VG).later hb)
  have A0 := hide ar
  have sa0y := hb.size
  clear hb hna ow ar p0 p1 p2 p3
  go_wp2_with fail
  refine (unhide CI qa0 _ (unhide A0)).mono ?_
  rintro e wh ⟨vh, dh, okh, rfl, hb, hown, hu⟩
  obtain ⟨e1, e2⟩ := unhide US _ _ _ _ (unhide UR) hu
  subst e1 e2
  have VH := hide (VarS.start 49 hown)
  replace T := hide ((unhide T).later hb)
  replace V0 := hide ((unhide V0).later hb)
  replace VG := hide ((unhide VG).later hb)
  replace T := hide ((unhide T).later ((Below.refl _ _).alloc (Nat.le_refl _) (.cells #[.bool vh.lo.num.g, .slice vh.lo.num.a vh.lo.num.n vh.lo.num.c, .bool vh.lo.den.g, .slice vh.lo.den.a vh.lo.den.n vh.lo.den.c, .bool vh.hi.num.g, .slice vh.hi.num.a vh.hi.num.n vh.hi.num.c, .bool vh.hi.den.g, .slice vh.hi.den.a vh.hi.den.n vh.hi.den.c] 49)))
  replace V0 := hide ((unhide V0).later ((Below.refl _ _).alloc (Nat.le_refl _) (.cells #[.bool vh.lo.num.g, .slice vh.lo.num.a vh.lo.num.n vh.lo.num.c, .bool vh.lo.den.g, .slice vh.lo.den.a vh.lo.den.n vh.lo.den.c, .bool vh.hi.num.g, .slice vh.hi.num.a vh.hi.num.n vh.hi.num.c, .bool vh.hi.den.g, .slice vh.hi.den.a vh.hi.den.n vh.hi.den.c] 49)))
  replace VG := hide ((unhide VG).later ((Below.refl _ _).alloc (Nat.le_refl _) (.cells #[.bool vh.lo.num.g, .slice vh.lo.num.a vh.lo.num.n vh.lo.num.c, .bool vh.lo.den.g, .slice vh.lo.den.a vh.lo.den.n vh.lo.den.c, .bool vh.hi.num.g, .slice vh.hi.num.a vh.hi.num.n vh.hi.num.c, .bool vh.hi.den.g, .slice vh.hi.den.a vh.hi.den.n vh.hi.den.c] 49)))
  clear hb hown hu A0
  have hm0 : vh.lo.num.n ≤ maxLen := by rw [← ((unhide VH).own.own (vh.lo.num, dr.lo.num) (by simp)).len, ((unhide V0).own.own (vr.lo.num, dr.lo.num) (by simp)).len]; exact rm0
  have hm1 : vh.lo.den.n ≤ maxLen := by rw [← ((unhide VH).own.own (vh.lo.den, dr.lo.den) (by simp)).len, ((unhide V0).own.own (vr.lo.den, dr.lo.den) (by simp)).len]; exact rm1
  have hm2 : vh.hi.num.n ≤ maxLen := by rw [← ((unhide VH).own.own (vh.hi.num, dr.hi.num) (by simp)).len, ((unhide V0).own.own (vr.hi.num, dr.hi.num) (by simp)).len]; exact rm2
  have hm3 : vh.hi.den.n ≤ maxLen := by rw [← ((unhide VH).own.own (vh.hi.den, dr.hi.den) (by simp)).len, ((unhide V0).own.own (vr.hi.den, dr.hi.den) (by simp)).len]; exact rm3
  have p0 := (unhide VH).c0
  have pq0 := (unhide V0).c0
  have p1 := (unhide VH).c1
  have pq1 := (unhide V0).c1
  have p2 := (unhide VH).c2
  have pq2 := (unhide V0).c2
  have p3 := (unhide VH).c3
  have pq3 := (unhide V0).c3
  have p4 := (unhide VH).c4
  have pq4 := (unhide V0).c4
  have p5 := (unhide VH).c5
  have pq5 := (unhide V0).c5
  have p6 := (unhide VH).c6
  have pq6 := (unhide V0).c6
  have p7 := (unhide VH).c7
  have pq7 := (unhide V0).c7
  go_wp2_with fail
  refine (eqS_at vh vr dr _ (unhide VH).own.sl (unhide V0).own.sl hm0 hm1 hm2 hm3).mono ?_
  rintro e w30 ⟨rfl, hb⟩
  clear p0 pq0 p1 pq1 p2 pq2 p3 pq3 p4 pq4 p5 pq5 p6 pq6 p7 pq7
  replace T := hide ((unhide T).later hb)
  replace VG := hide ((unhide VG).later hb)
  clear hb VH V0
  have p0 := (unhide VG).c0
  have p1 := (unhide VG).c1
  have p2 := (unhide VG).c2
  have p3 := (unhide VG).c3
  have p4 := (unhide VG).c4
  have p5 := (unhide VG).c5
  have p6 := (unhide VG).c6
  have p7 := (unhide VG).c7
  go_wp2_with fail
  refine (heldS_at vg 1 _ ((unhide VG).own.sl (vg.lo.num, ⟨dr.lo.num.g, marks (1) vg.lo.num.n⟩) (by simp)).sl ((unhide VG).own.sl (vg.lo.den, ⟨dr.lo.den.g, marks (1 + (vg.lo.num.n : Int)) vg.lo.den.n⟩) (by simp)).sl ((unhide VG).own.sl (vg.hi.num, ⟨dr.hi.num.g, marks (1 + (vg.lo.num.n : Int) + (vg.lo.den.n : Int)) vg.hi.num.n⟩) (by simp)).sl ((unhide VG).own.sl (vg.hi.den, ⟨dr.hi.den.g, marks (1 + (vg.lo.num.n : Int) + (vg.lo.den.n : Int) + (vg.hi.num.n : Int)) vg.hi.den.n⟩) (by simp)).sl ql0 ql1 ql2 ql3 (by omega) (by omega)).mono ?_
  rintro e w31 ⟨rfl, hb⟩
  replace T := hide ((unhide T).later hb)
  clear p0 p1 p2 p3 p4 p5 p6 p7 hb
  go_wp2
  go_ret
  exact ⟨rfl, (unhide T).bel⟩

theorem lawRoot_walk (v0 : QV) (x1 : Int) (d0 : QD) (w : World) (hx0 : AllSl w [(v0.num, d0.num), (v0.den, d0.den)]) (wf1 : -9223372036854775808 ≤ x1 ∧ x1 ≤ 9223372036854775807) (m0 : v0.num.n ≤ maxLen) (m1 : v0.den.n ≤ maxLen) :
    Calls Try.prog 6 #[.agg #[.bool v0.num.g, .slice v0.num.a v0.num.n v0.num.c, .bool v0.den.g, .slice v0.den.a v0.den.n v0.den.c], .int .i64 x1] w fun e w' => e = .returned (.bool true) ∧ Below w.heap.size w w' := by
  by_cases g0 : v0.num.n + v0.den.n ≤ 1048576
  · exact lawRoot_in v0 x1 d0 w hx0 wf1 g0
  · exact lawRoot_out0 v0 x1 w m0 m1 (by omega) (by omega)
end Go.Proofs.Ytcbmecnipldcfaa
namespace Go.Proofs.Ytcbmecnipldcfaa
open Go.RowKit
set_option linter.unusedVariables false
set_option maxRecDepth 100000

theorem open_wf {n : Int} (h : (Lit.int .i64 n).wf = true) : -9223372036854775808 ≤ n ∧ n ≤ 9223372036854775807 := by
  simp [Lit.wf, IntKind.min, IntKind.max, IntKind.signed, IntKind.bits] at h
  omega
end Go.Proofs.Ytcbmecnipldcfaa
namespace Go.Proofs.Ytcbmecnipldcfaa
open Go.ChangeShapes Go.WideShapes Go.ChangeAt Go.RowKit Go.Joins
set_option linter.unusedVariables false
set_option maxRecDepth 100000
set_option linter.unusedSimpArgs false

set_option maxRecDepth 100000 in
theorem root_holds_lifted (os : Os) (started : os.Started) (H : Type) (enc : TypeId × Value → H) :
    ReturnsInHanded {} Try.checked os 6 .any (Rows.fnExactRootSpanSpec.pre6 enc Try.prog Try.f6 Rows.fnExactRootSpanRow.domain false) (Rows.fnExactRootSpanSpec.post enc Try.prog Try.f6 false true false false) := by
  refine returnsInHanded_of_change (C := Try.checked) own started (by kernel_rfl) Try.func6
    (ChangeSpec.witness6 (enc := enc) (C := Try.checked) false ⟨#[], #[.agg #[.bool false, .slice none 0 0, .bool false, .slice none 0 0], .int .i64 0], []⟩ 8 (by kernel_rfl) (by kernel_rfl) (by kernel_rfl) (by kernel_rfl)) ?_
  intro W base args ds gs before hval0 hW hcnd _
  have hval : ∀ (j : Nat) t v, Try.f6.params[j]? = some t → args[j]? = some v → Value.okWide Try.prog W .any base t v := hval0
  have hW' := hW
  obtain ⟨p, q, hA0, hV, rfl, hfz, hnd⟩ := hW
  have hA : DataW.TrodAll enc Try.prog W 0 (fun _ => true) true Try.f6.params.toList args.toList ds p := hA0
  rw [Try.params6] at hA hval
  obtain ⟨v0, vs0, d0, ds0, p0, q0, hargs, rfl, rfl, h0, r0⟩ := trodAll_cons hA
  obtain ⟨v1, vs1, d1, ds1, p1, q1, rfl, rfl, rfl, h1, r1⟩ := trodAll_cons r0
  obtain ⟨rfl, rfl, rfl⟩ := trodAll_nil r1
  obtain rfl : args = #[v0, v1] := by cases args; simp_all
  obtain ⟨rfl, rfl⟩ := trodVars_none hV
  have lt0 : ∀ x ∈ p0, x.block < W.heap.size := by obtain ⟨m, hm⟩ := h0; exact DataW.trod_lt m _ _ _ hm
  obtain ⟨u0, e0, rfl, sl0, m0_0, m0_1⟩ := open_Q (hval 0 32 v0 rfl rfl) h0
  obtain ⟨x1, rfl, rfl, rfl, w1⟩ := open_int Try.underlying3 (hval 1 3 v1 rfl rfl) h1
  clear hA0 hval0
  refine (lawRoot_walk u0 x1 e0 W sl0 (open_wf w1) m0_0 m0_1).mono fun e W' ⟨he, bel⟩ => ?_
  subst he
  exact ⟨_, rfl, _, _, _, [], _, [], hW', trodAll_mk1 (shut_bool Try.underlying4 _), (trodAll_cons_mk (Below.trod laidOut (by kernel_rfl) (of_decide_eq_true (by kernel_rfl)) h0 bel lt0) (trodAll_cons_mk (shut_int Try.underlying3 w1) trodAll_mk0)), rfl, bel.frame _, fun h => by cases h⟩

theorem root_holds_c0 : (Rows.fnExactRootSpanRow.wf (OpenSpec.ofChange Rows.fnExactRootSpanSpec)) = true := by kernel_rfl
theorem root_holds_c1 : (laidOutB Try.pinned.checked.prog) = true := by kernel_rfl
theorem root_holds_c2 : (mapsRowed Try.pinned.checked.prog) = true := by kernel_rfl
theorem root_holds_c3 : (Try.f6.params.all (Try.pinned.checked.prog.readableRec ·)) = true := by kernel_rfl
theorem root_holds_c4 : (namedTie Try.pinned.checked.prog Rows.fnExactRootSpanRow.named Rows.fnExactRootSpanSpec.vars) = true := by kernel_rfl
theorem root_holds_c5 : (Rows.fnExactRootSpanRow.stops == []) = true := by kernel_rfl
theorem root_holds_c6 : (Try.pinned.checked.prog.stops == []) = true := by kernel_rfl
theorem root_holds_c7 : (Rows.fnExactRootSpanRow.knobs == []) = true := by kernel_rfl
theorem root_holds_c8 : (Try.pinned.checked.prog.stopKnobs == []) = true := by kernel_rfl
theorem root_holds_c9 : (Rows.fnExactRootSpanRow.inPlace == Try.pinned.checked.prog.inPlace 6) = true := by kernel_rfl
theorem root_holds_c10 : (Rows.fnExactRootSpanRow.unfollowed == Try.pinned.checked.prog.unfollowed 6) = true := by kernel_rfl
theorem root_holds_c11 : (Rows.fnExactRootSpanRow.recurses == Try.pinned.checked.prog.recurses 6) = true := by kernel_rfl
theorem root_holds_c12 : (Rows.fnExactRootSpanRow.named == Try.pinned.checked.prog.varsNamed 6) = true := by kernel_rfl
theorem root_holds_c13 : (Rows.fnExactRootSpanRow.maps == (Try.f6.params.toList ++ Rows.fnExactRootSpanSpec.plain.varTypes Try.pinned.checked.prog).any (Try.pinned.checked.prog.mapsRec ·)) = true := by kernel_rfl
theorem root_holds_c14 : (Rows.fnExactRootSpanRow.ifaces == (Try.f6.params.toList ++ Rows.fnExactRootSpanSpec.plain.varTypes Try.pinned.checked.prog).any (Try.pinned.checked.prog.ifacesRec ·)) = true := by kernel_rfl
theorem root_holds_c15 : (Rows.fnExactRootSpanRow.mapsOut == Try.pinned.checked.prog.mapsAmong Try.f6.resultTypes.toList) = true := by kernel_rfl
theorem root_holds_c16 : (Rows.fnExactRootSpanRow.loops == (Try.f6.params.toList ++ Rows.fnExactRootSpanSpec.plain.varTypes Try.pinned.checked.prog).any (Try.pinned.checked.prog.loopsFrom ·)) = true := by kernel_rfl
theorem root_holds_c17 : (Rows.fnExactRootSpanRow.wideKeys == (Try.f6.params.toList ++ Rows.fnExactRootSpanSpec.plain.varTypes Try.pinned.checked.prog ++ Try.f6.resultTypes.toList).any (Try.pinned.checked.prog.wideKeysFrom ·)) = true := by kernel_rfl
theorem root_holds_c18 : (Rows.fnExactRootSpanSpec.vars.all (Try.pinned.checked.prog.varReadable ·)) = true := by kernel_rfl
theorem root_holds_c19 : (Try.f6.resultTypes.all (fun t => Try.pinned.checked.prog.readableRec t && decide (t < Try.pinned.checked.prog.types.size))) = true := by kernel_rfl
theorem root_holds_c20 : (Rows.fnExactRootSpanRow.ifacesOut == Try.f6.resultTypes.toList.any (Try.pinned.checked.prog.ifacesRec ·)) = true := by kernel_rfl
theorem root_holds_c21 : (Rows.fnExactRootSpanRow.loopsOut == Try.f6.resultTypes.toList.any (Try.pinned.checked.prog.loopsFrom ·)) = true := by kernel_rfl
theorem root_holds_c22 : (Rows.fnExactRootSpanRow.plainKeys == Try.pinned.checked.prog.plainKeys) = true := by kernel_rfl
theorem root_holds_c23 : (Rows.fnExactRootSpanRow.shortTexts.isNone) = true := by kernel_rfl
theorem root_holds_c24 : (Try.pinned.checked.prog.stopsHeard) = true := by kernel_rfl
theorem root_holds_c25 : (Try.pinned.checked.prog.mayEnter) = true := io_enter
theorem root_holds_c26 : (Rows.fnExactRootSpanRow.lifted == Try.pinned.checked.prog.liftsFinal) = true := by rw [io_lifts]; kernel_rfl
theorem root_holds_c27 : (Try.pinned.checked.prog.make == some Rows.fnExactRootSpanRow.make) = true := by rw [io_make]; kernel_rfl
theorem root_holds_c28 : (Rows.fnExactRootSpanRow.kinds == (if Rows.fnExactRootSpanRow.domain.isEmpty then [] else Try.f6.params.toList.map fun t => match Try.pinned.checked.prog.underlying t with | some (.int k) => some k | _ => none)) = true := by kernel_rfl
theorem root_holds_c29 : (Rows.fnExactRootSpanRow.pinned == Rows.fnExactRootSpanRow.pinnedBy) = true := by kernel_rfl
theorem root_holds_c30 : (Rows.fnExactRootSpanRow.veiled == (Try.f6.params.toList ++ Rows.fnExactRootSpanSpec.plain.varTypes Try.pinned.checked.prog ++ Try.f6.resultTypes.toList).any (Try.pinned.checked.prog.veiledRec ·)) = true := by kernel_rfl
theorem root_holds_c31 : (Rows.fnExactRootSpanRow.veiledFits Try.pinned.checked.prog Try.f6.params.toList (Try.f6.params.toList ++ Rows.fnExactRootSpanSpec.plain.varTypes Try.pinned.checked.prog ++ Try.f6.resultTypes.toList)) = true := by kernel_rfl
theorem root_holds_and {a b : Bool} (h : a = true) (k : b = true) : (a && b) = true := by rw [h, k]; rfl
theorem root_holds_closed : joinedFacts Try.pinned.checked.prog 6 Try.f6 Rows.fnExactRootSpanSpec Rows.fnExactRootSpanRow = true := (root_holds_and (root_holds_and (root_holds_and (root_holds_and (root_holds_and (root_holds_and (root_holds_and (root_holds_and (root_holds_and (root_holds_and (root_holds_and (root_holds_and (root_holds_and (root_holds_and (root_holds_and (root_holds_and (root_holds_and (root_holds_and (root_holds_and (root_holds_and (root_holds_and (root_holds_and (root_holds_and (root_holds_and (root_holds_and (root_holds_and (root_holds_and (root_holds_and (root_holds_and (root_holds_and (root_holds_and root_holds_c0 root_holds_c1) root_holds_c2) root_holds_c3) root_holds_c4) root_holds_c5) root_holds_c6) root_holds_c7) root_holds_c8) root_holds_c9) root_holds_c10) root_holds_c11) root_holds_c12) root_holds_c13) root_holds_c14) root_holds_c15) root_holds_c16) root_holds_c17) root_holds_c18) root_holds_c19) root_holds_c20) root_holds_c21) root_holds_c22) root_holds_c23) root_holds_c24) root_holds_c25) root_holds_c26) root_holds_c27) root_holds_c28) root_holds_c29) root_holds_c30) root_holds_c31)
theorem root_holds_named : Try.pinned.checked.prog.funcNamed Rows.fnExactRootSpanRow.func = some 6 := by kernel_rfl
theorem root_holds_inst : Try.f6.isInstance Try.pinned.checked.prog Rows.fnExactRootSpanRow.origin Rows.fnExactRootSpanRow.targs := of_decide_eq_true (by kernel_rfl)
theorem root_holds_wrap : Try.f6.isWrapper Try.pinned.checked.prog Rows.fnExactRootSpanRow.wrapper Rows.fnExactRootSpanRow.mainSum := by unfold Func.isWrapper; first | (rw [if_pos (by decide +kernel)]; kernel_rfl) | (rw [if_neg (by decide +kernel)]; exact ⟨rfl, rfl⟩)
theorem root_holds : Rows.FnExactRootSpanSaid :=
  OpenClaim.holds_of_wide 6 Try.f6 rfl rfl rfl rfl rfl rfl rfl ⟨rfl, rfl, rfl, rfl, rfl⟩ rfl rfl rfl rfl rfl root_holds_named Try.func6 root_holds_closed root_holds_inst root_holds_wrap
    (fun os started H enc _ => root_holds_lifted os started H enc)
#print axioms root_holds
end Go.Proofs.Ytcbmecnipldcfaa
