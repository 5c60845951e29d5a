/- The law FnExactRoundOut returns true for every argument and leaves it as it was: the given statement FnExactRoundOutSaid. No condition. -/
import Derived.Test.YtcbmecnipldcfaaGreatPackS6
import Derived.Test.YtcbmecnipldcfaaGreatOpenQ
import Derived.Test.YtcbmecnipldcfaaGreatOpen
import Derived.Test.YtcbmecnipldcfaaGreatIo
namespace Go.Proofs.YtcbmecnipldcfaaGreat
open Go.RowKit
set_option linter.unusedVariables false
set_option maxRecDepth 100000
set_option linter.unusedSimpArgs false

/-- A fraction in memory of the call's own. -/
def OwR (lo hi : Nat) (w : World) (x : QV) (N D : Int) : Prop := ∃ xs us, AllOwn lo hi w [(x.num, ⟨decide (N < 0), xs⟩), (x.den, ⟨decide (D < 0), us⟩)] ∧ AllAr w [(x.num, ⟨decide (N < 0), xs⟩), (x.den, ⟨decide (D < 0), us⟩)] ∧ Nm xs N.natAbs ∧ Nm us D.natAbs
theorem OwR.later {lo hi : Nat} {w w' : World} {x : QV} {N D : Int} (h : OwR lo hi w x N D) (hb : Below w.heap.size w w') : OwR lo hi w' x N D := by
  obtain ⟨xs, us, h1, h2, h3, h4⟩ := h
  exact ⟨xs, us, h1.later hb, h2.later hb, h3, h4⟩
theorem OwR.wide {lo hi lo' hi' : Nat} {w : World} {x : QV} {N D : Int} (h : OwR lo hi w x N D) (h1 : lo' ≤ lo) (h2 : hi ≤ hi') : OwR lo' hi' w x N D := by
  obtain ⟨xs, us, k1, k2, k3, k4⟩ := h
  exact ⟨xs, us, k1.wide h1 h2, k2, k3, k4⟩
theorem OwR.is {lo hi : Nat} {w : World} {x : QV} {N D : Int} (h : OwR lo hi w x N D) : IsQ w x N D := by
  obtain ⟨xs, us, k1, k2, k3, k4⟩ := h
  exact isQ_of k2 k3 k4
theorem Low.neg {N D : Int} (h : Low N D) : Low (-N) D := ⟨h.pos, by rw [Int.natAbs_neg]; exact h.co⟩
theorem low_id6 {N D : Int} (h : Low N D) : lowN N D = N ∧ lowD N D = D := by
  have h1 := low_low (N := N) (Int.ne_of_gt h.pos)
  exact h1.same h (low_cross h.pos)
theorem low_neg6 {F S : Int} (h : 0 < S) : lowN (-F) S = -(lowN F S) ∧ lowD (-F) S = lowD F S := by
  refine (low_low (Int.ne_of_gt h)).same (low_low (Int.ne_of_gt h)).neg ?_
  have c1 := low_cross (N := -F) h
  have c2 := low_cross (N := F) h
  generalize lowN (-F) S = a at *
  generalize lowN F S = b at *
  generalize lowD (-F) S = c at *
  generalize lowD F S = e at *
  refine Int.eq_of_mul_eq_mul_right (Int.ne_of_gt h) ?_
  grind
theorem make_floor6 {N D : Int} (hD : 0 < D) : lowN N D / lowD N D = N / D := floor_cross (lowD_pos (Int.ne_of_gt hD)) hD (low_cross hD)
theorem floor_bd6 {N D : Int} {L : Nat} (hD : 0 < D) (h : Bd N L) : Bd (N / D) L := h.le (by have := (floor_abs (N := N) hD).1; omega)

set_option maxHeartbeats 4000000 in
theorem negRI (q : QV) (N D : Int) (w : World) (h : IsQ w q N D) (hl : Low N D) (k1 : Bd N 100000) (k2 : Bd D 100000) : Calls Tryz.prog 121 #[.agg #[.bool q.num.g, .slice q.num.a q.num.n q.num.c, .bool q.den.g, .slice q.den.a q.den.n q.den.c]] w (OutQ w (-N) D) := by
  have E1 : Hid (lowN (0 * D - N * 1) (1 * D) = -N ∧ lowD (0 * D - N * 1) (1 * D) = D) := hide (by
    rw [Int.zero_mul, Int.mul_one, Int.one_mul, Int.zero_sub]
    exact low_id6 hl.neg)
  have NZ : Hid (1 * D ≠ 0) := hide (by rw [Int.one_mul]; exact Int.ne_of_gt hl.pos)
  have H1 := hide h
  have K1 := hide k1
  have K2 := hide k2
  clear h k1 k2 hl
  go_enter Tryz.func121, Tryz.ntmps121
  go_upto_region 1 with fail
  have hb : Below w.heap.size w ((w.alloc (.cells #[.bool q.num.g, .slice q.num.a q.num.n q.num.c, .bool q.den.g, .slice q.den.a q.den.n q.den.c] 32)).alloc (.cells #[.bool false, .slice none 0 0, .bool false, .slice none 0 0] 32)) := (((Below.refl _ _).alloc (by simp) _).alloc (by simp) _)
  have k0_0 : ((w.alloc (.cells #[.bool q.num.g, .slice q.num.a q.num.n q.num.c, .bool q.den.g, .slice q.den.a q.den.n q.den.c] 32)).alloc (.cells #[.bool false, .slice none 0 0, .bool false, .slice none 0 0] 32)).cell? ⟨w.heap.size, 0, none⟩ = some (.bool q.num.g) := by simp [go_sem]
  have k0_1 : ((w.alloc (.cells #[.bool q.num.g, .slice q.num.a q.num.n q.num.c, .bool q.den.g, .slice q.den.a q.den.n q.den.c] 32)).alloc (.cells #[.bool false, .slice none 0 0, .bool false, .slice none 0 0] 32)).cell? ⟨w.heap.size, 1, none⟩ = some (.slice q.num.a q.num.n q.num.c) := by simp [go_sem]
  have k0_2 : ((w.alloc (.cells #[.bool q.num.g, .slice q.num.a q.num.n q.num.c, .bool q.den.g, .slice q.den.a q.den.n q.den.c] 32)).alloc (.cells #[.bool false, .slice none 0 0, .bool false, .slice none 0 0] 32)).cell? ⟨w.heap.size, 2, none⟩ = some (.bool q.den.g) := by simp [go_sem]
  have k0_3 : ((w.alloc (.cells #[.bool q.num.g, .slice q.num.a q.num.n q.num.c, .bool q.den.g, .slice q.den.a q.den.n q.den.c] 32)).alloc (.cells #[.bool false, .slice none 0 0, .bool false, .slice none 0 0] 32)).cell? ⟨w.heap.size, 3, none⟩ = some (.slice q.den.a q.den.n q.den.c) := by simp [go_sem]
  have k1_0 : ((w.alloc (.cells #[.bool q.num.g, .slice q.num.a q.num.n q.num.c, .bool q.den.g, .slice q.den.a q.den.n q.den.c] 32)).alloc (.cells #[.bool false, .slice none 0 0, .bool false, .slice none 0 0] 32)).cell? ⟨w.heap.size + 1, 0, none⟩ = some (.bool false) := by simp [go_sem]
  have k1_1 : ((w.alloc (.cells #[.bool q.num.g, .slice q.num.a q.num.n q.num.c, .bool q.den.g, .slice q.den.a q.den.n q.den.c] 32)).alloc (.cells #[.bool false, .slice none 0 0, .bool false, .slice none 0 0] 32)).cell? ⟨w.heap.size + 1, 1, none⟩ = some (.slice none 0 0) := by simp [go_sem]
  have k1_2 : ((w.alloc (.cells #[.bool q.num.g, .slice q.num.a q.num.n q.num.c, .bool q.den.g, .slice q.den.a q.den.n q.den.c] 32)).alloc (.cells #[.bool false, .slice none 0 0, .bool false, .slice none 0 0] 32)).cell? ⟨w.heap.size + 1, 2, none⟩ = some (.bool false) := by simp [go_sem]
  have k1_3 : ((w.alloc (.cells #[.bool q.num.g, .slice q.num.a q.num.n q.num.c, .bool q.den.g, .slice q.den.a q.den.n q.den.c] 32)).alloc (.cells #[.bool false, .slice none 0 0, .bool false, .slice none 0 0] 32)).cell? ⟨w.heap.size + 1, 3, none⟩ = some (.slice none 0 0) := by simp [go_sem]
  have z1 : ∀ o, ((w.alloc (.cells #[.bool q.num.g, .slice q.num.a q.num.n q.num.c, .bool q.den.g, .slice q.den.a q.den.n q.den.c] 32)).alloc (.cells #[.bool false, .slice none 0 0, .bool false, .slice none 0 0] 32)).frozen? ⟨w.heap.size + 1, o, none⟩ = false := fun o => by simp [go_sem]
  have Q1 := hide ((unhide H1).later hb)
  have szw0 : w.heap.size + 2 ≤ ((w.alloc (.cells #[.bool q.num.g, .slice q.num.a q.num.n q.num.c, .bool q.den.g, .slice q.den.a q.den.n q.den.c] 32)).alloc (.cells #[.bool false, .slice none 0 0, .bool false, .slice none 0 0] 32)).heap.size := by simp
  have HB := hide hb
  clear hb
  generalize ((w.alloc (.cells #[.bool q.num.g, .slice q.num.a q.num.n q.num.c, .bool q.den.g, .slice q.den.a q.den.n q.den.c] 32)).alloc (.cells #[.bool false, .slice none 0 0, .bool false, .slice none 0 0] 32)) = w0 at *
  have ne0_1 : w.heap.size ≠ w.heap.size + 1 := by omega
  go_region_held3 (fun w' => w'.cell? ⟨w.heap.size, 0, none⟩ = some (.bool q.num.g) ∧ w'.cell? ⟨w.heap.size, 1, none⟩ = some (.slice q.num.a q.num.n q.num.c) ∧ w'.cell? ⟨w.heap.size, 2, none⟩ = some (.bool q.den.g) ∧ w'.cell? ⟨w.heap.size, 3, none⟩ = some (.slice q.den.a q.den.n q.den.c)) (with_reducible (first | exact ⟨k0_0, k0_1, k0_2, k0_3⟩ | exact ⟨cd_other k0_0, cd_other k0_1, cd_other k0_2, cd_other k0_3⟩ | exact ⟨cs_other (cs_other (cs_other (cs_other (k0_0) ne0_1) ne0_1) ne0_1) ne0_1, cs_other (cs_other (cs_other (cs_other (k0_1) ne0_1) ne0_1) ne0_1) ne0_1, cs_other (cs_other (cs_other (cs_other (k0_2) ne0_1) ne0_1) ne0_1) ne0_1, cs_other (cs_other (cs_other (cs_other (k0_3) ne0_1) ne0_1) ne0_1) ne0_1⟩ | fail))
    (first
    | (go_at_call 141; refine (wholeI 0 _ (by omega) (by omega)).mono ?_; rintro e w1 ⟨zq, lz1, lz2, rfl, hb, oz, az, m1, m2⟩; have hbx : Below w0.heap.size w0 w1 := below_of_drew hb; have szw1 := hbx.size; replace z1 := fun o => frozen_later hbx (World.block_lt_of_cell? _ _ k1_0) (z1 o); replace k0_0 := cell_later hbx k0_0; replace k0_1 := cell_later hbx k0_1; replace k0_2 := cell_later hbx k0_2; replace k0_3 := cell_later hbx k0_3; replace k1_0 := cell_later hbx k1_0; replace k1_1 := cell_later hbx k1_1; replace k1_2 := cell_later hbx k1_2; replace k1_3 := cell_later hbx k1_3; replace Q1 := hide ((unhide Q1).later hbx); have OZ := hide (isQ_of az m1 m2); have HBr := hide hbx; clear hbx hb oz az m1 m2)
    | (go_at_call 140; refine (subQI zq q 0 1 N D _ ?_ ?_ (unhide NZ) ((show Bd 0 1 from ⟨by decide⟩).mono (by omega)) ((show Bd 1 1 from ⟨by decide⟩).mono (by omega)) (unhide K1) (unhide K2)).mono ?_; exact (unhide OZ).later (Below.refl _ _); exact (unhide Q1).later (Below.refl _ _); rintro e w2 ⟨r, zs, us, rfl, hb, or, ar, nz, nu⟩; have hbx : Below w1.heap.size w1 w2 := hb; have szw2 := hbx.size; replace z1 := fun o => frozen_later hbx (World.block_lt_of_cell? _ _ k1_0) (z1 o); replace k0_0 := cell_later hbx k0_0; replace k0_1 := cell_later hbx k0_1; replace k0_2 := cell_later hbx k0_2; replace k0_3 := cell_later hbx k0_3; replace k1_0 := cell_later hbx k1_0; replace k1_1 := cell_later hbx k1_1; replace k1_2 := cell_later hbx k1_2; replace k1_3 := cell_later hbx k1_3; replace Q1 := hide ((unhide Q1).later hbx); replace OZ := hide ((unhide OZ).later hbx); rw [(unhide E1).1, (unhide E1).2] at or ar; rw [(unhide E1).1] at nz; rw [(unhide E1).2] at nu; have OR := hide (And.intro or (And.intro ar (And.intro nz nu))); have HBr := hide (below_on (unhide HBr) hbx); clear hbx hb or ar nz nu))
  replace HB := hide (below_on (unhide HB) (unhide HBr))
  clear HBr
  go_wp2
  refine bodyPost_ret (v := .agg #[.bool r.num.g, .slice r.num.a r.num.n r.num.c, .bool r.den.g, .slice r.den.a r.den.n r.den.c]) (by simp [results, Tryz.results121, go_sem, k1_0, k1_1, k1_2, k1_3]) rfl ?_
  exact outQ_fin (q := r) (R := w.heap.size + 1) (by omega) (unhide HB) (metQ_but (w5 := w2) (v := r) (G := w.heap.size + 1)) ((unhide OR).1.wide (by omega) (Nat.le_refl _)) (unhide OR).2.1 (unhide OR).2.2.1 (unhide OR).2.2.2

set_option maxHeartbeats 4000000 in
theorem belI (q : QV) (b : BV) (N D S : Int) (w : World) (h : IsQ w q N D) (h' : IsB w b S) (hD : 0 < D) (hS : 0 < S) (k1 : Bd N 100) (k2 : Bd D 100) (k3 : Bd S 5) : Calls Tryz.prog 77 #[.agg #[.bool q.num.g, .slice q.num.a q.num.n q.num.c, .bool q.den.g, .slice q.den.a q.den.n q.den.c], .agg #[.bool b.g, .slice b.a b.n b.c]] w (OutQ w (lowN (N * S / D) S) (lowD (N * S / D) S)) := by
  have H1 := hide h
  have H2 := hide h'
  have HD := hide hD
  have HS := hide hS
  have K1 := hide k1
  have K2 := hide k2
  have K3 := hide k3
  have K4 := hide ((k1.mul k3).mono (show 100 + 5 ≤ 300000 by omega))
  have KF := hide (floor_bd6 (N := N * S) hD (k1.mul k3))
  clear h h' hD hS k1 k2 k3
  go_enter Tryz.func77, Tryz.ntmps77
  go_upto_region 1 with fail
  have hb : Below w.heap.size w (((w.alloc (.cells #[.bool q.num.g, .slice q.num.a q.num.n q.num.c, .bool q.den.g, .slice q.den.a q.den.n q.den.c] 32)).alloc (.cells #[.bool b.g, .slice b.a b.n b.c] 30)).alloc (.cells #[.bool false, .slice none 0 0, .bool false, .slice none 0 0] 32)) := ((((Below.refl _ _).alloc (by simp) _).alloc (by simp) _).alloc (by simp <;> omega) _)
  have k0_0 : (((w.alloc (.cells #[.bool q.num.g, .slice q.num.a q.num.n q.num.c, .bool q.den.g, .slice q.den.a q.den.n q.den.c] 32)).alloc (.cells #[.bool b.g, .slice b.a b.n b.c] 30)).alloc (.cells #[.bool false, .slice none 0 0, .bool false, .slice none 0 0] 32)).cell? ⟨w.heap.size, 0, none⟩ = some (.bool q.num.g) := by simp [go_sem]
  have k0_1 : (((w.alloc (.cells #[.bool q.num.g, .slice q.num.a q.num.n q.num.c, .bool q.den.g, .slice q.den.a q.den.n q.den.c] 32)).alloc (.cells #[.bool b.g, .slice b.a b.n b.c] 30)).alloc (.cells #[.bool false, .slice none 0 0, .bool false, .slice none 0 0] 32)).cell? ⟨w.heap.size, 1, none⟩ = some (.slice q.num.a q.num.n q.num.c) := by simp [go_sem]
  have k0_2 : (((w.alloc (.cells #[.bool q.num.g, .slice q.num.a q.num.n q.num.c, .bool q.den.g, .slice q.den.a q.den.n q.den.c] 32)).alloc (.cells #[.bool b.g, .slice b.a b.n b.c] 30)).alloc (.cells #[.bool false, .slice none 0 0, .bool false, .slice none 0 0] 32)).cell? ⟨w.heap.size, 2, none⟩ = some (.bool q.den.g) := by simp [go_sem]
  have k0_3 : (((w.alloc (.cells #[.bool q.num.g, .slice q.num.a q.num.n q.num.c, .bool q.den.g, .slice q.den.a q.den.n q.den.c] 32)).alloc (.cells #[.bool b.g, .slice b.a b.n b.c] 30)).alloc (.cells #[.bool false, .slice none 0 0, .bool false, .slice none 0 0] 32)).cell? ⟨w.heap.size, 3, none⟩ = some (.slice q.den.a q.den.n q.den.c) := by simp [go_sem]
  have k1_0 : (((w.alloc (.cells #[.bool q.num.g, .slice q.num.a q.num.n q.num.c, .bool q.den.g, .slice q.den.a q.den.n q.den.c] 32)).alloc (.cells #[.bool b.g, .slice b.a b.n b.c] 30)).alloc (.cells #[.bool false, .slice none 0 0, .bool false, .slice none 0 0] 32)).cell? ⟨w.heap.size + 1, 0, none⟩ = some (.bool b.g) := by simp [go_sem]
  have k1_1 : (((w.alloc (.cells #[.bool q.num.g, .slice q.num.a q.num.n q.num.c, .bool q.den.g, .slice q.den.a q.den.n q.den.c] 32)).alloc (.cells #[.bool b.g, .slice b.a b.n b.c] 30)).alloc (.cells #[.bool false, .slice none 0 0, .bool false, .slice none 0 0] 32)).cell? ⟨w.heap.size + 1, 1, none⟩ = some (.slice b.a b.n b.c) := by simp [go_sem]
  have k2_0 : (((w.alloc (.cells #[.bool q.num.g, .slice q.num.a q.num.n q.num.c, .bool q.den.g, .slice q.den.a q.den.n q.den.c] 32)).alloc (.cells #[.bool b.g, .slice b.a b.n b.c] 30)).alloc (.cells #[.bool false, .slice none 0 0, .bool false, .slice none 0 0] 32)).cell? ⟨w.heap.size + 1 + 1, 0, none⟩ = some (.bool false) := by simp [go_sem]
  have k2_1 : (((w.alloc (.cells #[.bool q.num.g, .slice q.num.a q.num.n q.num.c, .bool q.den.g, .slice q.den.a q.den.n q.den.c] 32)).alloc (.cells #[.bool b.g, .slice b.a b.n b.c] 30)).alloc (.cells #[.bool false, .slice none 0 0, .bool false, .slice none 0 0] 32)).cell? ⟨w.heap.size + 1 + 1, 1, none⟩ = some (.slice none 0 0) := by simp [go_sem]
  have k2_2 : (((w.alloc (.cells #[.bool q.num.g, .slice q.num.a q.num.n q.num.c, .bool q.den.g, .slice q.den.a q.den.n q.den.c] 32)).alloc (.cells #[.bool b.g, .slice b.a b.n b.c] 30)).alloc (.cells #[.bool false, .slice none 0 0, .bool false, .slice none 0 0] 32)).cell? ⟨w.heap.size + 1 + 1, 2, none⟩ = some (.bool false) := by simp [go_sem]
  have k2_3 : (((w.alloc (.cells #[.bool q.num.g, .slice q.num.a q.num.n q.num.c, .bool q.den.g, .slice q.den.a q.den.n q.den.c] 32)).alloc (.cells #[.bool b.g, .slice b.a b.n b.c] 30)).alloc (.cells #[.bool false, .slice none 0 0, .bool false, .slice none 0 0] 32)).cell? ⟨w.heap.size + 1 + 1, 3, none⟩ = some (.slice none 0 0) := by simp [go_sem]
  have z2 : ∀ o, (((w.alloc (.cells #[.bool q.num.g, .slice q.num.a q.num.n q.num.c, .bool q.den.g, .slice q.den.a q.den.n q.den.c] 32)).alloc (.cells #[.bool b.g, .slice b.a b.n b.c] 30)).alloc (.cells #[.bool false, .slice none 0 0, .bool false, .slice none 0 0] 32)).frozen? ⟨w.heap.size + 1 + 1, o, none⟩ = false := fun o => by simp [go_sem]
  have Q1 := hide ((unhide H1).later hb)
  have Q2 := hide ((unhide H2).later hb)
  have szw0 : w.heap.size + 3 ≤ (((w.alloc (.cells #[.bool q.num.g, .slice q.num.a q.num.n q.num.c, .bool q.den.g, .slice q.den.a q.den.n q.den.c] 32)).alloc (.cells #[.bool b.g, .slice b.a b.n b.c] 30)).alloc (.cells #[.bool false, .slice none 0 0, .bool false, .slice none 0 0] 32)).heap.size := by simp
  have HB := hide hb
  clear hb
  generalize (((w.alloc (.cells #[.bool q.num.g, .slice q.num.a q.num.n q.num.c, .bool q.den.g, .slice q.den.a q.den.n q.den.c] 32)).alloc (.cells #[.bool b.g, .slice b.a b.n b.c] 30)).alloc (.cells #[.bool false, .slice none 0 0, .bool false, .slice none 0 0] 32)) = w0 at *
  have ne0_2 : w.heap.size ≠ w.heap.size + 1 + 1 := by omega
  have ne1_2 : w.heap.size + 1 ≠ w.heap.size + 1 + 1 := by omega
  go_region_held3 (fun w' => w'.cell? ⟨w.heap.size, 0, none⟩ = some (.bool q.num.g) ∧ w'.cell? ⟨w.heap.size, 1, none⟩ = some (.slice q.num.a q.num.n q.num.c) ∧ w'.cell? ⟨w.heap.size, 2, none⟩ = some (.bool q.den.g) ∧ w'.cell? ⟨w.heap.size, 3, none⟩ = some (.slice q.den.a q.den.n q.den.c) ∧ w'.cell? ⟨w.heap.size + 1, 0, none⟩ = some (.bool b.g) ∧ w'.cell? ⟨w.heap.size + 1, 1, none⟩ = some (.slice b.a b.n b.c)) (with_reducible (first | exact ⟨k0_0, k0_1, k0_2, k0_3, k1_0, k1_1⟩ | exact ⟨cd_other k0_0, cd_other k0_1, cd_other k0_2, cd_other k0_3, cd_other k1_0, cd_other k1_1⟩ | exact ⟨cs_other (cs_other (cs_other (cs_other (k0_0) ne0_2) ne0_2) ne0_2) ne0_2, cs_other (cs_other (cs_other (cs_other (k0_1) ne0_2) ne0_2) ne0_2) ne0_2, cs_other (cs_other (cs_other (cs_other (k0_2) ne0_2) ne0_2) ne0_2) ne0_2, cs_other (cs_other (cs_other (cs_other (k0_3) ne0_2) ne0_2) ne0_2) ne0_2, cs_other (cs_other (cs_other (cs_other (k1_0) ne1_2) ne1_2) ne1_2) ne1_2, cs_other (cs_other (cs_other (cs_other (k1_1) ne1_2) ne1_2) ne1_2) ne1_2⟩ | fail))
    (first
    | (go_at_call 118; refine (mulI_v q.num b N S _ ?_ ?_ ((unhide K1).mono (by omega)) ((unhide K3).mono (by omega))).mono ?_; exact (unhide Q1).1.later (Below.refl _ _).drew; exact (unhide Q2).later (Below.refl _ _).drew; rintro e w1 ⟨x1, l1, rfl, hb, o1, a1, n1⟩; have hbx : Below w0.heap.size w0 w1 := below_of_drew hb; have szw1 := hbx.size; replace z2 := fun o => frozen_later hbx (World.block_lt_of_cell? _ _ k2_0) (z2 o); replace k0_0 := cell_later hbx k0_0; replace k0_1 := cell_later hbx k0_1; replace k0_2 := cell_later hbx k0_2; replace k0_3 := cell_later hbx k0_3; replace k1_0 := cell_later hbx k1_0; replace k1_1 := cell_later hbx k1_1; replace k2_0 := cell_later hbx k2_0; replace k2_1 := cell_later hbx k2_1; replace k2_2 := cell_later hbx k2_2; replace k2_3 := cell_later hbx k2_3; replace Q1 := hide ((unhide Q1).later hbx); replace Q2 := hide ((unhide Q2).later hbx); have Px1 := hide (outN_ow o1 a1 n1); have HBr := hide hbx; clear hbx hb o1 a1 n1)
    | (go_at_call 120; refine (floorO ⟨x1, q.den⟩ (N * S) D _ ?_ (unhide HD) ((unhide K4).mono (by omega)) ((unhide K2).mono (by omega))).mono ?_; exact (show IsQ _ ⟨x1, q.den⟩ (N * S) D from ⟨(unhide Px1).is, (unhide Q1).2⟩).later (Below.refl _ _); rintro e w2 ⟨x2, l2, rfl, hb, o2, a2, n2⟩; have hbx : Below w1.heap.size w1 w2 := hb; have szw2 := hbx.size; replace z2 := fun o => frozen_later hbx (World.block_lt_of_cell? _ _ k2_0) (z2 o); replace k0_0 := cell_later hbx k0_0; replace k0_1 := cell_later hbx k0_1; replace k0_2 := cell_later hbx k0_2; replace k0_3 := cell_later hbx k0_3; replace k1_0 := cell_later hbx k1_0; replace k1_1 := cell_later hbx k1_1; replace k2_0 := cell_later hbx k2_0; replace k2_1 := cell_later hbx k2_1; replace k2_2 := cell_later hbx k2_2; replace k2_3 := cell_later hbx k2_3; replace Q1 := hide ((unhide Q1).later hbx); replace Q2 := hide ((unhide Q2).later hbx); replace Px1 := hide ((unhide Px1).later hbx); have Px2 := hide (outN_ow o2 a2 n2); have HBr := hide (below_on (unhide HBr) hbx); clear hbx hb o2 a2 n2)
    | (go_at_call 119; refine (lowI x2 b (N * S / D) S _ ?_ ?_ (Int.ne_of_gt (unhide HS)) ((unhide KF).mono (by omega)) ((unhide K3).mono (by omega))).mono ?_; exact (unhide Px2).is.later (Below.refl _ _); exact (unhide Q2).later (Below.refl _ _); rintro e w3 ⟨r, zs, us, rfl, hb, or, ar, nz, nu⟩; have hbx : Below w2.heap.size w2 w3 := hb; have szw3 := hbx.size; replace z2 := fun o => frozen_later hbx (World.block_lt_of_cell? _ _ k2_0) (z2 o); replace k0_0 := cell_later hbx k0_0; replace k0_1 := cell_later hbx k0_1; replace k0_2 := cell_later hbx k0_2; replace k0_3 := cell_later hbx k0_3; replace k1_0 := cell_later hbx k1_0; replace k1_1 := cell_later hbx k1_1; replace k2_0 := cell_later hbx k2_0; replace k2_1 := cell_later hbx k2_1; replace k2_2 := cell_later hbx k2_2; replace k2_3 := cell_later hbx k2_3; replace Q1 := hide ((unhide Q1).later hbx); replace Q2 := hide ((unhide Q2).later hbx); replace Px1 := hide ((unhide Px1).later hbx); replace Px2 := hide ((unhide Px2).later hbx); have OR := hide (And.intro or (And.intro ar (And.intro nz nu))); have HBr := hide (below_on (unhide HBr) hbx); clear hbx hb or ar nz nu))
  replace HB := hide (below_on (unhide HB) (unhide HBr))
  clear HBr
  go_wp2
  refine bodyPost_ret (v := .agg #[.bool r.num.g, .slice r.num.a r.num.n r.num.c, .bool r.den.g, .slice r.den.a r.den.n r.den.c]) (by simp [results, Tryz.results77, go_sem, k2_0, k2_1, k2_2, k2_3]) rfl ?_
  exact outQ_fin (q := r) (R := w.heap.size + 1 + 1) (by omega) (unhide HB) (metQ_but (w5 := w3) (v := r) (G := w.heap.size + 1 + 1)) ((unhide OR).1.wide (by omega) (Nat.le_refl _)) (unhide OR).2.1 (unhide OR).2.2.1 (unhide OR).2.2.2

set_option maxHeartbeats 4000000 in
theorem aboI (q : QV) (b : BV) (N D S : Int) (w : World) (h : IsQ w q N D) (h' : IsB w b S) (hl : Low N D) (hS : 0 < S) (k1 : Bd N 100) (k2 : Bd D 100) (k3 : Bd S 5) : Calls Tryz.prog 78 #[.agg #[.bool q.num.g, .slice q.num.a q.num.n q.num.c, .bool q.den.g, .slice q.den.a q.den.n q.den.c], .agg #[.bool b.g, .slice b.a b.n b.c]] w (OutQ w (lowN (-(-N * S / D)) S) (lowD (-(-N * S / D)) S)) := by
  have H1 := hide h
  have H2 := hide h'
  have HD := hide hl.pos
  have HS := hide hS
  have K1 := hide k1
  have K2 := hide k2
  have K3 := hide k3
  have K4 := hide ((k1.mul k3).mono (show 100 + 5 ≤ 300000 by omega))
  have HL := hide hl
  have E2 := hide (low_neg6 (F := -N * S / D) hS)
  have KF := hide (floor_bd6 (N := -N * S) hl.pos (k1.neg.mul k3))
  clear h h' hl hS k1 k2 k3
  go_enter Tryz.func78, Tryz.ntmps78
  go_upto_region 1 with fail
  have hb : Below w.heap.size w (((w.alloc (.cells #[.bool q.num.g, .slice q.num.a q.num.n q.num.c, .bool q.den.g, .slice q.den.a q.den.n q.den.c] 32)).alloc (.cells #[.bool b.g, .slice b.a b.n b.c] 30)).alloc (.cells #[.bool false, .slice none 0 0, .bool false, .slice none 0 0] 32)) := ((((Below.refl _ _).alloc (by simp) _).alloc (by simp) _).alloc (by simp <;> omega) _)
  have k0_0 : (((w.alloc (.cells #[.bool q.num.g, .slice q.num.a q.num.n q.num.c, .bool q.den.g, .slice q.den.a q.den.n q.den.c] 32)).alloc (.cells #[.bool b.g, .slice b.a b.n b.c] 30)).alloc (.cells #[.bool false, .slice none 0 0, .bool false, .slice none 0 0] 32)).cell? ⟨w.heap.size, 0, none⟩ = some (.bool q.num.g) := by simp [go_sem]
  have k0_1 : (((w.alloc (.cells #[.bool q.num.g, .slice q.num.a q.num.n q.num.c, .bool q.den.g, .slice q.den.a q.den.n q.den.c] 32)).alloc (.cells #[.bool b.g, .slice b.a b.n b.c] 30)).alloc (.cells #[.bool false, .slice none 0 0, .bool false, .slice none 0 0] 32)).cell? ⟨w.heap.size, 1, none⟩ = some (.slice q.num.a q.num.n q.num.c) := by simp [go_sem]
  have k0_2 : (((w.alloc (.cells #[.bool q.num.g, .slice q.num.a q.num.n q.num.c, .bool q.den.g, .slice q.den.a q.den.n q.den.c] 32)).alloc (.cells #[.bool b.g, .slice b.a b.n b.c] 30)).alloc (.cells #[.bool false, .slice none 0 0, .bool false, .slice none 0 0] 32)).cell? ⟨w.heap.size, 2, none⟩ = some (.bool q.den.g) := by simp [go_sem]
  have k0_3 : (((w.alloc (.cells #[.bool q.num.g, .slice q.num.a q.num.n q.num.c, .bool q.den.g, .slice q.den.a q.den.n q.den.c] 32)).alloc (.cells #[.bool b.g, .slice b.a b.n b.c] 30)).alloc (.cells #[.bool false, .slice none 0 0, .bool false, .slice none 0 0] 32)).cell? ⟨w.heap.size, 3, none⟩ = some (.slice q.den.a q.den.n q.den.c) := by simp [go_sem]
  have k1_0 : (((w.alloc (.cells #[.bool q.num.g, .slice q.num.a q.num.n q.num.c, .bool q.den.g, .slice q.den.a q.den.n q.den.c] 32)).alloc (.cells #[.bool b.g, .slice b.a b.n b.c] 30)).alloc (.cells #[.bool false, .slice none 0 0, .bool false, .slice none 0 0] 32)).cell? ⟨w.heap.size + 1, 0, none⟩ = some (.bool b.g) := by simp [go_sem]
  have k1_1 : (((w.alloc (.cells #[.bool q.num.g, .slice q.num.a q.num.n q.num.c, .bool q.den.g, .slice q.den.a q.den.n q.den.c] 32)).alloc (.cells #[.bool b.g, .slice b.a b.n b.c] 30)).alloc (.cells #[.bool false, .slice none 0 0, .bool false, .slice none 0 0] 32)).cell? ⟨w.heap.size + 1, 1, none⟩ = some (.slice b.a b.n b.c) := by simp [go_sem]
  have k2_0 : (((w.alloc (.cells #[.bool q.num.g, .slice q.num.a q.num.n q.num.c, .bool q.den.g, .slice q.den.a q.den.n q.den.c] 32)).alloc (.cells #[.bool b.g, .slice b.a b.n b.c] 30)).alloc (.cells #[.bool false, .slice none 0 0, .bool false, .slice none 0 0] 32)).cell? ⟨w.heap.size + 1 + 1, 0, none⟩ = some (.bool false) := by simp [go_sem]
  have k2_1 : (((w.alloc (.cells #[.bool q.num.g, .slice q.num.a q.num.n q.num.c, .bool q.den.g, .slice q.den.a q.den.n q.den.c] 32)).alloc (.cells #[.bool b.g, .slice b.a b.n b.c] 30)).alloc (.cells #[.bool false, .slice none 0 0, .bool false, .slice none 0 0] 32)).cell? ⟨w.heap.size + 1 + 1, 1, none⟩ = some (.slice none 0 0) := by simp [go_sem]
  have k2_2 : (((w.alloc (.cells #[.bool q.num.g, .slice q.num.a q.num.n q.num.c, .bool q.den.g, .slice q.den.a q.den.n q.den.c] 32)).alloc (.cells #[.bool b.g, .slice b.a b.n b.c] 30)).alloc (.cells #[.bool false, .slice none 0 0, .bool false, .slice none 0 0] 32)).cell? ⟨w.heap.size + 1 + 1, 2, none⟩ = some (.bool false) := by simp [go_sem]
  have k2_3 : (((w.alloc (.cells #[.bool q.num.g, .slice q.num.a q.num.n q.num.c, .bool q.den.g, .slice q.den.a q.den.n q.den.c] 32)).alloc (.cells #[.bool b.g, .slice b.a b.n b.c] 30)).alloc (.cells #[.bool false, .slice none 0 0, .bool false, .slice none 0 0] 32)).cell? ⟨w.heap.size + 1 + 1, 3, none⟩ = some (.slice none 0 0) := by simp [go_sem]
  have z2 : ∀ o, (((w.alloc (.cells #[.bool q.num.g, .slice q.num.a q.num.n q.num.c, .bool q.den.g, .slice q.den.a q.den.n q.den.c] 32)).alloc (.cells #[.bool b.g, .slice b.a b.n b.c] 30)).alloc (.cells #[.bool false, .slice none 0 0, .bool false, .slice none 0 0] 32)).frozen? ⟨w.heap.size + 1 + 1, o, none⟩ = false := fun o => by simp [go_sem]
  have Q1 := hide ((unhide H1).later hb)
  have Q2 := hide ((unhide H2).later hb)
  have szw0 : w.heap.size + 3 ≤ (((w.alloc (.cells #[.bool q.num.g, .slice q.num.a q.num.n q.num.c, .bool q.den.g, .slice q.den.a q.den.n q.den.c] 32)).alloc (.cells #[.bool b.g, .slice b.a b.n b.c] 30)).alloc (.cells #[.bool false, .slice none 0 0, .bool false, .slice none 0 0] 32)).heap.size := by simp
  have HB := hide hb
  clear hb
  generalize (((w.alloc (.cells #[.bool q.num.g, .slice q.num.a q.num.n q.num.c, .bool q.den.g, .slice q.den.a q.den.n q.den.c] 32)).alloc (.cells #[.bool b.g, .slice b.a b.n b.c] 30)).alloc (.cells #[.bool false, .slice none 0 0, .bool false, .slice none 0 0] 32)) = w0 at *
  have ne0_2 : w.heap.size ≠ w.heap.size + 1 + 1 := by omega
  have ne1_2 : w.heap.size + 1 ≠ w.heap.size + 1 + 1 := by omega
  go_region_held3 (fun w' => w'.cell? ⟨w.heap.size, 0, none⟩ = some (.bool q.num.g) ∧ w'.cell? ⟨w.heap.size, 1, none⟩ = some (.slice q.num.a q.num.n q.num.c) ∧ w'.cell? ⟨w.heap.size, 2, none⟩ = some (.bool q.den.g) ∧ w'.cell? ⟨w.heap.size, 3, none⟩ = some (.slice q.den.a q.den.n q.den.c) ∧ w'.cell? ⟨w.heap.size + 1, 0, none⟩ = some (.bool b.g) ∧ w'.cell? ⟨w.heap.size + 1, 1, none⟩ = some (.slice b.a b.n b.c)) (with_reducible (first | exact ⟨k0_0, k0_1, k0_2, k0_3, k1_0, k1_1⟩ | exact ⟨cd_other k0_0, cd_other k0_1, cd_other k0_2, cd_other k0_3, cd_other k1_0, cd_other k1_1⟩ | exact ⟨cs_other (cs_other (cs_other (cs_other (k0_0) ne0_2) ne0_2) ne0_2) ne0_2, cs_other (cs_other (cs_other (cs_other (k0_1) ne0_2) ne0_2) ne0_2) ne0_2, cs_other (cs_other (cs_other (cs_other (k0_2) ne0_2) ne0_2) ne0_2) ne0_2, cs_other (cs_other (cs_other (cs_other (k0_3) ne0_2) ne0_2) ne0_2) ne0_2, cs_other (cs_other (cs_other (cs_other (k1_0) ne1_2) ne1_2) ne1_2) ne1_2, cs_other (cs_other (cs_other (cs_other (k1_1) ne1_2) ne1_2) ne1_2) ne1_2⟩ | fail))
    (first
    | (have chk := Px2; clear chk; go_at_call 121; refine (negRI x2 _ _ _ ?_ (low_low (Int.ne_of_gt (unhide HS))) ((lowN_bd (unhide KF)).mono (by omega)) ((lowD_bd (unhide K3)).mono (by omega))).mono ?_; exact (unhide Px2).later (Below.refl _ _); rintro e w3 ⟨r, zs, us, rfl, hb, or, ar, nz, nu⟩; have hbx : Below w2.heap.size w2 w3 := hb; have szw3 := hbx.size; replace z2 := fun o => frozen_later hbx (World.block_lt_of_cell? _ _ k2_0) (z2 o); replace k0_0 := cell_later hbx k0_0; replace k0_1 := cell_later hbx k0_1; replace k0_2 := cell_later hbx k0_2; replace k0_3 := cell_later hbx k0_3; replace k1_0 := cell_later hbx k1_0; replace k1_1 := cell_later hbx k1_1; replace k2_0 := cell_later hbx k2_0; replace k2_1 := cell_later hbx k2_1; replace k2_2 := cell_later hbx k2_2; replace k2_3 := cell_later hbx k2_3; replace Q1 := hide ((unhide Q1).later hbx); replace Q2 := hide ((unhide Q2).later hbx); replace Px1 := hide ((unhide Px1).later hbx); replace Px2 := hide ((unhide Px2).later hbx); rw [← (unhide E2).1, ← (unhide E2).2] at or ar; rw [← (unhide E2).1] at nz; rw [← (unhide E2).2] at nu; have OR := hide (And.intro or (And.intro ar (And.intro nz nu))); have HBr := hide (below_on (unhide HBr) hbx); clear hbx hb or ar nz nu)
    | (go_at_call 77; refine (belI x1 b (-N) D S _ ?_ ?_ (unhide HD) (unhide HS) (unhide K1).neg (unhide K2) (unhide K3)).mono ?_; exact (unhide Px1).later (Below.refl _ _); exact (unhide Q2).later (Below.refl _ _); rintro e w2 ⟨x2, l2, u2, rfl, hb, o2, a2, n2, m2⟩; have hbx : Below w1.heap.size w1 w2 := hb; have szw2 := hbx.size; replace z2 := fun o => frozen_later hbx (World.block_lt_of_cell? _ _ k2_0) (z2 o); replace k0_0 := cell_later hbx k0_0; replace k0_1 := cell_later hbx k0_1; replace k0_2 := cell_later hbx k0_2; replace k0_3 := cell_later hbx k0_3; replace k1_0 := cell_later hbx k1_0; replace k1_1 := cell_later hbx k1_1; replace k2_0 := cell_later hbx k2_0; replace k2_1 := cell_later hbx k2_1; replace k2_2 := cell_later hbx k2_2; replace k2_3 := cell_later hbx k2_3; replace Q1 := hide ((unhide Q1).later hbx); replace Q2 := hide ((unhide Q2).later hbx); replace Px1 := hide ((unhide Px1).later hbx); have Px2 := hide (isQ_of a2 n2 m2); have HBr := hide (below_on (unhide HBr) hbx); clear hbx hb o2 a2 n2 m2)
    | (go_at_call_of 121 (Value.agg #[Value.bool q.num.g, Value.slice q.num.a q.num.n q.num.c, Value.bool q.den.g, Value.slice q.den.a q.den.n q.den.c]); refine (negRI q N D _ ?_ (unhide HL) ((unhide K1).mono (by omega)) ((unhide K2).mono (by omega))).mono ?_; exact (unhide Q1).later (Below.refl _ _).drew; rintro e w1 ⟨x1, l1, u1, rfl, hb, o1, a1, n1, m1⟩; have hbx : Below w0.heap.size w0 w1 := below_of_drew hb; have szw1 := hbx.size; replace z2 := fun o => frozen_later hbx (World.block_lt_of_cell? _ _ k2_0) (z2 o); replace k0_0 := cell_later hbx k0_0; replace k0_1 := cell_later hbx k0_1; replace k0_2 := cell_later hbx k0_2; replace k0_3 := cell_later hbx k0_3; replace k1_0 := cell_later hbx k1_0; replace k1_1 := cell_later hbx k1_1; replace k2_0 := cell_later hbx k2_0; replace k2_1 := cell_later hbx k2_1; replace k2_2 := cell_later hbx k2_2; replace k2_3 := cell_later hbx k2_3; replace Q1 := hide ((unhide Q1).later hbx); replace Q2 := hide ((unhide Q2).later hbx); have Px1 := hide (isQ_of a1 n1 m1); have HBr := hide hbx; clear hbx hb o1 a1 n1 m1))
  replace HB := hide (below_on (unhide HB) (unhide HBr))
  clear HBr
  go_wp2
  refine bodyPost_ret (v := .agg #[.bool r.num.g, .slice r.num.a r.num.n r.num.c, .bool r.den.g, .slice r.den.a r.den.n r.den.c]) (by simp [results, Tryz.results78, go_sem, k2_0, k2_1, k2_2, k2_3]) rfl ?_
  exact outQ_fin (q := r) (R := w.heap.size + 1 + 1) (by omega) (unhide HB) (metQ_but (w5 := w3) (v := r) (G := w.heap.size + 1 + 1)) ((unhide OR).1.wide (by omega) (Nat.le_refl _)) (unhide OR).2.1 (unhide OR).2.2.1 (unhide OR).2.2.2

set_option maxHeartbeats 8000000 in
theorem rndO (v : SV) (b : BV) (d : SD) (S : Int) (w : World) (j1 : IsGoodS w v d) (h' : IsB w b S) (hS : 0 < S) (k3 : Bd S 5) : Calls Tryz.prog 37 #[.agg #[.bool v.lo.num.g, .slice v.lo.num.a v.lo.num.n v.lo.num.c, .bool v.lo.den.g, .slice v.lo.den.a v.lo.den.n v.lo.den.c, .bool v.hi.num.g, .slice v.hi.num.a v.hi.num.n v.hi.num.c, .bool v.hi.den.g, .slice v.hi.den.a v.hi.den.n v.hi.den.c], .agg #[.bool b.g, .slice b.a b.n b.c]] w (OutS w (lowN (nQ d.lo * S / dQ d.lo) S) (lowD (nQ d.lo * S / dQ d.lo) S) (lowN (-(-nQ d.hi * S / dQ d.hi)) S) (lowD (-(-nQ d.hi * S / dQ d.hi)) S)) := by
  have J1 := hide j1
  have H2 := hide h'
  have HS := hide hS
  have K3 := hide k3
  clear j1 h' hS k3
  go_enter Tryz.func37, Tryz.ntmps37
  go_upto_region 1 with fail
  have hb : Below w.heap.size w (((w.alloc (.cells #[.bool v.lo.num.g, .slice v.lo.num.a v.lo.num.n v.lo.num.c, .bool v.lo.den.g, .slice v.lo.den.a v.lo.den.n v.lo.den.c, .bool v.hi.num.g, .slice v.hi.num.a v.hi.num.n v.hi.num.c, .bool v.hi.den.g, .slice v.hi.den.a v.hi.den.n v.hi.den.c] 34)).alloc (.cells #[.bool b.g, .slice b.a b.n b.c] 30)).alloc (.cells #[.bool false, .slice none 0 0, .bool false, .slice none 0 0, .bool false, .slice none 0 0, .bool false, .slice none 0 0] 34)) := ((((Below.refl _ _).alloc (by simp) _).alloc (by simp) _).alloc (by simp <;> omega) _)
  have k0_0 : (((w.alloc (.cells #[.bool v.lo.num.g, .slice v.lo.num.a v.lo.num.n v.lo.num.c, .bool v.lo.den.g, .slice v.lo.den.a v.lo.den.n v.lo.den.c, .bool v.hi.num.g, .slice v.hi.num.a v.hi.num.n v.hi.num.c, .bool v.hi.den.g, .slice v.hi.den.a v.hi.den.n v.hi.den.c] 34)).alloc (.cells #[.bool b.g, .slice b.a b.n b.c] 30)).alloc (.cells #[.bool false, .slice none 0 0, .bool false, .slice none 0 0, .bool false, .slice none 0 0, .bool false, .slice none 0 0] 34)).cell? ⟨w.heap.size, 0, none⟩ = some (.bool v.lo.num.g) := by simp [go_sem]
  have k0_1 : (((w.alloc (.cells #[.bool v.lo.num.g, .slice v.lo.num.a v.lo.num.n v.lo.num.c, .bool v.lo.den.g, .slice v.lo.den.a v.lo.den.n v.lo.den.c, .bool v.hi.num.g, .slice v.hi.num.a v.hi.num.n v.hi.num.c, .bool v.hi.den.g, .slice v.hi.den.a v.hi.den.n v.hi.den.c] 34)).alloc (.cells #[.bool b.g, .slice b.a b.n b.c] 30)).alloc (.cells #[.bool false, .slice none 0 0, .bool false, .slice none 0 0, .bool false, .slice none 0 0, .bool false, .slice none 0 0] 34)).cell? ⟨w.heap.size, 1, none⟩ = some (.slice v.lo.num.a v.lo.num.n v.lo.num.c) := by simp [go_sem]
  have k0_2 : (((w.alloc (.cells #[.bool v.lo.num.g, .slice v.lo.num.a v.lo.num.n v.lo.num.c, .bool v.lo.den.g, .slice v.lo.den.a v.lo.den.n v.lo.den.c, .bool v.hi.num.g, .slice v.hi.num.a v.hi.num.n v.hi.num.c, .bool v.hi.den.g, .slice v.hi.den.a v.hi.den.n v.hi.den.c] 34)).alloc (.cells #[.bool b.g, .slice b.a b.n b.c] 30)).alloc (.cells #[.bool false, .slice none 0 0, .bool false, .slice none 0 0, .bool false, .slice none 0 0, .bool false, .slice none 0 0] 34)).cell? ⟨w.heap.size, 2, none⟩ = some (.bool v.lo.den.g) := by simp [go_sem]
  have k0_3 : (((w.alloc (.cells #[.bool v.lo.num.g, .slice v.lo.num.a v.lo.num.n v.lo.num.c, .bool v.lo.den.g, .slice v.lo.den.a v.lo.den.n v.lo.den.c, .bool v.hi.num.g, .slice v.hi.num.a v.hi.num.n v.hi.num.c, .bool v.hi.den.g, .slice v.hi.den.a v.hi.den.n v.hi.den.c] 34)).alloc (.cells #[.bool b.g, .slice b.a b.n b.c] 30)).alloc (.cells #[.bool false, .slice none 0 0, .bool false, .slice none 0 0, .bool false, .slice none 0 0, .bool false, .slice none 0 0] 34)).cell? ⟨w.heap.size, 3, none⟩ = some (.slice v.lo.den.a v.lo.den.n v.lo.den.c) := by simp [go_sem]
  have k0_4 : (((w.alloc (.cells #[.bool v.lo.num.g, .slice v.lo.num.a v.lo.num.n v.lo.num.c, .bool v.lo.den.g, .slice v.lo.den.a v.lo.den.n v.lo.den.c, .bool v.hi.num.g, .slice v.hi.num.a v.hi.num.n v.hi.num.c, .bool v.hi.den.g, .slice v.hi.den.a v.hi.den.n v.hi.den.c] 34)).alloc (.cells #[.bool b.g, .slice b.a b.n b.c] 30)).alloc (.cells #[.bool false, .slice none 0 0, .bool false, .slice none 0 0, .bool false, .slice none 0 0, .bool false, .slice none 0 0] 34)).cell? ⟨w.heap.size, 4, none⟩ = some (.bool v.hi.num.g) := by simp [go_sem]
  have k0_5 : (((w.alloc (.cells #[.bool v.lo.num.g, .slice v.lo.num.a v.lo.num.n v.lo.num.c, .bool v.lo.den.g, .slice v.lo.den.a v.lo.den.n v.lo.den.c, .bool v.hi.num.g, .slice v.hi.num.a v.hi.num.n v.hi.num.c, .bool v.hi.den.g, .slice v.hi.den.a v.hi.den.n v.hi.den.c] 34)).alloc (.cells #[.bool b.g, .slice b.a b.n b.c] 30)).alloc (.cells #[.bool false, .slice none 0 0, .bool false, .slice none 0 0, .bool false, .slice none 0 0, .bool false, .slice none 0 0] 34)).cell? ⟨w.heap.size, 5, none⟩ = some (.slice v.hi.num.a v.hi.num.n v.hi.num.c) := by simp [go_sem]
  have k0_6 : (((w.alloc (.cells #[.bool v.lo.num.g, .slice v.lo.num.a v.lo.num.n v.lo.num.c, .bool v.lo.den.g, .slice v.lo.den.a v.lo.den.n v.lo.den.c, .bool v.hi.num.g, .slice v.hi.num.a v.hi.num.n v.hi.num.c, .bool v.hi.den.g, .slice v.hi.den.a v.hi.den.n v.hi.den.c] 34)).alloc (.cells #[.bool b.g, .slice b.a b.n b.c] 30)).alloc (.cells #[.bool false, .slice none 0 0, .bool false, .slice none 0 0, .bool false, .slice none 0 0, .bool false, .slice none 0 0] 34)).cell? ⟨w.heap.size, 6, none⟩ = some (.bool v.hi.den.g) := by simp [go_sem]
  have k0_7 : (((w.alloc (.cells #[.bool v.lo.num.g, .slice v.lo.num.a v.lo.num.n v.lo.num.c, .bool v.lo.den.g, .slice v.lo.den.a v.lo.den.n v.lo.den.c, .bool v.hi.num.g, .slice v.hi.num.a v.hi.num.n v.hi.num.c, .bool v.hi.den.g, .slice v.hi.den.a v.hi.den.n v.hi.den.c] 34)).alloc (.cells #[.bool b.g, .slice b.a b.n b.c] 30)).alloc (.cells #[.bool false, .slice none 0 0, .bool false, .slice none 0 0, .bool false, .slice none 0 0, .bool false, .slice none 0 0] 34)).cell? ⟨w.heap.size, 7, none⟩ = some (.slice v.hi.den.a v.hi.den.n v.hi.den.c) := by simp [go_sem]
  have k1_0 : (((w.alloc (.cells #[.bool v.lo.num.g, .slice v.lo.num.a v.lo.num.n v.lo.num.c, .bool v.lo.den.g, .slice v.lo.den.a v.lo.den.n v.lo.den.c, .bool v.hi.num.g, .slice v.hi.num.a v.hi.num.n v.hi.num.c, .bool v.hi.den.g, .slice v.hi.den.a v.hi.den.n v.hi.den.c] 34)).alloc (.cells #[.bool b.g, .slice b.a b.n b.c] 30)).alloc (.cells #[.bool false, .slice none 0 0, .bool false, .slice none 0 0, .bool false, .slice none 0 0, .bool false, .slice none 0 0] 34)).cell? ⟨w.heap.size + 1, 0, none⟩ = some (.bool b.g) := by simp [go_sem]
  have k1_1 : (((w.alloc (.cells #[.bool v.lo.num.g, .slice v.lo.num.a v.lo.num.n v.lo.num.c, .bool v.lo.den.g, .slice v.lo.den.a v.lo.den.n v.lo.den.c, .bool v.hi.num.g, .slice v.hi.num.a v.hi.num.n v.hi.num.c, .bool v.hi.den.g, .slice v.hi.den.a v.hi.den.n v.hi.den.c] 34)).alloc (.cells #[.bool b.g, .slice b.a b.n b.c] 30)).alloc (.cells #[.bool false, .slice none 0 0, .bool false, .slice none 0 0, .bool false, .slice none 0 0, .bool false, .slice none 0 0] 34)).cell? ⟨w.heap.size + 1, 1, none⟩ = some (.slice b.a b.n b.c) := by simp [go_sem]
  have k2_0 : (((w.alloc (.cells #[.bool v.lo.num.g, .slice v.lo.num.a v.lo.num.n v.lo.num.c, .bool v.lo.den.g, .slice v.lo.den.a v.lo.den.n v.lo.den.c, .bool v.hi.num.g, .slice v.hi.num.a v.hi.num.n v.hi.num.c, .bool v.hi.den.g, .slice v.hi.den.a v.hi.den.n v.hi.den.c] 34)).alloc (.cells #[.bool b.g, .slice b.a b.n b.c] 30)).alloc (.cells #[.bool false, .slice none 0 0, .bool false, .slice none 0 0, .bool false, .slice none 0 0, .bool false, .slice none 0 0] 34)).cell? ⟨w.heap.size + 1 + 1, 0, none⟩ = some (.bool false) := by simp [go_sem]
  have k2_1 : (((w.alloc (.cells #[.bool v.lo.num.g, .slice v.lo.num.a v.lo.num.n v.lo.num.c, .bool v.lo.den.g, .slice v.lo.den.a v.lo.den.n v.lo.den.c, .bool v.hi.num.g, .slice v.hi.num.a v.hi.num.n v.hi.num.c, .bool v.hi.den.g, .slice v.hi.den.a v.hi.den.n v.hi.den.c] 34)).alloc (.cells #[.bool b.g, .slice b.a b.n b.c] 30)).alloc (.cells #[.bool false, .slice none 0 0, .bool false, .slice none 0 0, .bool false, .slice none 0 0, .bool false, .slice none 0 0] 34)).cell? ⟨w.heap.size + 1 + 1, 1, none⟩ = some (.slice none 0 0) := by simp [go_sem]
  have k2_2 : (((w.alloc (.cells #[.bool v.lo.num.g, .slice v.lo.num.a v.lo.num.n v.lo.num.c, .bool v.lo.den.g, .slice v.lo.den.a v.lo.den.n v.lo.den.c, .bool v.hi.num.g, .slice v.hi.num.a v.hi.num.n v.hi.num.c, .bool v.hi.den.g, .slice v.hi.den.a v.hi.den.n v.hi.den.c] 34)).alloc (.cells #[.bool b.g, .slice b.a b.n b.c] 30)).alloc (.cells #[.bool false, .slice none 0 0, .bool false, .slice none 0 0, .bool false, .slice none 0 0, .bool false, .slice none 0 0] 34)).cell? ⟨w.heap.size + 1 + 1, 2, none⟩ = some (.bool false) := by simp [go_sem]
  have k2_3 : (((w.alloc (.cells #[.bool v.lo.num.g, .slice v.lo.num.a v.lo.num.n v.lo.num.c, .bool v.lo.den.g, .slice v.lo.den.a v.lo.den.n v.lo.den.c, .bool v.hi.num.g, .slice v.hi.num.a v.hi.num.n v.hi.num.c, .bool v.hi.den.g, .slice v.hi.den.a v.hi.den.n v.hi.den.c] 34)).alloc (.cells #[.bool b.g, .slice b.a b.n b.c] 30)).alloc (.cells #[.bool false, .slice none 0 0, .bool false, .slice none 0 0, .bool false, .slice none 0 0, .bool false, .slice none 0 0] 34)).cell? ⟨w.heap.size + 1 + 1, 3, none⟩ = some (.slice none 0 0) := by simp [go_sem]
  have k2_4 : (((w.alloc (.cells #[.bool v.lo.num.g, .slice v.lo.num.a v.lo.num.n v.lo.num.c, .bool v.lo.den.g, .slice v.lo.den.a v.lo.den.n v.lo.den.c, .bool v.hi.num.g, .slice v.hi.num.a v.hi.num.n v.hi.num.c, .bool v.hi.den.g, .slice v.hi.den.a v.hi.den.n v.hi.den.c] 34)).alloc (.cells #[.bool b.g, .slice b.a b.n b.c] 30)).alloc (.cells #[.bool false, .slice none 0 0, .bool false, .slice none 0 0, .bool false, .slice none 0 0, .bool false, .slice none 0 0] 34)).cell? ⟨w.heap.size + 1 + 1, 4, none⟩ = some (.bool false) := by simp [go_sem]
  have k2_5 : (((w.alloc (.cells #[.bool v.lo.num.g, .slice v.lo.num.a v.lo.num.n v.lo.num.c, .bool v.lo.den.g, .slice v.lo.den.a v.lo.den.n v.lo.den.c, .bool v.hi.num.g, .slice v.hi.num.a v.hi.num.n v.hi.num.c, .bool v.hi.den.g, .slice v.hi.den.a v.hi.den.n v.hi.den.c] 34)).alloc (.cells #[.bool b.g, .slice b.a b.n b.c] 30)).alloc (.cells #[.bool false, .slice none 0 0, .bool false, .slice none 0 0, .bool false, .slice none 0 0, .bool false, .slice none 0 0] 34)).cell? ⟨w.heap.size + 1 + 1, 5, none⟩ = some (.slice none 0 0) := by simp [go_sem]
  have k2_6 : (((w.alloc (.cells #[.bool v.lo.num.g, .slice v.lo.num.a v.lo.num.n v.lo.num.c, .bool v.lo.den.g, .slice v.lo.den.a v.lo.den.n v.lo.den.c, .bool v.hi.num.g, .slice v.hi.num.a v.hi.num.n v.hi.num.c, .bool v.hi.den.g, .slice v.hi.den.a v.hi.den.n v.hi.den.c] 34)).alloc (.cells #[.bool b.g, .slice b.a b.n b.c] 30)).alloc (.cells #[.bool false, .slice none 0 0, .bool false, .slice none 0 0, .bool false, .slice none 0 0, .bool false, .slice none 0 0] 34)).cell? ⟨w.heap.size + 1 + 1, 6, none⟩ = some (.bool false) := by simp [go_sem]
  have k2_7 : (((w.alloc (.cells #[.bool v.lo.num.g, .slice v.lo.num.a v.lo.num.n v.lo.num.c, .bool v.lo.den.g, .slice v.lo.den.a v.lo.den.n v.lo.den.c, .bool v.hi.num.g, .slice v.hi.num.a v.hi.num.n v.hi.num.c, .bool v.hi.den.g, .slice v.hi.den.a v.hi.den.n v.hi.den.c] 34)).alloc (.cells #[.bool b.g, .slice b.a b.n b.c] 30)).alloc (.cells #[.bool false, .slice none 0 0, .bool false, .slice none 0 0, .bool false, .slice none 0 0, .bool false, .slice none 0 0] 34)).cell? ⟨w.heap.size + 1 + 1, 7, none⟩ = some (.slice none 0 0) := by simp [go_sem]
  have z2 : ∀ o, (((w.alloc (.cells #[.bool v.lo.num.g, .slice v.lo.num.a v.lo.num.n v.lo.num.c, .bool v.lo.den.g, .slice v.lo.den.a v.lo.den.n v.lo.den.c, .bool v.hi.num.g, .slice v.hi.num.a v.hi.num.n v.hi.num.c, .bool v.hi.den.g, .slice v.hi.den.a v.hi.den.n v.hi.den.c] 34)).alloc (.cells #[.bool b.g, .slice b.a b.n b.c] 30)).alloc (.cells #[.bool false, .slice none 0 0, .bool false, .slice none 0 0, .bool false, .slice none 0 0, .bool false, .slice none 0 0] 34)).frozen? ⟨w.heap.size + 1 + 1, o, none⟩ = false := fun o => by simp [go_sem]
  have S1 := hide ((unhide J1).later hb)
  have Q2 := hide ((unhide H2).later hb)
  have szw0 : w.heap.size + 3 ≤ (((w.alloc (.cells #[.bool v.lo.num.g, .slice v.lo.num.a v.lo.num.n v.lo.num.c, .bool v.lo.den.g, .slice v.lo.den.a v.lo.den.n v.lo.den.c, .bool v.hi.num.g, .slice v.hi.num.a v.hi.num.n v.hi.num.c, .bool v.hi.den.g, .slice v.hi.den.a v.hi.den.n v.hi.den.c] 34)).alloc (.cells #[.bool b.g, .slice b.a b.n b.c] 30)).alloc (.cells #[.bool false, .slice none 0 0, .bool false, .slice none 0 0, .bool false, .slice none 0 0, .bool false, .slice none 0 0] 34)).heap.size := by simp
  have HB := hide hb
  clear hb
  generalize (((w.alloc (.cells #[.bool v.lo.num.g, .slice v.lo.num.a v.lo.num.n v.lo.num.c, .bool v.lo.den.g, .slice v.lo.den.a v.lo.den.n v.lo.den.c, .bool v.hi.num.g, .slice v.hi.num.a v.hi.num.n v.hi.num.c, .bool v.hi.den.g, .slice v.hi.den.a v.hi.den.n v.hi.den.c] 34)).alloc (.cells #[.bool b.g, .slice b.a b.n b.c] 30)).alloc (.cells #[.bool false, .slice none 0 0, .bool false, .slice none 0 0, .bool false, .slice none 0 0, .bool false, .slice none 0 0] 34)) = w0 at *
  have ne0_2 : w.heap.size ≠ w.heap.size + 1 + 1 := by omega
  have ne1_2 : w.heap.size + 1 ≠ w.heap.size + 1 + 1 := by omega
  go_region_held3 (fun w' => w'.cell? ⟨w.heap.size, 0, none⟩ = some (.bool v.lo.num.g) ∧ w'.cell? ⟨w.heap.size, 1, none⟩ = some (.slice v.lo.num.a v.lo.num.n v.lo.num.c) ∧ w'.cell? ⟨w.heap.size, 2, none⟩ = some (.bool v.lo.den.g) ∧ w'.cell? ⟨w.heap.size, 3, none⟩ = some (.slice v.lo.den.a v.lo.den.n v.lo.den.c) ∧ w'.cell? ⟨w.heap.size, 4, none⟩ = some (.bool v.hi.num.g) ∧ w'.cell? ⟨w.heap.size, 5, none⟩ = some (.slice v.hi.num.a v.hi.num.n v.hi.num.c) ∧ w'.cell? ⟨w.heap.size, 6, none⟩ = some (.bool v.hi.den.g) ∧ w'.cell? ⟨w.heap.size, 7, none⟩ = some (.slice v.hi.den.a v.hi.den.n v.hi.den.c) ∧ w'.cell? ⟨w.heap.size + 1, 0, none⟩ = some (.bool b.g) ∧ w'.cell? ⟨w.heap.size + 1, 1, none⟩ = some (.slice b.a b.n b.c)) (with_reducible (first | exact ⟨k0_0, k0_1, k0_2, k0_3, k0_4, k0_5, k0_6, k0_7, k1_0, k1_1⟩ | exact ⟨cd_other k0_0, cd_other k0_1, cd_other k0_2, cd_other k0_3, cd_other k0_4, cd_other k0_5, cd_other k0_6, cd_other k0_7, cd_other k1_0, cd_other k1_1⟩ | exact ⟨cs_other (cs_other (cs_other (cs_other (cs_other (cs_other (cs_other (cs_other (k0_0) ne0_2) ne0_2) ne0_2) ne0_2) ne0_2) ne0_2) ne0_2) ne0_2, cs_other (cs_other (cs_other (cs_other (cs_other (cs_other (cs_other (cs_other (k0_1) ne0_2) ne0_2) ne0_2) ne0_2) ne0_2) ne0_2) ne0_2) ne0_2, cs_other (cs_other (cs_other (cs_other (cs_other (cs_other (cs_other (cs_other (k0_2) ne0_2) ne0_2) ne0_2) ne0_2) ne0_2) ne0_2) ne0_2) ne0_2, cs_other (cs_other (cs_other (cs_other (cs_other (cs_other (cs_other (cs_other (k0_3) ne0_2) ne0_2) ne0_2) ne0_2) ne0_2) ne0_2) ne0_2) ne0_2, cs_other (cs_other (cs_other (cs_other (cs_other (cs_other (cs_other (cs_other (k0_4) ne0_2) ne0_2) ne0_2) ne0_2) ne0_2) ne0_2) ne0_2) ne0_2, cs_other (cs_other (cs_other (cs_other (cs_other (cs_other (cs_other (cs_other (k0_5) ne0_2) ne0_2) ne0_2) ne0_2) ne0_2) ne0_2) ne0_2) ne0_2, cs_other (cs_other (cs_other (cs_other (cs_other (cs_other (cs_other (cs_other (k0_6) ne0_2) ne0_2) ne0_2) ne0_2) ne0_2) ne0_2) ne0_2) ne0_2, cs_other (cs_other (cs_other (cs_other (cs_other (cs_other (cs_other (cs_other (k0_7) ne0_2) ne0_2) ne0_2) ne0_2) ne0_2) ne0_2) ne0_2) ne0_2, cs_other (cs_other (cs_other (cs_other (cs_other (cs_other (cs_other (cs_other (k1_0) ne1_2) ne1_2) ne1_2) ne1_2) ne1_2) ne1_2) ne1_2) ne1_2, cs_other (cs_other (cs_other (cs_other (cs_other (cs_other (cs_other (cs_other (k1_1) ne1_2) ne1_2) ne1_2) ne1_2) ne1_2) ne1_2) ne1_2) ne1_2⟩ | fail))
    (first
    | (go_at_call 77; refine (belI v.lo b _ _ S _ ?_ ?_ (unhide J1).lo.pos (unhide HS) ((unhide J1).lo.kn.mono (by omega)) ((unhide J1).lo.kd.mono (by omega)) (unhide K3)).mono ?_; exact (unhide S1).lo.is.later (Below.refl _ _).drew; exact (unhide Q2).later (Below.refl _ _).drew; rintro e w1 ⟨x1, l1, u1, rfl, hb, o1, a1, n1, m1⟩; have hbx : Below w0.heap.size w0 w1 := below_of_drew hb; have szw1 := hbx.size; replace z2 := fun o => frozen_later hbx (World.block_lt_of_cell? _ _ k2_0) (z2 o); replace k0_0 := cell_later hbx k0_0; replace k0_1 := cell_later hbx k0_1; replace k0_2 := cell_later hbx k0_2; replace k0_3 := cell_later hbx k0_3; replace k0_4 := cell_later hbx k0_4; replace k0_5 := cell_later hbx k0_5; replace k0_6 := cell_later hbx k0_6; replace k0_7 := cell_later hbx k0_7; replace k1_0 := cell_later hbx k1_0; replace k1_1 := cell_later hbx k1_1; replace k2_0 := cell_later hbx k2_0; replace k2_1 := cell_later hbx k2_1; replace k2_2 := cell_later hbx k2_2; replace k2_3 := cell_later hbx k2_3; replace k2_4 := cell_later hbx k2_4; replace k2_5 := cell_later hbx k2_5; replace k2_6 := cell_later hbx k2_6; replace k2_7 := cell_later hbx k2_7; replace S1 := hide ((unhide S1).later hbx); replace Q2 := hide ((unhide Q2).later hbx); have ow1 : OwR w0.heap.size w1.heap.size w1 x1 _ _ := ⟨l1, u1, o1.wide (by first | exact Nat.le_refl _ | (simp; done) | (simp; omega)) (Nat.le_refl _), a1, n1, m1⟩; have P1 := hide (ow1); have HBr := hide hbx; clear hbx hb o1 a1 n1 m1 ow1)
    | (go_at_call 78; refine (aboI v.hi b _ _ S _ ?_ ?_ ⟨(unhide J1).hi.pos, (unhide J1).hi.low⟩ (unhide HS) ((unhide J1).hi.kn.mono (by omega)) ((unhide J1).hi.kd.mono (by omega)) (unhide K3)).mono ?_; exact (unhide S1).hi.is.later (Below.refl _ _); exact (unhide Q2).later (Below.refl _ _); rintro e w2 ⟨x2, l2, u2, rfl, hb, o2, a2, n2, m2⟩; have hbx : Below w1.heap.size w1 w2 := hb; have szw2 := hbx.size; replace z2 := fun o => frozen_later hbx (World.block_lt_of_cell? _ _ k2_0) (z2 o); replace k0_0 := cell_later hbx k0_0; replace k0_1 := cell_later hbx k0_1; replace k0_2 := cell_later hbx k0_2; replace k0_3 := cell_later hbx k0_3; replace k0_4 := cell_later hbx k0_4; replace k0_5 := cell_later hbx k0_5; replace k0_6 := cell_later hbx k0_6; replace k0_7 := cell_later hbx k0_7; replace k1_0 := cell_later hbx k1_0; replace k1_1 := cell_later hbx k1_1; replace k2_0 := cell_later hbx k2_0; replace k2_1 := cell_later hbx k2_1; replace k2_2 := cell_later hbx k2_2; replace k2_3 := cell_later hbx k2_3; replace k2_4 := cell_later hbx k2_4; replace k2_5 := cell_later hbx k2_5; replace k2_6 := cell_later hbx k2_6; replace k2_7 := cell_later hbx k2_7; replace S1 := hide ((unhide S1).later hbx); replace Q2 := hide ((unhide Q2).later hbx); replace P1 := hide ((unhide P1).later hbx); have ow2 : OwR w1.heap.size w2.heap.size w2 x2 _ _ := ⟨l2, u2, o2, a2, n2, m2⟩; have P2 := hide (ow2); have HBr := hide (below_on (unhide HBr) hbx); clear hbx hb o2 a2 n2 m2 ow2))
  replace HB := hide (below_on (unhide HB) (unhide HBr))
  clear HBr
  go_wp2
  refine bodyPost_ret (v := .agg #[.bool x1.num.g, .slice x1.num.a x1.num.n x1.num.c, .bool x1.den.g, .slice x1.den.a x1.den.n x1.den.c, .bool x2.num.g, .slice x2.num.a x2.num.n x2.num.c, .bool x2.den.g, .slice x2.den.a x2.den.n x2.den.c]) (by simp [results, Tryz.results37, go_sem, k2_0, k2_1, k2_2, k2_3, k2_4, k2_5, k2_6, k2_7]) rfl ?_
  obtain ⟨xs, us, p1, p2, p3, p4⟩ := unhide P1
  obtain ⟨ys, vs, q1, q2, q3, q4⟩ := unhide P2
  exact outS_fin (v := ⟨x1, x2⟩) (R := w.heap.size + 1 + 1) (by omega) (unhide HB) (metS_but (w5 := w2) (v := ⟨x1, x2⟩) (G := w.heap.size + 1 + 1)) ((p1.join q1 (by omega) (by omega)).wide (by omega) (Nat.le_refl _)) (p2.append q2) p3 p4 q3 q4
/-- Whether rounded bounds are told. -/
def pO (d : SD) (n : Int) : Bool := (decide (0 ≤ n) && decide (n ≤ 64)) && gS d
theorem bitsB6 (n : Int) (w : World) (b : Bool) (h : (decide (0 ≤ n) && decide (n ≤ 64)) = b) : Calls Tryz.prog 34 #[.int .i64 n] w fun e w' => e = .returned (.bool b) ∧ Below w.heap.size w w' := by
  refine (bitsI n w).mono ?_
  rintro e w' ⟨rfl, rfl⟩
  exact ⟨by rw [h], Below.refl _ _⟩
theorem inB6 (n lo hi : Int) (w : World) (b : Bool) (h : (decide (lo ≤ n) && decide (n ≤ hi)) = b) : Calls Tryz.prog 27 #[.int .i64 n, .int .i64 lo, .int .i64 hi] w fun e w' => e = .returned (.bool b) ∧ Below w.heap.size w w' := by
  refine (l1In_any n lo hi w).mono ?_
  rintro e w' ⟨rfl, rfl⟩
  exact ⟨by rw [h], Below.refl _ _⟩

set_option maxHeartbeats 8000000 in
theorem RndI (v : SV) (d : SD) (n : Int) (w : World) (h : AllAr w [(v.lo.num, d.lo.num), (v.lo.den, d.lo.den), (v.hi.num, d.hi.num), (v.hi.den, d.hi.den)]) : Calls Tryz.prog 9 #[.agg #[.bool v.lo.num.g, .slice v.lo.num.a v.lo.num.n v.lo.num.c, .bool v.lo.den.g, .slice v.lo.den.a v.lo.den.n v.lo.den.c, .bool v.hi.num.g, .slice v.hi.num.a v.hi.num.n v.hi.num.c, .bool v.hi.den.g, .slice v.hi.den.a v.hi.den.n v.hi.den.c], .int .i64 n] w (RetS w (AnsS (pO d n) (lowN (nQ d.lo * (2 ^ n.toNat) / dQ d.lo) (2 ^ n.toNat)) (lowD (nQ d.lo * (2 ^ n.toNat) / dQ d.lo) (2 ^ n.toNat)) (lowN (-(-nQ d.hi * (2 ^ n.toNat) / dQ d.hi)) (2 ^ n.toNat)) (lowD (-(-nQ d.hi * (2 ^ n.toNat) / dQ d.hi)) (2 ^ n.toNat)))) := by
  have H1 := hide h
  clear h
  cases hb0 : (decide (0 ≤ n) && decide (n ≤ 64))
  · have HP : Hid (pO d n = false) := hide (by unfold pO; rw [hb0]; rfl)
    have BB := hide hb0
    clear hb0
    have B0 := hide (show Below w.heap.size w ((w.alloc (.cells #[.bool v.lo.num.g, .slice v.lo.num.a v.lo.num.n v.lo.num.c, .bool v.lo.den.g, .slice v.lo.den.a v.lo.den.n v.lo.den.c, .bool v.hi.num.g, .slice v.hi.num.a v.hi.num.n v.hi.num.c, .bool v.hi.den.g, .slice v.hi.den.a v.hi.den.n v.hi.den.c] 34)).alloc (.cells #[.bool false, .slice none 0 0, .bool false, .slice none 0 0, .bool false, .slice none 0 0, .bool false, .slice none 0 0] 34)) from (((Below.refl _ _).alloc (by simp) _).alloc (by simp) _))
    go_enter Tryz.func9, Tryz.ntmps9
    go_wp2_with fail
    refine (bitsB6 n _ false (unhide BB)).mono ?_
    rintro e w1 ⟨rfl, hb⟩
    have s1 : w.heap.size + 1 < w1.heap.size := by have := hb.size; simp at this; omega
    have k1_0 : w1.cell? ⟨w.heap.size + 1, 0, none⟩ = some (.bool false) := cell_later hb (by simp [go_sem])
    have k1_1 : w1.cell? ⟨w.heap.size + 1, 1, none⟩ = some (.slice none 0 0) := cell_later hb (by simp [go_sem])
    have k1_2 : w1.cell? ⟨w.heap.size + 1, 2, none⟩ = some (.bool false) := cell_later hb (by simp [go_sem])
    have k1_3 : w1.cell? ⟨w.heap.size + 1, 3, none⟩ = some (.slice none 0 0) := cell_later hb (by simp [go_sem])
    have k1_4 : w1.cell? ⟨w.heap.size + 1, 4, none⟩ = some (.bool false) := cell_later hb (by simp [go_sem])
    have k1_5 : w1.cell? ⟨w.heap.size + 1, 5, none⟩ = some (.slice none 0 0) := cell_later hb (by simp [go_sem])
    have k1_6 : w1.cell? ⟨w.heap.size + 1, 6, none⟩ = some (.bool false) := cell_later hb (by simp [go_sem])
    have k1_7 : w1.cell? ⟨w.heap.size + 1, 7, none⟩ = some (.slice none 0 0) := cell_later hb (by simp [go_sem])
    have z1 : ∀ o, w1.frozen? ⟨w.heap.size + 1, o, none⟩ = false := fun o => frozen_later hb (by simp) (by simp [go_sem])
    have HB := hide (below_on (unhide B0) hb)
    clear hb
    go_wp2
    refine bodyPost_ret (v := .tuple #[.agg #[.bool false, .slice none 0 0, .bool false, .slice none 0 0, .bool false, .slice none 0 0, .bool false, .slice none 0 0], .bool false]) (by simp [results, Tryz.results9, go_sem, k1_0, k1_1, k1_2, k1_3, k1_4, k1_5, k1_6, k1_7]) rfl ?_
    exact retS_fin (v := (⟨⟨⟨false, none, 0, 0⟩, ⟨false, none, 0, 0⟩⟩, ⟨⟨false, none, 0, 0⟩, ⟨false, none, 0, 0⟩⟩⟩ : SV)) (d := (⟨⟨⟨false, []⟩, ⟨false, []⟩⟩, ⟨⟨false, []⟩, ⟨false, []⟩⟩⟩ : SD)) (R := w.heap.size + 1) (by omega) (unhide HB) (metS_but (w5 := w1) (v := (⟨⟨⟨false, none, 0, 0⟩, ⟨false, none, 0, 0⟩⟩, ⟨⟨false, none, 0, 0⟩, ⟨false, none, 0, 0⟩⟩⟩ : SV)) (G := w.heap.size + 1)) (zeroS _ _ _) (by rw [unhide HP]; exact ansS_none _ _ _ _)
  · cases hg1 : gS d
    · have HP : Hid (pO d n = false) := hide (by unfold pO; rw [hb0, hg1]; rfl)
      have BB := hide hb0
      have G1 := hide (fun w1 (k : AllAr w1 [(v.lo.num, d.lo.num), (v.lo.den, d.lo.den), (v.hi.num, d.hi.num), (v.hi.den, d.hi.den)]) => goodSI v d w1 k)
      rw [hg1] at G1
      clear hb0 hg1
      have B0 := hide (show Below w.heap.size w ((w.alloc (.cells #[.bool v.lo.num.g, .slice v.lo.num.a v.lo.num.n v.lo.num.c, .bool v.lo.den.g, .slice v.lo.den.a v.lo.den.n v.lo.den.c, .bool v.hi.num.g, .slice v.hi.num.a v.hi.num.n v.hi.num.c, .bool v.hi.den.g, .slice v.hi.den.a v.hi.den.n v.hi.den.c] 34)).alloc (.cells #[.bool false, .slice none 0 0, .bool false, .slice none 0 0, .bool false, .slice none 0 0, .bool false, .slice none 0 0] 34)) from (((Below.refl _ _).alloc (by simp) _).alloc (by simp) _))
      go_enter Tryz.func9, Tryz.ntmps9
      go_wp2_with fail
      refine (bitsB6 n _ true (unhide BB)).mono ?_
      rintro e w1 ⟨rfl, hb⟩
      have s1 : w.heap.size + 1 < w1.heap.size := by have := hb.size; simp at this; omega
      have k0_0 : w1.cell? ⟨w.heap.size, 0, none⟩ = some (.bool v.lo.num.g) := cell_later hb (by simp [go_sem])
      have k0_1 : w1.cell? ⟨w.heap.size, 1, none⟩ = some (.slice v.lo.num.a v.lo.num.n v.lo.num.c) := cell_later hb (by simp [go_sem])
      have k0_2 : w1.cell? ⟨w.heap.size, 2, none⟩ = some (.bool v.lo.den.g) := cell_later hb (by simp [go_sem])
      have k0_3 : w1.cell? ⟨w.heap.size, 3, none⟩ = some (.slice v.lo.den.a v.lo.den.n v.lo.den.c) := cell_later hb (by simp [go_sem])
      have k0_4 : w1.cell? ⟨w.heap.size, 4, none⟩ = some (.bool v.hi.num.g) := cell_later hb (by simp [go_sem])
      have k0_5 : w1.cell? ⟨w.heap.size, 5, none⟩ = some (.slice v.hi.num.a v.hi.num.n v.hi.num.c) := cell_later hb (by simp [go_sem])
      have k0_6 : w1.cell? ⟨w.heap.size, 6, none⟩ = some (.bool v.hi.den.g) := cell_later hb (by simp [go_sem])
      have k0_7 : w1.cell? ⟨w.heap.size, 7, none⟩ = some (.slice v.hi.den.a v.hi.den.n v.hi.den.c) := cell_later hb (by simp [go_sem])
      have k1_0 : w1.cell? ⟨w.heap.size + 1, 0, none⟩ = some (.bool false) := cell_later hb (by simp [go_sem])
      have k1_1 : w1.cell? ⟨w.heap.size + 1, 1, none⟩ = some (.slice none 0 0) := cell_later hb (by simp [go_sem])
      have k1_2 : w1.cell? ⟨w.heap.size + 1, 2, none⟩ = some (.bool false) := cell_later hb (by simp [go_sem])
      have k1_3 : w1.cell? ⟨w.heap.size + 1, 3, none⟩ = some (.slice none 0 0) := cell_later hb (by simp [go_sem])
      have k1_4 : w1.cell? ⟨w.heap.size + 1, 4, none⟩ = some (.bool false) := cell_later hb (by simp [go_sem])
      have k1_5 : w1.cell? ⟨w.heap.size + 1, 5, none⟩ = some (.slice none 0 0) := cell_later hb (by simp [go_sem])
      have k1_6 : w1.cell? ⟨w.heap.size + 1, 6, none⟩ = some (.bool false) := cell_later hb (by simp [go_sem])
      have k1_7 : w1.cell? ⟨w.heap.size + 1, 7, none⟩ = some (.slice none 0 0) := cell_later hb (by simp [go_sem])
      have z1 : ∀ o, w1.frozen? ⟨w.heap.size + 1, o, none⟩ = false := fun o => frozen_later hb (by simp) (by simp [go_sem])
      have HB := hide (below_on (unhide B0) hb)
      clear hb
      go_wp2_with fail
      refine (unhide G1 _ ((unhide H1).later (unhide HB))).mono ?_
      rintro e w2 ⟨rfl, hb⟩
      have s2 := hb.size
      replace z1 := fun o => frozen_later hb (World.block_lt_of_cell? _ _ k1_0) (z1 o)
      replace k1_0 := cell_later hb k1_0
      replace k1_1 := cell_later hb k1_1
      replace k1_2 := cell_later hb k1_2
      replace k1_3 := cell_later hb k1_3
      replace k1_4 := cell_later hb k1_4
      replace k1_5 := cell_later hb k1_5
      replace k1_6 := cell_later hb k1_6
      replace k1_7 := cell_later hb k1_7
      clear k0_0 k0_1 k0_2 k0_3 k0_4 k0_5 k0_6 k0_7
      replace HB := hide (below_on (unhide HB) hb)
      clear hb
      go_wp2
      refine bodyPost_ret (v := .tuple #[.agg #[.bool false, .slice none 0 0, .bool false, .slice none 0 0, .bool false, .slice none 0 0, .bool false, .slice none 0 0], .bool false]) (by simp [results, Tryz.results9, go_sem, k1_0, k1_1, k1_2, k1_3, k1_4, k1_5, k1_6, k1_7]) rfl ?_
      exact retS_fin (v := (⟨⟨⟨false, none, 0, 0⟩, ⟨false, none, 0, 0⟩⟩, ⟨⟨false, none, 0, 0⟩, ⟨false, none, 0, 0⟩⟩⟩ : SV)) (d := (⟨⟨⟨false, []⟩, ⟨false, []⟩⟩, ⟨⟨false, []⟩, ⟨false, []⟩⟩⟩ : SD)) (R := w.heap.size + 1) (by omega) (unhide HB) (metS_but (w5 := w2) (v := (⟨⟨⟨false, none, 0, 0⟩, ⟨false, none, 0, 0⟩⟩, ⟨⟨false, none, 0, 0⟩, ⟨false, none, 0, 0⟩⟩⟩ : SV)) (G := w.heap.size + 1)) (zeroS _ _ _) (by rw [unhide HP]; exact ansS_none _ _ _ _)
    · have HP : Hid (pO d n = true) := hide (by unfold pO; rw [hb0, hg1]; rfl)
      have hn : 0 ≤ n ∧ n ≤ 64 := by revert hb0; rw [Bool.and_eq_true, decide_eq_true_eq, decide_eq_true_eq]; exact id
      obtain ⟨m, rfl⟩ := Int.eq_ofNat_of_zero_le hn.1
      have hm : m ≤ 64 := by omega
      have BB := hide hb0
      have J := hide (isGoodS_of (unhide H1) hg1)
      obtain ⟨S, hS⟩ : ∃ S : Int, S = 2 ^ m := ⟨_, rfl⟩
      have PS : Hid (0 < S) := hide (by rw [hS]; exact two_pos m)
      have KS : Hid (Bd S 5) := hide (by rw [hS]; exact (two_bd m).mono (by omega))
      have NZ : Hid (∀ F : Int, lowD F S ≠ 0) := hide (fun F => Int.ne_of_gt (lowD_pos (Int.ne_of_gt (unhide PS))))
      rw [show (2 : Int) ^ (m : Int).toNat = S from hS.symm]
      have G1 := hide (fun w1 (k : AllAr w1 [(v.lo.num, d.lo.num), (v.lo.den, d.lo.den), (v.hi.num, d.hi.num), (v.hi.den, d.hi.den)]) => goodSI v d w1 k)
      rw [hg1] at G1
      have PW := hide (fun w1 => powI m w1 hm)
      rw [← hS] at PW
      clear hb0 hg1 hn hS
      have B0 := hide (show Below w.heap.size w ((w.alloc (.cells #[.bool v.lo.num.g, .slice v.lo.num.a v.lo.num.n v.lo.num.c, .bool v.lo.den.g, .slice v.lo.den.a v.lo.den.n v.lo.den.c, .bool v.hi.num.g, .slice v.hi.num.a v.hi.num.n v.hi.num.c, .bool v.hi.den.g, .slice v.hi.den.a v.hi.den.n v.hi.den.c] 34)).alloc (.cells #[.bool false, .slice none 0 0, .bool false, .slice none 0 0, .bool false, .slice none 0 0, .bool false, .slice none 0 0] 34)) from (((Below.refl _ _).alloc (by simp) _).alloc (by simp) _))
      go_enter Tryz.func9, Tryz.ntmps9
      go_wp2_with fail
      refine (bitsB6 (m : Int) _ true (unhide BB)).mono ?_
      rintro e w1 ⟨rfl, hb⟩
      have s1 : w.heap.size + 1 < w1.heap.size := by have := hb.size; simp at this; omega
      have k0_0 : w1.cell? ⟨w.heap.size, 0, none⟩ = some (.bool v.lo.num.g) := cell_later hb (by simp [go_sem])
      have k0_1 : w1.cell? ⟨w.heap.size, 1, none⟩ = some (.slice v.lo.num.a v.lo.num.n v.lo.num.c) := cell_later hb (by simp [go_sem])
      have k0_2 : w1.cell? ⟨w.heap.size, 2, none⟩ = some (.bool v.lo.den.g) := cell_later hb (by simp [go_sem])
      have k0_3 : w1.cell? ⟨w.heap.size, 3, none⟩ = some (.slice v.lo.den.a v.lo.den.n v.lo.den.c) := cell_later hb (by simp [go_sem])
      have k0_4 : w1.cell? ⟨w.heap.size, 4, none⟩ = some (.bool v.hi.num.g) := cell_later hb (by simp [go_sem])
      have k0_5 : w1.cell? ⟨w.heap.size, 5, none⟩ = some (.slice v.hi.num.a v.hi.num.n v.hi.num.c) := cell_later hb (by simp [go_sem])
      have k0_6 : w1.cell? ⟨w.heap.size, 6, none⟩ = some (.bool v.hi.den.g) := cell_later hb (by simp [go_sem])
      have k0_7 : w1.cell? ⟨w.heap.size, 7, none⟩ = some (.slice v.hi.den.a v.hi.den.n v.hi.den.c) := cell_later hb (by simp [go_sem])
      have k1_0 : w1.cell? ⟨w.heap.size + 1, 0, none⟩ = some (.bool false) := cell_later hb (by simp [go_sem])
      have k1_1 : w1.cell? ⟨w.heap.size + 1, 1, none⟩ = some (.slice none 0 0) := cell_later hb (by simp [go_sem])
      have k1_2 : w1.cell? ⟨w.heap.size + 1, 2, none⟩ = some (.bool false) := cell_later hb (by simp [go_sem])
      have k1_3 : w1.cell? ⟨w.heap.size + 1, 3, none⟩ = some (.slice none 0 0) := cell_later hb (by simp [go_sem])
      have k1_4 : w1.cell? ⟨w.heap.size + 1, 4, none⟩ = some (.bool false) := cell_later hb (by simp [go_sem])
      have k1_5 : w1.cell? ⟨w.heap.size + 1, 5, none⟩ = some (.slice none 0 0) := cell_later hb (by simp [go_sem])
      have k1_6 : w1.cell? ⟨w.heap.size + 1, 6, none⟩ = some (.bool false) := cell_later hb (by simp [go_sem])
      have k1_7 : w1.cell? ⟨w.heap.size + 1, 7, none⟩ = some (.slice none 0 0) := cell_later hb (by simp [go_sem])
      have z1 : ∀ o, w1.frozen? ⟨w.heap.size + 1, o, none⟩ = false := fun o => frozen_later hb (by simp) (by simp [go_sem])
      have HB := hide (below_on (unhide B0) hb)
      clear hb
      go_wp2_with fail
      refine (unhide G1 _ ((unhide H1).later (unhide HB))).mono ?_
      rintro e w2 ⟨rfl, hb⟩
      have s2 := hb.size
      replace z1 := fun o => frozen_later hb (World.block_lt_of_cell? _ _ k1_0) (z1 o)
      replace k0_0 := cell_later hb k0_0
      replace k0_1 := cell_later hb k0_1
      replace k0_2 := cell_later hb k0_2
      replace k0_3 := cell_later hb k0_3
      replace k0_4 := cell_later hb k0_4
      replace k0_5 := cell_later hb k0_5
      replace k0_6 := cell_later hb k0_6
      replace k0_7 := cell_later hb k0_7
      replace k1_0 := cell_later hb k1_0
      replace k1_1 := cell_later hb k1_1
      replace k1_2 := cell_later hb k1_2
      replace k1_3 := cell_later hb k1_3
      replace k1_4 := cell_later hb k1_4
      replace k1_5 := cell_later hb k1_5
      replace k1_6 := cell_later hb k1_6
      replace k1_7 := cell_later hb k1_7
      replace HB := hide (below_on (unhide HB) hb)
      clear hb
      have JS := hide ((unhide J).later (unhide HB))
      go_upto_region 3 with fail
      have ne0_1 : w.heap.size ≠ w.heap.size + 1 := by omega
      go_region_held3 (fun w' => w'.cell? ⟨w.heap.size, 0, none⟩ = some (.bool v.lo.num.g) ∧ w'.cell? ⟨w.heap.size, 1, none⟩ = some (.slice v.lo.num.a v.lo.num.n v.lo.num.c) ∧ w'.cell? ⟨w.heap.size, 2, none⟩ = some (.bool v.lo.den.g) ∧ w'.cell? ⟨w.heap.size, 3, none⟩ = some (.slice v.lo.den.a v.lo.den.n v.lo.den.c) ∧ w'.cell? ⟨w.heap.size, 4, none⟩ = some (.bool v.hi.num.g) ∧ w'.cell? ⟨w.heap.size, 5, none⟩ = some (.slice v.hi.num.a v.hi.num.n v.hi.num.c) ∧ w'.cell? ⟨w.heap.size, 6, none⟩ = some (.bool v.hi.den.g) ∧ w'.cell? ⟨w.heap.size, 7, none⟩ = some (.slice v.hi.den.a v.hi.den.n v.hi.den.c)) (with_reducible (first | exact ⟨k0_0, k0_1, k0_2, k0_3, k0_4, k0_5, k0_6, k0_7⟩ | exact ⟨cd_other k0_0, cd_other k0_1, cd_other k0_2, cd_other k0_3, cd_other k0_4, cd_other k0_5, cd_other k0_6, cd_other k0_7⟩ | exact ⟨cs_other (cs_other (cs_other (cs_other (cs_other (cs_other (cs_other (cs_other (k0_0) ne0_1) ne0_1) ne0_1) ne0_1) ne0_1) ne0_1) ne0_1) ne0_1, cs_other (cs_other (cs_other (cs_other (cs_other (cs_other (cs_other (cs_other (k0_1) ne0_1) ne0_1) ne0_1) ne0_1) ne0_1) ne0_1) ne0_1) ne0_1, cs_other (cs_other (cs_other (cs_other (cs_other (cs_other (cs_other (cs_other (k0_2) ne0_1) ne0_1) ne0_1) ne0_1) ne0_1) ne0_1) ne0_1) ne0_1, cs_other (cs_other (cs_other (cs_other (cs_other (cs_other (cs_other (cs_other (k0_3) ne0_1) ne0_1) ne0_1) ne0_1) ne0_1) ne0_1) ne0_1) ne0_1, cs_other (cs_other (cs_other (cs_other (cs_other (cs_other (cs_other (cs_other (k0_4) ne0_1) ne0_1) ne0_1) ne0_1) ne0_1) ne0_1) ne0_1) ne0_1, cs_other (cs_other (cs_other (cs_other (cs_other (cs_other (cs_other (cs_other (k0_5) ne0_1) ne0_1) ne0_1) ne0_1) ne0_1) ne0_1) ne0_1) ne0_1, cs_other (cs_other (cs_other (cs_other (cs_other (cs_other (cs_other (cs_other (k0_6) ne0_1) ne0_1) ne0_1) ne0_1) ne0_1) ne0_1) ne0_1) ne0_1, cs_other (cs_other (cs_other (cs_other (cs_other (cs_other (cs_other (cs_other (k0_7) ne0_1) ne0_1) ne0_1) ne0_1) ne0_1) ne0_1) ne0_1) ne0_1⟩ | fail))
        (first
        | (go_at_call 38; refine (unhide PW _).mono ?_; rintro e w3 ⟨pb, lp, rfl, hb, op, ap, np⟩; have hbx : Below w2.heap.size w2 w3 := below_of_drew hb; have szw3 := hbx.size; replace z1 := fun o => frozen_later hbx (World.block_lt_of_cell? _ _ k1_0) (z1 o); replace k0_0 := cell_later hbx k0_0; replace k0_1 := cell_later hbx k0_1; replace k0_2 := cell_later hbx k0_2; replace k0_3 := cell_later hbx k0_3; replace k0_4 := cell_later hbx k0_4; replace k0_5 := cell_later hbx k0_5; replace k0_6 := cell_later hbx k0_6; replace k0_7 := cell_later hbx k0_7; replace k1_0 := cell_later hbx k1_0; replace k1_1 := cell_later hbx k1_1; replace k1_2 := cell_later hbx k1_2; replace k1_3 := cell_later hbx k1_3; replace k1_4 := cell_later hbx k1_4; replace k1_5 := cell_later hbx k1_5; replace k1_6 := cell_later hbx k1_6; replace k1_7 := cell_later hbx k1_7; replace JS := hide ((unhide JS).later hbx); have OP := hide (outN_ow op ap np); have HBr := hide hbx; clear hbx hb op ap np)
        | (go_at_call 37; refine (rndO v pb d S _ ?_ ?_ (unhide PS) (unhide KS)).mono ?_; exact (unhide JS).later (Below.refl _ _); exact (unhide OP).is.later (Below.refl _ _); rintro e w4 ⟨r, xs, us, ys, vs, rfl, hb, or, ar, n1, n2, n3, n4⟩; have hbx : Below w3.heap.size w3 w4 := hb; have szw4 := hbx.size; replace z1 := fun o => frozen_later hbx (World.block_lt_of_cell? _ _ k1_0) (z1 o); replace k0_0 := cell_later hbx k0_0; replace k0_1 := cell_later hbx k0_1; replace k0_2 := cell_later hbx k0_2; replace k0_3 := cell_later hbx k0_3; replace k0_4 := cell_later hbx k0_4; replace k0_5 := cell_later hbx k0_5; replace k0_6 := cell_later hbx k0_6; replace k0_7 := cell_later hbx k0_7; replace k1_0 := cell_later hbx k1_0; replace k1_1 := cell_later hbx k1_1; replace k1_2 := cell_later hbx k1_2; replace k1_3 := cell_later hbx k1_3; replace k1_4 := cell_later hbx k1_4; replace k1_5 := cell_later hbx k1_5; replace k1_6 := cell_later hbx k1_6; replace k1_7 := cell_later hbx k1_7; replace JS := hide ((unhide JS).later hbx); replace OP := hide ((unhide OP).later hbx); have M1 : r.lo.den.n ≤ maxLen := Nat.le_trans ar.tail.head.ar.cap ar.tail.head.ar.top; have M2 : r.hi.den.n ≤ maxLen := Nat.le_trans ar.tail.tail.tail.head.ar.cap ar.tail.tail.tail.head.ar.top; have NN := hide (And.intro n1 (And.intro n2 (And.intro n3 n4))); have OR := hide (or); have HBr := hide (below_on (unhide HBr) hbx); clear hbx hb or ar n1 n2 n3 n4)
        | (go_at_call 36; refine (whereS r _ _ _ _ xs us ys vs w3.heap.size w4.heap.size _ (unhide OR) (Nat.le_refl _) M1 M2 (unhide NN).1 (unhide NN).2.1 (unhide NN).2.2.1 (unhide NN).2.2.2 (unhide NZ _) (unhide NZ _)).mono ?_; rintro e w5 ⟨r2, dr, ok, rfl, hb, ov, hu⟩; have hbx : Below w4.heap.size w4 w5 := hb; have szw5 := hbx.size; replace z1 := fun o => frozen_later hbx (World.block_lt_of_cell? _ _ k1_0) (z1 o); replace k0_0 := cell_later hbx k0_0; replace k0_1 := cell_later hbx k0_1; replace k0_2 := cell_later hbx k0_2; replace k0_3 := cell_later hbx k0_3; replace k0_4 := cell_later hbx k0_4; replace k0_5 := cell_later hbx k0_5; replace k0_6 := cell_later hbx k0_6; replace k0_7 := cell_later hbx k0_7; replace k1_0 := cell_later hbx k1_0; replace k1_1 := cell_later hbx k1_1; replace k1_2 := cell_later hbx k1_2; replace k1_3 := cell_later hbx k1_3; replace k1_4 := cell_later hbx k1_4; replace k1_5 := cell_later hbx k1_5; replace k1_6 := cell_later hbx k1_6; replace k1_7 := cell_later hbx k1_7; replace JS := hide ((unhide JS).later hbx); replace OP := hide ((unhide OP).later hbx); replace OR := hide ((unhide OR).later hbx); have UU := hide hu; have OV := hide (ov); have HBr := hide (below_on (unhide HBr) hbx); clear hbx hb ov hu))
      replace HB := hide (below_on (unhide HB) (unhide HBr))
      clear HBr
      go_wp2
      refine bodyPost_ret (v := .tuple #[.agg #[.bool r2.lo.num.g, .slice r2.lo.num.a r2.lo.num.n r2.lo.num.c, .bool r2.lo.den.g, .slice r2.lo.den.a r2.lo.den.n r2.lo.den.c, .bool r2.hi.num.g, .slice r2.hi.num.a r2.hi.num.n r2.hi.num.c, .bool r2.hi.den.g, .slice r2.hi.den.a r2.hi.den.n r2.hi.den.c], .bool ok]) (by simp [results, Tryz.results9, go_sem, k1_0, k1_1, k1_2, k1_3, k1_4, k1_5, k1_6, k1_7]) rfl ?_
      exact retS_fin (v := r2) (d := dr) (R := w.heap.size + 1) (by omega) (unhide HB) (metS_but (w5 := w5) (v := r2) (G := w.heap.size + 1)) ((unhide OV).wide (by omega) (by omega)) (by rw [unhide HP]; exact unhide UU)

set_option maxHeartbeats 4000000 in
theorem belS (q : QV) (b : BV) (N D S : Int) (w : World) (h : IsQ w q N D) (h' : IsB w b S) (hD : 0 < D) (hS : 0 < S) (k1 : Bd N 100) (k2 : Bd D 100) (k3 : Bd S 5) : Calls Tryz.prog 29 #[.agg #[.bool q.num.g, .slice q.num.a q.num.n q.num.c, .bool q.den.g, .slice q.den.a q.den.n q.den.c], .agg #[.bool b.g, .slice b.a b.n b.c]] w (OutN w (N * S / D)) := by
  have H1 := hide h
  have H2 := hide h'
  have HD := hide hD
  have HS := hide hS
  have K1 := hide k1
  have K2 := hide k2
  have K3 := hide k3
  have K4 := hide ((k1.mul k3).mono (show 100 + 5 ≤ 300000 by omega))
  have EV := hide (make_floor6 (N := N * S) hD)
  have K6 := hide (k2.mono (show 100 ≤ 300000 by omega))
  clear h h' hD hS k1 k2 k3
  go_enter Tryz.func29, Tryz.ntmps29
  go_upto_region 1 with fail
  have hb : Below w.heap.size w (((w.alloc (.cells #[.bool q.num.g, .slice q.num.a q.num.n q.num.c, .bool q.den.g, .slice q.den.a q.den.n q.den.c] 32)).alloc (.cells #[.bool b.g, .slice b.a b.n b.c] 30)).alloc (.cells #[.bool false, .slice none 0 0] 30)) := ((((Below.refl _ _).alloc (by simp) _).alloc (by simp) _).alloc (by simp <;> omega) _)
  have k0_0 : (((w.alloc (.cells #[.bool q.num.g, .slice q.num.a q.num.n q.num.c, .bool q.den.g, .slice q.den.a q.den.n q.den.c] 32)).alloc (.cells #[.bool b.g, .slice b.a b.n b.c] 30)).alloc (.cells #[.bool false, .slice none 0 0] 30)).cell? ⟨w.heap.size, 0, none⟩ = some (.bool q.num.g) := by simp [go_sem]
  have k0_1 : (((w.alloc (.cells #[.bool q.num.g, .slice q.num.a q.num.n q.num.c, .bool q.den.g, .slice q.den.a q.den.n q.den.c] 32)).alloc (.cells #[.bool b.g, .slice b.a b.n b.c] 30)).alloc (.cells #[.bool false, .slice none 0 0] 30)).cell? ⟨w.heap.size, 1, none⟩ = some (.slice q.num.a q.num.n q.num.c) := by simp [go_sem]
  have k0_2 : (((w.alloc (.cells #[.bool q.num.g, .slice q.num.a q.num.n q.num.c, .bool q.den.g, .slice q.den.a q.den.n q.den.c] 32)).alloc (.cells #[.bool b.g, .slice b.a b.n b.c] 30)).alloc (.cells #[.bool false, .slice none 0 0] 30)).cell? ⟨w.heap.size, 2, none⟩ = some (.bool q.den.g) := by simp [go_sem]
  have k0_3 : (((w.alloc (.cells #[.bool q.num.g, .slice q.num.a q.num.n q.num.c, .bool q.den.g, .slice q.den.a q.den.n q.den.c] 32)).alloc (.cells #[.bool b.g, .slice b.a b.n b.c] 30)).alloc (.cells #[.bool false, .slice none 0 0] 30)).cell? ⟨w.heap.size, 3, none⟩ = some (.slice q.den.a q.den.n q.den.c) := by simp [go_sem]
  have k1_0 : (((w.alloc (.cells #[.bool q.num.g, .slice q.num.a q.num.n q.num.c, .bool q.den.g, .slice q.den.a q.den.n q.den.c] 32)).alloc (.cells #[.bool b.g, .slice b.a b.n b.c] 30)).alloc (.cells #[.bool false, .slice none 0 0] 30)).cell? ⟨w.heap.size + 1, 0, none⟩ = some (.bool b.g) := by simp [go_sem]
  have k1_1 : (((w.alloc (.cells #[.bool q.num.g, .slice q.num.a q.num.n q.num.c, .bool q.den.g, .slice q.den.a q.den.n q.den.c] 32)).alloc (.cells #[.bool b.g, .slice b.a b.n b.c] 30)).alloc (.cells #[.bool false, .slice none 0 0] 30)).cell? ⟨w.heap.size + 1, 1, none⟩ = some (.slice b.a b.n b.c) := by simp [go_sem]
  have k2_0 : (((w.alloc (.cells #[.bool q.num.g, .slice q.num.a q.num.n q.num.c, .bool q.den.g, .slice q.den.a q.den.n q.den.c] 32)).alloc (.cells #[.bool b.g, .slice b.a b.n b.c] 30)).alloc (.cells #[.bool false, .slice none 0 0] 30)).cell? ⟨w.heap.size + 1 + 1, 0, none⟩ = some (.bool false) := by simp [go_sem]
  have k2_1 : (((w.alloc (.cells #[.bool q.num.g, .slice q.num.a q.num.n q.num.c, .bool q.den.g, .slice q.den.a q.den.n q.den.c] 32)).alloc (.cells #[.bool b.g, .slice b.a b.n b.c] 30)).alloc (.cells #[.bool false, .slice none 0 0] 30)).cell? ⟨w.heap.size + 1 + 1, 1, none⟩ = some (.slice none 0 0) := by simp [go_sem]
  have z2 : ∀ o, (((w.alloc (.cells #[.bool q.num.g, .slice q.num.a q.num.n q.num.c, .bool q.den.g, .slice q.den.a q.den.n q.den.c] 32)).alloc (.cells #[.bool b.g, .slice b.a b.n b.c] 30)).alloc (.cells #[.bool false, .slice none 0 0] 30)).frozen? ⟨w.heap.size + 1 + 1, o, none⟩ = false := fun o => by simp [go_sem]
  have Q1 := hide ((unhide H1).later hb)
  have Q2 := hide ((unhide H2).later hb)
  have szw0 : w.heap.size + 3 ≤ (((w.alloc (.cells #[.bool q.num.g, .slice q.num.a q.num.n q.num.c, .bool q.den.g, .slice q.den.a q.den.n q.den.c] 32)).alloc (.cells #[.bool b.g, .slice b.a b.n b.c] 30)).alloc (.cells #[.bool false, .slice none 0 0] 30)).heap.size := by simp
  have HB := hide hb
  clear hb
  generalize (((w.alloc (.cells #[.bool q.num.g, .slice q.num.a q.num.n q.num.c, .bool q.den.g, .slice q.den.a q.den.n q.den.c] 32)).alloc (.cells #[.bool b.g, .slice b.a b.n b.c] 30)).alloc (.cells #[.bool false, .slice none 0 0] 30)) = w0 at *
  have ne0_2 : w.heap.size ≠ w.heap.size + 1 + 1 := by omega
  have ne1_2 : w.heap.size + 1 ≠ w.heap.size + 1 + 1 := by omega
  go_region_held3 (fun w' => w'.cell? ⟨w.heap.size, 0, none⟩ = some (.bool q.num.g) ∧ w'.cell? ⟨w.heap.size, 1, none⟩ = some (.slice q.num.a q.num.n q.num.c) ∧ w'.cell? ⟨w.heap.size, 2, none⟩ = some (.bool q.den.g) ∧ w'.cell? ⟨w.heap.size, 3, none⟩ = some (.slice q.den.a q.den.n q.den.c) ∧ w'.cell? ⟨w.heap.size + 1, 0, none⟩ = some (.bool b.g) ∧ w'.cell? ⟨w.heap.size + 1, 1, none⟩ = some (.slice b.a b.n b.c)) (with_reducible (first | exact ⟨k0_0, k0_1, k0_2, k0_3, k1_0, k1_1⟩ | exact ⟨cd_other k0_0, cd_other k0_1, cd_other k0_2, cd_other k0_3, cd_other k1_0, cd_other k1_1⟩ | exact ⟨cs_other (cs_other (k0_0) ne0_2) ne0_2, cs_other (cs_other (k0_1) ne0_2) ne0_2, cs_other (cs_other (k0_2) ne0_2) ne0_2, cs_other (cs_other (k0_3) ne0_2) ne0_2, cs_other (cs_other (k1_0) ne1_2) ne1_2, cs_other (cs_other (k1_1) ne1_2) ne1_2⟩ | fail))
    (first
    | (go_at_call 70; refine (mulS_v q.num b N S _ ?_ ?_ ((unhide K1).mono (by omega)) ((unhide K3).mono (by omega))).mono ?_; exact (unhide Q1).1.later (Below.refl _ _).drew; exact (unhide Q2).later (Below.refl _ _).drew; rintro e w1 ⟨x1, l1, rfl, hb, o1, a1, n1⟩; have hbx : Below w0.heap.size w0 w1 := below_of_drew hb; have szw1 := hbx.size; replace z2 := fun o => frozen_later hbx (World.block_lt_of_cell? _ _ k2_0) (z2 o); replace k0_0 := cell_later hbx k0_0; replace k0_1 := cell_later hbx k0_1; replace k0_2 := cell_later hbx k0_2; replace k0_3 := cell_later hbx k0_3; replace k1_0 := cell_later hbx k1_0; replace k1_1 := cell_later hbx k1_1; replace k2_0 := cell_later hbx k2_0; replace k2_1 := cell_later hbx k2_1; replace Q1 := hide ((unhide Q1).later hbx); replace Q2 := hide ((unhide Q2).later hbx); have Px1 := hide (outN_ow o1 a1 n1); have HBr := hide hbx; clear hbx hb o1 a1 n1)
    | (go_at_call 33; refine (lowS x1 q.den (N * S) D _ ?_ ?_ (Int.ne_of_gt (unhide HD)) ((unhide K4).mono (by omega)) ((unhide K6).mono (by omega))).mono ?_; exact (unhide Px1).is.later (Below.refl _ _); exact (unhide Q1).2.later (Below.refl _ _); rintro e w2 ⟨x2, rfl, hb, o2, p2⟩; have hbx : Below w1.heap.size w1 w2 := hb; have szw2 := hbx.size; replace z2 := fun o => frozen_later hbx (World.block_lt_of_cell? _ _ k2_0) (z2 o); replace k0_0 := cell_later hbx k0_0; replace k0_1 := cell_later hbx k0_1; replace k0_2 := cell_later hbx k0_2; replace k0_3 := cell_later hbx k0_3; replace k1_0 := cell_later hbx k1_0; replace k1_1 := cell_later hbx k1_1; replace k2_0 := cell_later hbx k2_0; replace k2_1 := cell_later hbx k2_1; replace Q1 := hide ((unhide Q1).later hbx); replace Q2 := hide ((unhide Q2).later hbx); replace Px1 := hide ((unhide Px1).later hbx); have i2 : IsQ w2 x2 _ _ := ⟨o2.is, p2.is⟩; have Px2 := hide (i2); have HBr := hide (below_on (unhide HBr) hbx); clear hbx hb o2 p2 i2)
    | (go_at_call 69; refine (floorS x2 (lowN (N * S) D) (lowD (N * S) D) _ ?_ (lowD_pos (Int.ne_of_gt (unhide HD))) (lowN_bd (unhide K4)) (lowD_bd (unhide K6))).mono ?_; exact (unhide Px2).later (Below.refl _ _); rintro e w3 ⟨x3, l3, rfl, hb, o3, a3, n3⟩; have hbx : Below w2.heap.size w2 w3 := hb; have szw3 := hbx.size; replace z2 := fun o => frozen_later hbx (World.block_lt_of_cell? _ _ k2_0) (z2 o); replace k0_0 := cell_later hbx k0_0; replace k0_1 := cell_later hbx k0_1; replace k0_2 := cell_later hbx k0_2; replace k0_3 := cell_later hbx k0_3; replace k1_0 := cell_later hbx k1_0; replace k1_1 := cell_later hbx k1_1; replace k2_0 := cell_later hbx k2_0; replace k2_1 := cell_later hbx k2_1; replace Q1 := hide ((unhide Q1).later hbx); replace Q2 := hide ((unhide Q2).later hbx); replace Px1 := hide ((unhide Px1).later hbx); replace Px2 := hide ((unhide Px2).later hbx); rw [unhide EV] at o3 a3 n3; have OR := hide (And.intro o3 (And.intro a3 n3)); have HBr := hide (below_on (unhide HBr) hbx); clear hbx hb o3 a3 n3))
  replace HB := hide (below_on (unhide HB) (unhide HBr))
  clear HBr
  go_wp2
  refine bodyPost_ret (v := .agg #[.bool x3.g, .slice x3.a x3.n x3.c]) (by simp [results, Tryz.results29, go_sem, k2_0, k2_1]) rfl ?_
  exact outN_fin (b := x3) (R := w.heap.size + 1 + 1) (by omega) (unhide HB) (metB_but (w5 := w3) (v := x3) (G := w.heap.size + 1 + 1)) ((unhide OR).1.wide (by omega) (Nat.le_refl _)) (unhide OR).2.1 (unhide OR).2.2

set_option maxHeartbeats 8000000 in
theorem RndS (v : SV) (d : SD) (n : Int) (w : World) (h : AllAr w [(v.lo.num, d.lo.num), (v.lo.den, d.lo.den), (v.hi.num, d.hi.num), (v.hi.den, d.hi.den)]) : Calls Tryz.prog 7 #[.agg #[.bool v.lo.num.g, .slice v.lo.num.a v.lo.num.n v.lo.num.c, .bool v.lo.den.g, .slice v.lo.den.a v.lo.den.n v.lo.den.c, .bool v.hi.num.g, .slice v.hi.num.a v.hi.num.n v.hi.num.c, .bool v.hi.den.g, .slice v.hi.den.a v.hi.den.n v.hi.den.c], .int .i64 n] w (RetS w (AnsS (pO d n) (lowN (nQ d.lo * (2 ^ n.toNat) / dQ d.lo) (2 ^ n.toNat)) (lowD (nQ d.lo * (2 ^ n.toNat) / dQ d.lo) (2 ^ n.toNat)) (lowN (-(-nQ d.hi * (2 ^ n.toNat) / dQ d.hi)) (2 ^ n.toNat)) (lowD (-(-nQ d.hi * (2 ^ n.toNat) / dQ d.hi)) (2 ^ n.toNat)))) := by
  have H1 := hide h
  clear h
  cases hg1 : gS d
  · have HP : Hid (pO d n = false) := hide (by unfold pO; rw [hg1, Bool.and_false])
    have G1 := hide (fun w1 (k : AllAr w1 [(v.lo.num, d.lo.num), (v.lo.den, d.lo.den), (v.hi.num, d.hi.num), (v.hi.den, d.hi.den)]) => goodSS v d w1 k)
    rw [hg1] at G1
    clear hg1
    have B0 := hide (show Below w.heap.size w ((w.alloc (.cells #[.bool v.lo.num.g, .slice v.lo.num.a v.lo.num.n v.lo.num.c, .bool v.lo.den.g, .slice v.lo.den.a v.lo.den.n v.lo.den.c, .bool v.hi.num.g, .slice v.hi.num.a v.hi.num.n v.hi.num.c, .bool v.hi.den.g, .slice v.hi.den.a v.hi.den.n v.hi.den.c] 34)).alloc (.cells #[.bool false, .slice none 0 0, .bool false, .slice none 0 0, .bool false, .slice none 0 0, .bool false, .slice none 0 0] 34)) from (((Below.refl _ _).alloc (by simp) _).alloc (by simp) _))
    go_enter Tryz.func7, Tryz.ntmps7
    go_wp2_with fail
    refine (unhide G1 _ ((unhide H1).later (unhide B0))).mono ?_
    rintro e w1 ⟨rfl, hb⟩
    have s1 : w.heap.size + 1 < w1.heap.size := by have := hb.size; simp at this; omega
    have k1_0 : w1.cell? ⟨w.heap.size + 1, 0, none⟩ = some (.bool false) := cell_later hb (by simp [go_sem])
    have k1_1 : w1.cell? ⟨w.heap.size + 1, 1, none⟩ = some (.slice none 0 0) := cell_later hb (by simp [go_sem])
    have k1_2 : w1.cell? ⟨w.heap.size + 1, 2, none⟩ = some (.bool false) := cell_later hb (by simp [go_sem])
    have k1_3 : w1.cell? ⟨w.heap.size + 1, 3, none⟩ = some (.slice none 0 0) := cell_later hb (by simp [go_sem])
    have k1_4 : w1.cell? ⟨w.heap.size + 1, 4, none⟩ = some (.bool false) := cell_later hb (by simp [go_sem])
    have k1_5 : w1.cell? ⟨w.heap.size + 1, 5, none⟩ = some (.slice none 0 0) := cell_later hb (by simp [go_sem])
    have k1_6 : w1.cell? ⟨w.heap.size + 1, 6, none⟩ = some (.bool false) := cell_later hb (by simp [go_sem])
    have k1_7 : w1.cell? ⟨w.heap.size + 1, 7, none⟩ = some (.slice none 0 0) := cell_later hb (by simp [go_sem])
    have z1 : ∀ o, w1.frozen? ⟨w.heap.size + 1, o, none⟩ = false := fun o => frozen_later hb (by simp) (by simp [go_sem])
    have HB := hide (below_on (unhide B0) hb)
    clear hb
    go_wp2
    refine bodyPost_ret (v := .tuple #[.agg #[.bool false, .slice none 0 0, .bool false, .slice none 0 0, .bool false, .slice none 0 0, .bool false, .slice none 0 0], .bool false]) (by simp [results, Tryz.results7, go_sem, k1_0, k1_1, k1_2, k1_3, k1_4, k1_5, k1_6, k1_7]) rfl ?_
    exact retS_fin (v := (⟨⟨⟨false, none, 0, 0⟩, ⟨false, none, 0, 0⟩⟩, ⟨⟨false, none, 0, 0⟩, ⟨false, none, 0, 0⟩⟩⟩ : SV)) (d := (⟨⟨⟨false, []⟩, ⟨false, []⟩⟩, ⟨⟨false, []⟩, ⟨false, []⟩⟩⟩ : SD)) (R := w.heap.size + 1) (by omega) (unhide HB) (metS_but (w5 := w1) (v := (⟨⟨⟨false, none, 0, 0⟩, ⟨false, none, 0, 0⟩⟩, ⟨⟨false, none, 0, 0⟩, ⟨false, none, 0, 0⟩⟩⟩ : SV)) (G := w.heap.size + 1)) (zeroS _ _ _) (by rw [unhide HP]; exact ansS_none _ _ _ _)
  · cases hb0 : (decide (0 ≤ n) && decide (n ≤ 64))
    · have HP : Hid (pO d n = false) := hide (by unfold pO; rw [hb0]; rfl)
      have BB := hide hb0
      have G1 := hide (fun w1 (k : AllAr w1 [(v.lo.num, d.lo.num), (v.lo.den, d.lo.den), (v.hi.num, d.hi.num), (v.hi.den, d.hi.den)]) => goodSS v d w1 k)
      rw [hg1] at G1
      clear hg1 hb0
      have B0 := hide (show Below w.heap.size w ((w.alloc (.cells #[.bool v.lo.num.g, .slice v.lo.num.a v.lo.num.n v.lo.num.c, .bool v.lo.den.g, .slice v.lo.den.a v.lo.den.n v.lo.den.c, .bool v.hi.num.g, .slice v.hi.num.a v.hi.num.n v.hi.num.c, .bool v.hi.den.g, .slice v.hi.den.a v.hi.den.n v.hi.den.c] 34)).alloc (.cells #[.bool false, .slice none 0 0, .bool false, .slice none 0 0, .bool false, .slice none 0 0, .bool false, .slice none 0 0] 34)) from (((Below.refl _ _).alloc (by simp) _).alloc (by simp) _))
      go_enter Tryz.func7, Tryz.ntmps7
      go_wp2_with fail
      refine (unhide G1 _ ((unhide H1).later (unhide B0))).mono ?_
      rintro e w1 ⟨rfl, hb⟩
      have s1 : w.heap.size + 1 < w1.heap.size := by have := hb.size; simp at this; omega
      have k1_0 : w1.cell? ⟨w.heap.size + 1, 0, none⟩ = some (.bool false) := cell_later hb (by simp [go_sem])
      have k1_1 : w1.cell? ⟨w.heap.size + 1, 1, none⟩ = some (.slice none 0 0) := cell_later hb (by simp [go_sem])
      have k1_2 : w1.cell? ⟨w.heap.size + 1, 2, none⟩ = some (.bool false) := cell_later hb (by simp [go_sem])
      have k1_3 : w1.cell? ⟨w.heap.size + 1, 3, none⟩ = some (.slice none 0 0) := cell_later hb (by simp [go_sem])
      have k1_4 : w1.cell? ⟨w.heap.size + 1, 4, none⟩ = some (.bool false) := cell_later hb (by simp [go_sem])
      have k1_5 : w1.cell? ⟨w.heap.size + 1, 5, none⟩ = some (.slice none 0 0) := cell_later hb (by simp [go_sem])
      have k1_6 : w1.cell? ⟨w.heap.size + 1, 6, none⟩ = some (.bool false) := cell_later hb (by simp [go_sem])
      have k1_7 : w1.cell? ⟨w.heap.size + 1, 7, none⟩ = some (.slice none 0 0) := cell_later hb (by simp [go_sem])
      have z1 : ∀ o, w1.frozen? ⟨w.heap.size + 1, o, none⟩ = false := fun o => frozen_later hb (by simp) (by simp [go_sem])
      have HB := hide (below_on (unhide B0) hb)
      clear hb
      go_wp2_with fail
      refine (inB6 n 0 64 _ false (unhide BB)).mono ?_
      rintro e w2 ⟨rfl, hb⟩
      have s2 := hb.size
      replace z1 := fun o => frozen_later hb (World.block_lt_of_cell? _ _ k1_0) (z1 o)
      replace k1_0 := cell_later hb k1_0
      replace k1_1 := cell_later hb k1_1
      replace k1_2 := cell_later hb k1_2
      replace k1_3 := cell_later hb k1_3
      replace k1_4 := cell_later hb k1_4
      replace k1_5 := cell_later hb k1_5
      replace k1_6 := cell_later hb k1_6
      replace k1_7 := cell_later hb k1_7
      replace HB := hide (below_on (unhide HB) hb)
      clear hb
      go_wp2
      refine bodyPost_ret (v := .tuple #[.agg #[.bool false, .slice none 0 0, .bool false, .slice none 0 0, .bool false, .slice none 0 0, .bool false, .slice none 0 0], .bool false]) (by simp [results, Tryz.results7, go_sem, k1_0, k1_1, k1_2, k1_3, k1_4, k1_5, k1_6, k1_7]) rfl ?_
      exact retS_fin (v := (⟨⟨⟨false, none, 0, 0⟩, ⟨false, none, 0, 0⟩⟩, ⟨⟨false, none, 0, 0⟩, ⟨false, none, 0, 0⟩⟩⟩ : SV)) (d := (⟨⟨⟨false, []⟩, ⟨false, []⟩⟩, ⟨⟨false, []⟩, ⟨false, []⟩⟩⟩ : SD)) (R := w.heap.size + 1) (by omega) (unhide HB) (metS_but (w5 := w2) (v := (⟨⟨⟨false, none, 0, 0⟩, ⟨false, none, 0, 0⟩⟩, ⟨⟨false, none, 0, 0⟩, ⟨false, none, 0, 0⟩⟩⟩ : SV)) (G := w.heap.size + 1)) (zeroS _ _ _) (by rw [unhide HP]; exact ansS_none _ _ _ _)
    · have HP : Hid (pO d n = true) := hide (by unfold pO; rw [hb0, hg1]; rfl)
      have hn : 0 ≤ n ∧ n ≤ 64 := by revert hb0; rw [Bool.and_eq_true, decide_eq_true_eq, decide_eq_true_eq]; exact id
      obtain ⟨m, rfl⟩ := Int.eq_ofNat_of_zero_le hn.1
      have hm : m ≤ 64 := by omega
      have BB := hide hb0
      have J := hide (isGoodS_of (unhide H1) hg1)
      obtain ⟨S, hS⟩ : ∃ S : Int, S = 2 ^ m := ⟨_, rfl⟩
      have PS : Hid (0 < S) := hide (by rw [hS]; exact two_pos m)
      have KS : Hid (Bd S 5) := hide (by rw [hS]; exact (two_bd m).mono (by omega))
      have NZ : Hid (∀ F : Int, lowD F S ≠ 0) := hide (fun F => Int.ne_of_gt (lowD_pos (Int.ne_of_gt (unhide PS))))
      rw [show (2 : Int) ^ (m : Int).toNat = S from hS.symm]
      have G1 := hide (fun w1 (k : AllAr w1 [(v.lo.num, d.lo.num), (v.lo.den, d.lo.den), (v.hi.num, d.hi.num), (v.hi.den, d.hi.den)]) => goodSS v d w1 k)
      rw [hg1] at G1
      have PW := hide (fun w1 => powS m w1 (by omega))
      rw [← hS] at PW
      have KF1 := hide (floor_bd6 (N := nQ d.lo * S) (unhide J).lo.pos ((unhide J).lo.kn.mul (unhide KS)))
      have KF2 := hide (floor_bd6 (N := -nQ d.hi * S) (unhide J).hi.pos ((unhide J).hi.kn.neg.mul (unhide KS)))
      have K3 := hide ((unhide KS).mono (show 5 ≤ 400000 by omega))
      clear hb0 hg1 hn hS
      have B0 := hide (show Below w.heap.size w ((w.alloc (.cells #[.bool v.lo.num.g, .slice v.lo.num.a v.lo.num.n v.lo.num.c, .bool v.lo.den.g, .slice v.lo.den.a v.lo.den.n v.lo.den.c, .bool v.hi.num.g, .slice v.hi.num.a v.hi.num.n v.hi.num.c, .bool v.hi.den.g, .slice v.hi.den.a v.hi.den.n v.hi.den.c] 34)).alloc (.cells #[.bool false, .slice none 0 0, .bool false, .slice none 0 0, .bool false, .slice none 0 0, .bool false, .slice none 0 0] 34)) from (((Below.refl _ _).alloc (by simp) _).alloc (by simp) _))
      go_enter Tryz.func7, Tryz.ntmps7
      go_wp2_with fail
      refine (unhide G1 _ ((unhide H1).later (unhide B0))).mono ?_
      rintro e w1 ⟨rfl, hb⟩
      have s1 : w.heap.size + 1 < w1.heap.size := by have := hb.size; simp at this; omega
      have k0_0 : w1.cell? ⟨w.heap.size, 0, none⟩ = some (.bool v.lo.num.g) := cell_later hb (by simp [go_sem])
      have k0_1 : w1.cell? ⟨w.heap.size, 1, none⟩ = some (.slice v.lo.num.a v.lo.num.n v.lo.num.c) := cell_later hb (by simp [go_sem])
      have k0_2 : w1.cell? ⟨w.heap.size, 2, none⟩ = some (.bool v.lo.den.g) := cell_later hb (by simp [go_sem])
      have k0_3 : w1.cell? ⟨w.heap.size, 3, none⟩ = some (.slice v.lo.den.a v.lo.den.n v.lo.den.c) := cell_later hb (by simp [go_sem])
      have k0_4 : w1.cell? ⟨w.heap.size, 4, none⟩ = some (.bool v.hi.num.g) := cell_later hb (by simp [go_sem])
      have k0_5 : w1.cell? ⟨w.heap.size, 5, none⟩ = some (.slice v.hi.num.a v.hi.num.n v.hi.num.c) := cell_later hb (by simp [go_sem])
      have k0_6 : w1.cell? ⟨w.heap.size, 6, none⟩ = some (.bool v.hi.den.g) := cell_later hb (by simp [go_sem])
      have k0_7 : w1.cell? ⟨w.heap.size, 7, none⟩ = some (.slice v.hi.den.a v.hi.den.n v.hi.den.c) := cell_later hb (by simp [go_sem])
      have k1_0 : w1.cell? ⟨w.heap.size + 1, 0, none⟩ = some (.bool false) := cell_later hb (by simp [go_sem])
      have k1_1 : w1.cell? ⟨w.heap.size + 1, 1, none⟩ = some (.slice none 0 0) := cell_later hb (by simp [go_sem])
      have k1_2 : w1.cell? ⟨w.heap.size + 1, 2, none⟩ = some (.bool false) := cell_later hb (by simp [go_sem])
      have k1_3 : w1.cell? ⟨w.heap.size + 1, 3, none⟩ = some (.slice none 0 0) := cell_later hb (by simp [go_sem])
      have k1_4 : w1.cell? ⟨w.heap.size + 1, 4, none⟩ = some (.bool false) := cell_later hb (by simp [go_sem])
      have k1_5 : w1.cell? ⟨w.heap.size + 1, 5, none⟩ = some (.slice none 0 0) := cell_later hb (by simp [go_sem])
      have k1_6 : w1.cell? ⟨w.heap.size + 1, 6, none⟩ = some (.bool false) := cell_later hb (by simp [go_sem])
      have k1_7 : w1.cell? ⟨w.heap.size + 1, 7, none⟩ = some (.slice none 0 0) := cell_later hb (by simp [go_sem])
      have z1 : ∀ o, w1.frozen? ⟨w.heap.size + 1, o, none⟩ = false := fun o => frozen_later hb (by simp) (by simp [go_sem])
      have HB := hide (below_on (unhide B0) hb)
      clear hb
      go_wp2_with fail
      refine (inB6 (m : Int) 0 64 _ true (unhide BB)).mono ?_
      rintro e w2 ⟨rfl, hb⟩
      have s2 := hb.size
      replace z1 := fun o => frozen_later hb (World.block_lt_of_cell? _ _ k1_0) (z1 o)
      replace k0_0 := cell_later hb k0_0
      replace k0_1 := cell_later hb k0_1
      replace k0_2 := cell_later hb k0_2
      replace k0_3 := cell_later hb k0_3
      replace k0_4 := cell_later hb k0_4
      replace k0_5 := cell_later hb k0_5
      replace k0_6 := cell_later hb k0_6
      replace k0_7 := cell_later hb k0_7
      replace k1_0 := cell_later hb k1_0
      replace k1_1 := cell_later hb k1_1
      replace k1_2 := cell_later hb k1_2
      replace k1_3 := cell_later hb k1_3
      replace k1_4 := cell_later hb k1_4
      replace k1_5 := cell_later hb k1_5
      replace k1_6 := cell_later hb k1_6
      replace k1_7 := cell_later hb k1_7
      replace HB := hide (below_on (unhide HB) hb)
      clear hb
      go_wp2_with fail
      refine (unhide PW _).mono ?_
      rintro e w3 ⟨pb, lp, rfl, hb, op, ap, np⟩
      have s3 := hb.size
      replace z1 := fun o => frozen_later hb (World.block_lt_of_cell? _ _ k1_0) (z1 o)
      replace k0_0 := cell_later hb k0_0
      replace k0_1 := cell_later hb k0_1
      replace k0_2 := cell_later hb k0_2
      replace k0_3 := cell_later hb k0_3
      replace k0_4 := cell_later hb k0_4
      replace k0_5 := cell_later hb k0_5
      replace k0_6 := cell_later hb k0_6
      replace k0_7 := cell_later hb k0_7
      replace k1_0 := cell_later hb k1_0
      replace k1_1 := cell_later hb k1_1
      replace k1_2 := cell_later hb k1_2
      replace k1_3 := cell_later hb k1_3
      replace k1_4 := cell_later hb k1_4
      replace k1_5 := cell_later hb k1_5
      replace k1_6 := cell_later hb k1_6
      replace k1_7 := cell_later hb k1_7
      have OP := hide (outN_ow op ap np)
      replace HB := hide (below_on (unhide HB) hb)
      clear hb
      clear op ap np
      have JS := hide ((unhide J).later (unhide HB))
      have k0_0u : (w3.alloc (.cells #[.bool pb.g, .slice pb.a pb.n pb.c] 30)).cell? ⟨w.heap.size, 0, none⟩ = some (.bool v.lo.num.g) := (ca_other k0_0)
      have k0_1u : (w3.alloc (.cells #[.bool pb.g, .slice pb.a pb.n pb.c] 30)).cell? ⟨w.heap.size, 1, none⟩ = some (.slice v.lo.num.a v.lo.num.n v.lo.num.c) := (ca_other k0_1)
      have k0_2u : (w3.alloc (.cells #[.bool pb.g, .slice pb.a pb.n pb.c] 30)).cell? ⟨w.heap.size, 2, none⟩ = some (.bool v.lo.den.g) := (ca_other k0_2)
      have k0_3u : (w3.alloc (.cells #[.bool pb.g, .slice pb.a pb.n pb.c] 30)).cell? ⟨w.heap.size, 3, none⟩ = some (.slice v.lo.den.a v.lo.den.n v.lo.den.c) := (ca_other k0_3)
      have k0_4u : (w3.alloc (.cells #[.bool pb.g, .slice pb.a pb.n pb.c] 30)).cell? ⟨w.heap.size, 4, none⟩ = some (.bool v.hi.num.g) := (ca_other k0_4)
      have k0_5u : (w3.alloc (.cells #[.bool pb.g, .slice pb.a pb.n pb.c] 30)).cell? ⟨w.heap.size, 5, none⟩ = some (.slice v.hi.num.a v.hi.num.n v.hi.num.c) := (ca_other k0_5)
      have k0_6u : (w3.alloc (.cells #[.bool pb.g, .slice pb.a pb.n pb.c] 30)).cell? ⟨w.heap.size, 6, none⟩ = some (.bool v.hi.den.g) := (ca_other k0_6)
      have k0_7u : (w3.alloc (.cells #[.bool pb.g, .slice pb.a pb.n pb.c] 30)).cell? ⟨w.heap.size, 7, none⟩ = some (.slice v.hi.den.a v.hi.den.n v.hi.den.c) := (ca_other k0_7)
      have k1_0u : (w3.alloc (.cells #[.bool pb.g, .slice pb.a pb.n pb.c] 30)).cell? ⟨w.heap.size + 1, 0, none⟩ = some (.bool false) := (ca_other k1_0)
      have k1_1u : (w3.alloc (.cells #[.bool pb.g, .slice pb.a pb.n pb.c] 30)).cell? ⟨w.heap.size + 1, 1, none⟩ = some (.slice none 0 0) := (ca_other k1_1)
      have k1_2u : (w3.alloc (.cells #[.bool pb.g, .slice pb.a pb.n pb.c] 30)).cell? ⟨w.heap.size + 1, 2, none⟩ = some (.bool false) := (ca_other k1_2)
      have k1_3u : (w3.alloc (.cells #[.bool pb.g, .slice pb.a pb.n pb.c] 30)).cell? ⟨w.heap.size + 1, 3, none⟩ = some (.slice none 0 0) := (ca_other k1_3)
      have k1_4u : (w3.alloc (.cells #[.bool pb.g, .slice pb.a pb.n pb.c] 30)).cell? ⟨w.heap.size + 1, 4, none⟩ = some (.bool false) := (ca_other k1_4)
      have k1_5u : (w3.alloc (.cells #[.bool pb.g, .slice pb.a pb.n pb.c] 30)).cell? ⟨w.heap.size + 1, 5, none⟩ = some (.slice none 0 0) := (ca_other k1_5)
      have k1_6u : (w3.alloc (.cells #[.bool pb.g, .slice pb.a pb.n pb.c] 30)).cell? ⟨w.heap.size + 1, 6, none⟩ = some (.bool false) := (ca_other k1_6)
      have k1_7u : (w3.alloc (.cells #[.bool pb.g, .slice pb.a pb.n pb.c] 30)).cell? ⟨w.heap.size + 1, 7, none⟩ = some (.slice none 0 0) := (ca_other k1_7)
      go_wp2_with fail
      refine (belS v.lo pb _ _ S _ ((unhide JS).lo.is.later ((Below.refl _ _).alloc (by simp) _)) ((unhide OP).is.later ((Below.refl _ _).alloc (by simp) _)) (unhide J).lo.pos (unhide PS) ((unhide J).lo.kn.mono (by omega)) ((unhide J).lo.kd.mono (by omega)) (unhide KS)).mono ?_
      rintro e w4 ⟨lb, ll, rfl, hb, ol, al, nl⟩
      clear k0_0u k0_1u k0_2u k0_3u k0_4u k0_5u k0_6u k0_7u k1_0u k1_1u k1_2u k1_3u k1_4u k1_5u k1_6u k1_7u
      have s4 := hb.size; (try simp at s4)
      have hbx := ba (hb)
      replace z1 := fun o => frozen_later hbx (World.block_lt_of_cell? _ _ k1_0) (z1 o)
      replace k0_0 := cell_later hbx k0_0
      replace k0_1 := cell_later hbx k0_1
      replace k0_2 := cell_later hbx k0_2
      replace k0_3 := cell_later hbx k0_3
      replace k0_4 := cell_later hbx k0_4
      replace k0_5 := cell_later hbx k0_5
      replace k0_6 := cell_later hbx k0_6
      replace k0_7 := cell_later hbx k0_7
      replace k1_0 := cell_later hbx k1_0
      replace k1_1 := cell_later hbx k1_1
      replace k1_2 := cell_later hbx k1_2
      replace k1_3 := cell_later hbx k1_3
      replace k1_4 := cell_later hbx k1_4
      replace k1_5 := cell_later hbx k1_5
      replace k1_6 := cell_later hbx k1_6
      replace k1_7 := cell_later hbx k1_7
      have k2_0 : w4.cell? ⟨w3.heap.size, 0, none⟩ = some (.bool pb.g) := cell_later hb (by simp [go_sem])
      have k2_1 : w4.cell? ⟨w3.heap.size, 1, none⟩ = some (.slice pb.a pb.n pb.c) := cell_later hb (by simp [go_sem])
      replace OP := hide ((unhide OP).later hbx)
      replace JS := hide ((unhide JS).later hbx)
      have OL := hide (outN_ow ol al nl)
      replace HB := hide (below_on (unhide HB) hbx)
      clear hbx hb
      clear ol al nl
      go_upto_region 5 with fail
      have hb : Below w4.heap.size w4 (w4.alloc (.cells #[.bool lb.g, .slice lb.a lb.n lb.c] 30)) := ((Below.refl _ _).alloc (by simp) _)
      replace k0_0 : (w4.alloc (.cells #[.bool lb.g, .slice lb.a lb.n lb.c] 30)).cell? ⟨w.heap.size, 0, none⟩ = some (.bool v.lo.num.g) := (ca_other k0_0)
      replace k0_1 : (w4.alloc (.cells #[.bool lb.g, .slice lb.a lb.n lb.c] 30)).cell? ⟨w.heap.size, 1, none⟩ = some (.slice v.lo.num.a v.lo.num.n v.lo.num.c) := (ca_other k0_1)
      replace k0_2 : (w4.alloc (.cells #[.bool lb.g, .slice lb.a lb.n lb.c] 30)).cell? ⟨w.heap.size, 2, none⟩ = some (.bool v.lo.den.g) := (ca_other k0_2)
      replace k0_3 : (w4.alloc (.cells #[.bool lb.g, .slice lb.a lb.n lb.c] 30)).cell? ⟨w.heap.size, 3, none⟩ = some (.slice v.lo.den.a v.lo.den.n v.lo.den.c) := (ca_other k0_3)
      replace k0_4 : (w4.alloc (.cells #[.bool lb.g, .slice lb.a lb.n lb.c] 30)).cell? ⟨w.heap.size, 4, none⟩ = some (.bool v.hi.num.g) := (ca_other k0_4)
      replace k0_5 : (w4.alloc (.cells #[.bool lb.g, .slice lb.a lb.n lb.c] 30)).cell? ⟨w.heap.size, 5, none⟩ = some (.slice v.hi.num.a v.hi.num.n v.hi.num.c) := (ca_other k0_5)
      replace k0_6 : (w4.alloc (.cells #[.bool lb.g, .slice lb.a lb.n lb.c] 30)).cell? ⟨w.heap.size, 6, none⟩ = some (.bool v.hi.den.g) := (ca_other k0_6)
      replace k0_7 : (w4.alloc (.cells #[.bool lb.g, .slice lb.a lb.n lb.c] 30)).cell? ⟨w.heap.size, 7, none⟩ = some (.slice v.hi.den.a v.hi.den.n v.hi.den.c) := (ca_other k0_7)
      replace k1_0 : (w4.alloc (.cells #[.bool lb.g, .slice lb.a lb.n lb.c] 30)).cell? ⟨w.heap.size + 1, 0, none⟩ = some (.bool false) := (ca_other k1_0)
      replace k1_1 : (w4.alloc (.cells #[.bool lb.g, .slice lb.a lb.n lb.c] 30)).cell? ⟨w.heap.size + 1, 1, none⟩ = some (.slice none 0 0) := (ca_other k1_1)
      replace k1_2 : (w4.alloc (.cells #[.bool lb.g, .slice lb.a lb.n lb.c] 30)).cell? ⟨w.heap.size + 1, 2, none⟩ = some (.bool false) := (ca_other k1_2)
      replace k1_3 : (w4.alloc (.cells #[.bool lb.g, .slice lb.a lb.n lb.c] 30)).cell? ⟨w.heap.size + 1, 3, none⟩ = some (.slice none 0 0) := (ca_other k1_3)
      replace k1_4 : (w4.alloc (.cells #[.bool lb.g, .slice lb.a lb.n lb.c] 30)).cell? ⟨w.heap.size + 1, 4, none⟩ = some (.bool false) := (ca_other k1_4)
      replace k1_5 : (w4.alloc (.cells #[.bool lb.g, .slice lb.a lb.n lb.c] 30)).cell? ⟨w.heap.size + 1, 5, none⟩ = some (.slice none 0 0) := (ca_other k1_5)
      replace k1_6 : (w4.alloc (.cells #[.bool lb.g, .slice lb.a lb.n lb.c] 30)).cell? ⟨w.heap.size + 1, 6, none⟩ = some (.bool false) := (ca_other k1_6)
      replace k1_7 : (w4.alloc (.cells #[.bool lb.g, .slice lb.a lb.n lb.c] 30)).cell? ⟨w.heap.size + 1, 7, none⟩ = some (.slice none 0 0) := (ca_other k1_7)
      replace k2_0 : (w4.alloc (.cells #[.bool lb.g, .slice lb.a lb.n lb.c] 30)).cell? ⟨w3.heap.size, 0, none⟩ = some (.bool pb.g) := (ca_other k2_0)
      replace k2_1 : (w4.alloc (.cells #[.bool lb.g, .slice lb.a lb.n lb.c] 30)).cell? ⟨w3.heap.size, 1, none⟩ = some (.slice pb.a pb.n pb.c) := (ca_other k2_1)
      have k3_0 : (w4.alloc (.cells #[.bool lb.g, .slice lb.a lb.n lb.c] 30)).cell? ⟨w4.heap.size, 0, none⟩ = some (.bool lb.g) := by simp [go_sem]
      have k3_1 : (w4.alloc (.cells #[.bool lb.g, .slice lb.a lb.n lb.c] 30)).cell? ⟨w4.heap.size, 1, none⟩ = some (.slice lb.a lb.n lb.c) := by simp [go_sem]
      replace z1 : ∀ o, (w4.alloc (.cells #[.bool lb.g, .slice lb.a lb.n lb.c] 30)).frozen? ⟨w.heap.size + 1, o, none⟩ = false := fun o => frozen_later hb (by omega) (z1 o)
      replace OP := hide ((unhide OP).later hb)
      replace JS := hide ((unhide JS).later hb)
      replace OL := hide ((unhide OL).later hb)
      replace HB := hide (below_on (unhide HB) hb)
      have szw5 := hb.size
      clear hb
      generalize (w4.alloc (.cells #[.bool lb.g, .slice lb.a lb.n lb.c] 30)) = w5 at *
      have q3 : w3.heap.size < w5.heap.size := World.block_lt_of_cell? _ _ k2_0
      have q4 : w4.heap.size < w5.heap.size := World.block_lt_of_cell? _ _ k3_0
      go_upto_region 5 with fail
      go_cut [8] (fun p wx => ∃ (G : Nat) (x : BV), p = .pointer (some ⟨G, 0, none⟩) ∧ Hid (BxB w5 wx G x (-(-nQ d.hi * S / dQ d.hi))))
      case first =>
        go_region_held3 (fun w' => w'.cell? ⟨w.heap.size, 4, none⟩ = some (.bool v.hi.num.g) ∧ w'.cell? ⟨w.heap.size, 5, none⟩ = some (.slice v.hi.num.a v.hi.num.n v.hi.num.c) ∧ w'.cell? ⟨w.heap.size, 6, none⟩ = some (.bool v.hi.den.g) ∧ w'.cell? ⟨w.heap.size, 7, none⟩ = some (.slice v.hi.den.a v.hi.den.n v.hi.den.c) ∧ w'.cell? ⟨w3.heap.size, 0, none⟩ = some (.bool pb.g) ∧ w'.cell? ⟨w3.heap.size, 1, none⟩ = some (.slice pb.a pb.n pb.c)) (with_reducible (first | exact ⟨k0_4, k0_5, k0_6, k0_7, k2_0, k2_1⟩ | exact ⟨cd_other k0_4, cd_other k0_5, cd_other k0_6, cd_other k0_7, cd_other k2_0, cd_other k2_1⟩ | exact ⟨ca_other k0_4, ca_other k0_5, ca_other k0_6, ca_other k0_7, ca_other k2_0, ca_other k2_1⟩ | exact ⟨cd_other (ca_other k0_4), cd_other (ca_other k0_5), cd_other (ca_other k0_6), cd_other (ca_other k0_7), cd_other (ca_other k2_0), cd_other (ca_other k2_1)⟩ | exact ⟨cs_other (cs_other (k0_4) (by omega)) (by omega), cs_other (cs_other (k0_5) (by omega)) (by omega), cs_other (cs_other (k0_6) (by omega)) (by omega), cs_other (cs_other (k0_7) (by omega)) (by omega), cs_other (cs_other (k2_0) (by omega)) (by omega), cs_other (cs_other (k2_1) (by omega)) (by omega)⟩ | fail))
          (first
          | (go_at_call 31; refine (negQS v.hi (nQ d.hi) (dQ d.hi) _ ?_ ((unhide J).hi.kn.mono (by omega))).mono ?_; (first | exact (unhide JS).hi.is.later (Below.refl _ _).drew | exact (unhide JS).hi.is.later ((Below.refl _ _).alloc (Nat.le_refl _) _).drew); rintro e wa1 ⟨ng, rfl, hb, ig⟩; have hbx : Below w5.heap.size w5 wa1 := (by first | exact below_of_drew hb | exact bad hb); have szwa1 := hbx.size; replace z1 := fun o => frozen_later hbx (World.block_lt_of_cell? _ _ k1_0) (z1 o); replace k0_0 := cell_later hbx k0_0; replace k0_1 := cell_later hbx k0_1; replace k0_2 := cell_later hbx k0_2; replace k0_3 := cell_later hbx k0_3; replace k0_4 := cell_later hbx k0_4; replace k0_5 := cell_later hbx k0_5; replace k0_6 := cell_later hbx k0_6; replace k0_7 := cell_later hbx k0_7; replace k1_0 := cell_later hbx k1_0; replace k1_1 := cell_later hbx k1_1; replace k1_2 := cell_later hbx k1_2; replace k1_3 := cell_later hbx k1_3; replace k1_4 := cell_later hbx k1_4; replace k1_5 := cell_later hbx k1_5; replace k1_6 := cell_later hbx k1_6; replace k1_7 := cell_later hbx k1_7; replace k2_0 := cell_later hbx k2_0; replace k2_1 := cell_later hbx k2_1; replace k3_0 := cell_later hbx k3_0; replace k3_1 := cell_later hbx k3_1; replace OP := hide ((unhide OP).later hbx); replace JS := hide ((unhide JS).later hbx); replace OL := hide ((unhide OL).later hbx); have IG := hide (ig); (try (replace gf := fun o => frozen_later hbx (World.block_lt_of_cell? _ _ g0) (gf o); replace g0 := cell_later hbx g0; replace g1 := cell_later hbx g1)); (try (refine cutP (p := wa1.cell? ⟨w5.heap.size, 0, none⟩ = some (.bool false) ∧ wa1.cell? ⟨w5.heap.size, 1, none⟩ = some (.slice none 0 0) ∧ ∀ o, wa1.frozen? ⟨w5.heap.size, o, none⟩ = false) ?_ (fun dd => ?_); (focus (refine ⟨cell_later hb ?_, cell_later hb ?_, fun o => frozen_later hb ?_ ?_⟩ <;> (simp [go_sem]; done))); obtain ⟨g0, g1, gf⟩ := dd)); have zz := hb.size; (try simp at zz); have HBr := hide hbx; clear hbx hb ig)
          | (go_at_call 29; refine (belS ng pb (-nQ d.hi) (dQ d.hi) S _ ?_ ?_ (unhide J).hi.pos (unhide PS) ((unhide J).hi.kn.neg.mono (by omega)) ((unhide J).hi.kd.mono (by omega)) (unhide KS)).mono ?_; (first | exact (unhide IG).later (Below.refl _ _) | exact (unhide IG).later ((Below.refl _ _).alloc (Nat.le_refl _) _)); (first | exact (unhide OP).is.later (Below.refl _ _) | exact (unhide OP).is.later ((Below.refl _ _).alloc (Nat.le_refl _) _)); rintro e wa2 ⟨x2, l2, rfl, hb, o2, a2, n2⟩; have hbx : Below wa1.heap.size wa1 wa2 := (by first | exact hb | exact ba hb); have szwa2 := hbx.size; replace z1 := fun o => frozen_later hbx (World.block_lt_of_cell? _ _ k1_0) (z1 o); replace k0_0 := cell_later hbx k0_0; replace k0_1 := cell_later hbx k0_1; replace k0_2 := cell_later hbx k0_2; replace k0_3 := cell_later hbx k0_3; replace k0_4 := cell_later hbx k0_4; replace k0_5 := cell_later hbx k0_5; replace k0_6 := cell_later hbx k0_6; replace k0_7 := cell_later hbx k0_7; replace k1_0 := cell_later hbx k1_0; replace k1_1 := cell_later hbx k1_1; replace k1_2 := cell_later hbx k1_2; replace k1_3 := cell_later hbx k1_3; replace k1_4 := cell_later hbx k1_4; replace k1_5 := cell_later hbx k1_5; replace k1_6 := cell_later hbx k1_6; replace k1_7 := cell_later hbx k1_7; replace k2_0 := cell_later hbx k2_0; replace k2_1 := cell_later hbx k2_1; replace k3_0 := cell_later hbx k3_0; replace k3_1 := cell_later hbx k3_1; replace OP := hide ((unhide OP).later hbx); replace JS := hide ((unhide JS).later hbx); replace OL := hide ((unhide OL).later hbx); replace IG := hide ((unhide IG).later hbx); have Px2 := hide (outN_ow o2 a2 n2); (try (replace gf := fun o => frozen_later hbx (World.block_lt_of_cell? _ _ g0) (gf o); replace g0 := cell_later hbx g0; replace g1 := cell_later hbx g1)); (try (refine cutP (p := wa2.cell? ⟨wa1.heap.size, 0, none⟩ = some (.bool false) ∧ wa2.cell? ⟨wa1.heap.size, 1, none⟩ = some (.slice none 0 0) ∧ ∀ o, wa2.frozen? ⟨wa1.heap.size, o, none⟩ = false) ?_ (fun dd => ?_); (focus (refine ⟨cell_later hb ?_, cell_later hb ?_, fun o => frozen_later hb ?_ ?_⟩ <;> (simp [go_sem]; done))); obtain ⟨g0, g1, gf⟩ := dd)); have zz := hb.size; (try simp at zz); have HBr := hide (below_on (unhide HBr) hbx); clear hbx hb o2 a2 n2)
          | (go_at_call 30; refine (negS_v x2 (-nQ d.hi * S / dQ d.hi) _ ?_ ((unhide KF2).mono (by omega))).mono ?_; (first | exact (unhide Px2).is.later (Below.refl _ _) | exact (unhide Px2).is.later ((Below.refl _ _).alloc (Nat.le_refl _) _)); rintro e wa3 ⟨x3, l3, rfl, hb, o3, a3, n3⟩; have hbx : Below wa2.heap.size wa2 wa3 := (by first | exact hb | exact ba hb); have szwa3 := hbx.size; replace z1 := fun o => frozen_later hbx (World.block_lt_of_cell? _ _ k1_0) (z1 o); replace k0_0 := cell_later hbx k0_0; replace k0_1 := cell_later hbx k0_1; replace k0_2 := cell_later hbx k0_2; replace k0_3 := cell_later hbx k0_3; replace k0_4 := cell_later hbx k0_4; replace k0_5 := cell_later hbx k0_5; replace k0_6 := cell_later hbx k0_6; replace k0_7 := cell_later hbx k0_7; replace k1_0 := cell_later hbx k1_0; replace k1_1 := cell_later hbx k1_1; replace k1_2 := cell_later hbx k1_2; replace k1_3 := cell_later hbx k1_3; replace k1_4 := cell_later hbx k1_4; replace k1_5 := cell_later hbx k1_5; replace k1_6 := cell_later hbx k1_6; replace k1_7 := cell_later hbx k1_7; replace k2_0 := cell_later hbx k2_0; replace k2_1 := cell_later hbx k2_1; replace k3_0 := cell_later hbx k3_0; replace k3_1 := cell_later hbx k3_1; replace OP := hide ((unhide OP).later hbx); replace JS := hide ((unhide JS).later hbx); replace OL := hide ((unhide OL).later hbx); replace IG := hide ((unhide IG).later hbx); replace Px2 := hide ((unhide Px2).later hbx); have Px3 := hide (outN_ow o3 a3 n3); (try (replace gf := fun o => frozen_later hbx (World.block_lt_of_cell? _ _ g0) (gf o); replace g0 := cell_later hbx g0; replace g1 := cell_later hbx g1)); (try (refine cutP (p := wa3.cell? ⟨wa2.heap.size, 0, none⟩ = some (.bool false) ∧ wa3.cell? ⟨wa2.heap.size, 1, none⟩ = some (.slice none 0 0) ∧ ∀ o, wa3.frozen? ⟨wa2.heap.size, o, none⟩ = false) ?_ (fun dd => ?_); (focus (refine ⟨cell_later hb ?_, cell_later hb ?_, fun o => frozen_later hb ?_ ?_⟩ <;> (simp [go_sem]; done))); obtain ⟨g0, g1, gf⟩ := dd)); have zz := hb.size; (try simp at zz); have HBr := hide (below_on (unhide HBr) hbx); clear hbx hb o3 a3 n3))
        all_goals go_wp2_with fail
        all_goals go_meet
        all_goals first
          | (refine ⟨_, x3, rfl, hide (bxB_alloc 30 (unhide HBr) (unhide Px3) ?_)⟩; omega)
          | (refine ⟨_, x3, rfl, hide (bxB_set (unhide HBr) (unhide Px3) ?_ ?_ g0 g1)⟩ <;> first | omega | (simp; done) | (simp; omega))
      case rest =>
        obtain ⟨G, xG, rfl, HG⟩ := hcut
        have hb := (unhide HG).bel
        have loG := (unhide HG).lo
        have hiG := (unhide HG).hi
        replace z1 := fun o => frozen_later hb (World.block_lt_of_cell? _ _ k1_0) (z1 o)
        replace k1_0 := cell_later hb k1_0
        replace k1_1 := cell_later hb k1_1
        replace k1_2 := cell_later hb k1_2
        replace k1_3 := cell_later hb k1_3
        replace k1_4 := cell_later hb k1_4
        replace k1_5 := cell_later hb k1_5
        replace k1_6 := cell_later hb k1_6
        replace k1_7 := cell_later hb k1_7
        replace k2_0 := cell_later hb k2_0
        replace k2_1 := cell_later hb k2_1
        replace k3_0 := cell_later hb k3_0
        replace k3_1 := cell_later hb k3_1
        clear k0_0 k0_1 k0_2 k0_3 k0_4 k0_5 k0_6 k0_7
        replace OP := hide ((unhide OP).later hb)
        replace JS := hide ((unhide JS).later hb)
        replace OL := hide ((unhide OL).later hb)
        have OG := hide ((unhide HG).ow)
        replace HB := hide (below_on (unhide HB) hb)
        clear hb
        have k4_0 := (unhide HG).c0
        have k4_1 := (unhide HG).c1
        clear HG
        obtain ⟨w6, hw6⟩ : ∃ x, x = wc := ⟨_, rfl⟩
        subst hw6
        go_upto_region 6 with fail
        have ne2_1 : w3.heap.size ≠ w.heap.size + 1 := by omega
        have ne3_1 : w4.heap.size ≠ w.heap.size + 1 := by omega
        have ne4_1 : G ≠ w.heap.size + 1 := by omega
        go_region_held3 (fun w' => w'.cell? ⟨w4.heap.size, 0, none⟩ = some (.bool lb.g) ∧ w'.cell? ⟨w4.heap.size, 1, none⟩ = some (.slice lb.a lb.n lb.c) ∧ w'.cell? ⟨w3.heap.size, 0, none⟩ = some (.bool pb.g) ∧ w'.cell? ⟨w3.heap.size, 1, none⟩ = some (.slice pb.a pb.n pb.c) ∧ w'.cell? ⟨G, 0, none⟩ = some (.bool xG.g) ∧ w'.cell? ⟨G, 1, none⟩ = some (.slice xG.a xG.n xG.c)) (with_reducible (first | exact ⟨k3_0, k3_1, k2_0, k2_1, k4_0, k4_1⟩ | exact ⟨cd_other k3_0, cd_other k3_1, cd_other k2_0, cd_other k2_1, cd_other k4_0, cd_other k4_1⟩ | exact ⟨cs_other (cs_other (cs_other (cs_other (cs_other (cs_other (cs_other (cs_other (k3_0) ne3_1) ne3_1) ne3_1) ne3_1) ne3_1) ne3_1) ne3_1) ne3_1, cs_other (cs_other (cs_other (cs_other (cs_other (cs_other (cs_other (cs_other (k3_1) ne3_1) ne3_1) ne3_1) ne3_1) ne3_1) ne3_1) ne3_1) ne3_1, cs_other (cs_other (cs_other (cs_other (cs_other (cs_other (cs_other (cs_other (k2_0) ne2_1) ne2_1) ne2_1) ne2_1) ne2_1) ne2_1) ne2_1) ne2_1, cs_other (cs_other (cs_other (cs_other (cs_other (cs_other (cs_other (cs_other (k2_1) ne2_1) ne2_1) ne2_1) ne2_1) ne2_1) ne2_1) ne2_1) ne2_1, cs_other (cs_other (cs_other (cs_other (cs_other (cs_other (cs_other (cs_other (k4_0) ne4_1) ne4_1) ne4_1) ne4_1) ne4_1) ne4_1) ne4_1) ne4_1, cs_other (cs_other (cs_other (cs_other (cs_other (cs_other (cs_other (cs_other (k4_1) ne4_1) ne4_1) ne4_1) ne4_1) ne4_1) ne4_1) ne4_1) ne4_1⟩ | fail))
          (first
          | (have chk := Y2; clear chk; go_at_call 32; refine (fitsSS ⟨y1, y2⟩ (lowN (nQ d.lo * S / dQ d.lo) S) (lowD (nQ d.lo * S / dQ d.lo) S) (lowN (-(-nQ d.hi * S / dQ d.hi)) S) (lowD (-(-nQ d.hi * S / dQ d.hi)) S) _ ?_ ?_ (lowD_pos (Int.ne_of_gt (unhide PS))) (lowD_pos (Int.ne_of_gt (unhide PS)))).mono ?_; exact (unhide Y1).later (Below.refl _ _); exact (unhide Y2).later (Below.refl _ _); rintro e wb3 ⟨r2, dr, ok, rfl, hb, ov, hu⟩; have hbx : Below wb2.heap.size wb2 wb3 := hb; have szwb3 := hbx.size; replace z1 := fun o => frozen_later hbx (World.block_lt_of_cell? _ _ k1_0) (z1 o); replace k1_0 := cell_later hbx k1_0; replace k1_1 := cell_later hbx k1_1; replace k1_2 := cell_later hbx k1_2; replace k1_3 := cell_later hbx k1_3; replace k1_4 := cell_later hbx k1_4; replace k1_5 := cell_later hbx k1_5; replace k1_6 := cell_later hbx k1_6; replace k1_7 := cell_later hbx k1_7; replace k2_0 := cell_later hbx k2_0; replace k2_1 := cell_later hbx k2_1; replace k3_0 := cell_later hbx k3_0; replace k3_1 := cell_later hbx k3_1; replace k4_0 := cell_later hbx k4_0; replace k4_1 := cell_later hbx k4_1; replace OP := hide ((unhide OP).later hbx); replace JS := hide ((unhide JS).later hbx); replace OL := hide ((unhide OL).later hbx); replace OG := hide ((unhide OG).later hbx); replace Y1 := hide ((unhide Y1).later hbx); replace Y2 := hide ((unhide Y2).later hbx); have UU := hide hu; have OV := hide (ov); have HBr := hide (below_on (unhide HBr) hbx); clear hbx hb ov hu)
          | (have chk := Y1; clear chk; go_at_call 33; refine (lowS xG pb (-(-nQ d.hi * S / dQ d.hi)) S _ ?_ ?_ (Int.ne_of_gt (unhide PS)) ((unhide KF2).neg.mono (by omega)) (unhide K3)).mono ?_; exact (unhide OG).is.later (Below.refl _ _); exact (unhide OP).is.later (Below.refl _ _); rintro e wb2 ⟨y2, rfl, hb, o1, p1⟩; have hbx : Below wb1.heap.size wb1 wb2 := hb; have szwb2 := hbx.size; replace z1 := fun o => frozen_later hbx (World.block_lt_of_cell? _ _ k1_0) (z1 o); replace k1_0 := cell_later hbx k1_0; replace k1_1 := cell_later hbx k1_1; replace k1_2 := cell_later hbx k1_2; replace k1_3 := cell_later hbx k1_3; replace k1_4 := cell_later hbx k1_4; replace k1_5 := cell_later hbx k1_5; replace k1_6 := cell_later hbx k1_6; replace k1_7 := cell_later hbx k1_7; replace k2_0 := cell_later hbx k2_0; replace k2_1 := cell_later hbx k2_1; replace k3_0 := cell_later hbx k3_0; replace k3_1 := cell_later hbx k3_1; replace k4_0 := cell_later hbx k4_0; replace k4_1 := cell_later hbx k4_1; replace OP := hide ((unhide OP).later hbx); replace JS := hide ((unhide JS).later hbx); replace OL := hide ((unhide OL).later hbx); replace OG := hide ((unhide OG).later hbx); replace Y1 := hide ((unhide Y1).later hbx); have i2 : IsQ wb2 y2 _ _ := ⟨o1.is, p1.is⟩; have Y2 := hide (i2); have HBr := hide (below_on (unhide HBr) hbx); clear hbx hb o1 p1 i2)
          | (go_at_call_of 33 (Value.agg #[Value.bool lb.g, Value.slice lb.a lb.n lb.c]); refine (lowS lb pb (nQ d.lo * S / dQ d.lo) S _ ?_ ?_ (Int.ne_of_gt (unhide PS)) ((unhide KF1).mono (by omega)) (unhide K3)).mono ?_; exact (unhide OL).is.later (Below.refl _ _).drew; exact (unhide OP).is.later (Below.refl _ _).drew; rintro e wb1 ⟨y1, rfl, hb, o1, p1⟩; have hbx : Below w6.heap.size w6 wb1 := below_of_drew hb; have szwb1 := hbx.size; replace z1 := fun o => frozen_later hbx (World.block_lt_of_cell? _ _ k1_0) (z1 o); replace k1_0 := cell_later hbx k1_0; replace k1_1 := cell_later hbx k1_1; replace k1_2 := cell_later hbx k1_2; replace k1_3 := cell_later hbx k1_3; replace k1_4 := cell_later hbx k1_4; replace k1_5 := cell_later hbx k1_5; replace k1_6 := cell_later hbx k1_6; replace k1_7 := cell_later hbx k1_7; replace k2_0 := cell_later hbx k2_0; replace k2_1 := cell_later hbx k2_1; replace k3_0 := cell_later hbx k3_0; replace k3_1 := cell_later hbx k3_1; replace k4_0 := cell_later hbx k4_0; replace k4_1 := cell_later hbx k4_1; replace OP := hide ((unhide OP).later hbx); replace JS := hide ((unhide JS).later hbx); replace OL := hide ((unhide OL).later hbx); replace OG := hide ((unhide OG).later hbx); have i1 : IsQ wb1 y1 _ _ := ⟨o1.is, p1.is⟩; have Y1 := hide (i1); have HBr := hide hbx; clear hbx hb o1 p1 i1))
        replace HB := hide (below_on (unhide HB) (unhide HBr))
        clear HBr
        go_wp2
        refine bodyPost_ret (v := .tuple #[.agg #[.bool r2.lo.num.g, .slice r2.lo.num.a r2.lo.num.n r2.lo.num.c, .bool r2.lo.den.g, .slice r2.lo.den.a r2.lo.den.n r2.lo.den.c, .bool r2.hi.num.g, .slice r2.hi.num.a r2.hi.num.n r2.hi.num.c, .bool r2.hi.den.g, .slice r2.hi.den.a r2.hi.den.n r2.hi.den.c], .bool ok]) (by simp [results, Tryz.results7, go_sem, k1_0, k1_1, k1_2, k1_3, k1_4, k1_5, k1_6, k1_7]) rfl ?_
        exact retS_fin (v := r2) (d := dr) (R := w.heap.size + 1) (by omega) (unhide HB) (metS_but (w5 := wb3) (v := r2) (G := w.heap.size + 1)) ((unhide OV).wide (by omega) (by omega)) (by rw [unhide HP]; exact unhide UU)
end Go.Proofs.YtcbmecnipldcfaaGreat
namespace Go.Proofs.YtcbmecnipldcfaaGreat
open Go.RowKit
set_option linter.unusedVariables false
set_option maxRecDepth 100000
set_option linter.unusedSimpArgs false

structure TlawRnd (w wx : World) (v0 : SV) (d0 : SD) : Prop where
  bel : Below w.heap.size w wx
  x0_0 : wx.cell? ⟨w.heap.size, 0, none⟩ = some (.bool v0.lo.num.g)
  x0_1 : wx.cell? ⟨w.heap.size, 1, none⟩ = some (.slice v0.lo.num.a v0.lo.num.n v0.lo.num.c)
  x0_2 : wx.cell? ⟨w.heap.size, 2, none⟩ = some (.bool v0.lo.den.g)
  x0_3 : wx.cell? ⟨w.heap.size, 3, none⟩ = some (.slice v0.lo.den.a v0.lo.den.n v0.lo.den.c)
  x0_4 : wx.cell? ⟨w.heap.size, 4, none⟩ = some (.bool v0.hi.num.g)
  x0_5 : wx.cell? ⟨w.heap.size, 5, none⟩ = some (.slice v0.hi.num.a v0.hi.num.n v0.hi.num.c)
  x0_6 : wx.cell? ⟨w.heap.size, 6, none⟩ = some (.bool v0.hi.den.g)
  x0_7 : wx.cell? ⟨w.heap.size, 7, none⟩ = some (.slice v0.hi.den.a v0.hi.den.n v0.hi.den.c)
  s0 : AllSl wx [(v0.lo.num, d0.lo.num), (v0.lo.den, d0.lo.den), (v0.hi.num, d0.hi.num), (v0.hi.den, d0.hi.den)]
theorem TlawRnd.later {w wx wy : World} {v0 : SV} {d0 : SD} (h : TlawRnd w wx v0 d0) (hb : Below wx.heap.size wx wy) : TlawRnd w wy v0 d0 :=
  ⟨below_on h.bel hb, cell_later hb h.x0_0, cell_later hb h.x0_1, cell_later hb h.x0_2, cell_later hb h.x0_3, cell_later hb h.x0_4, cell_later hb h.x0_5, cell_later hb h.x0_6, cell_later hb h.x0_7, h.s0.later hb⟩
theorem TlawRnd.but {w wx wy : World} {v0 : SV} {d0 : SD} {lo hi : Nat} (h : TlawRnd w wx v0 d0) (hb : But lo hi wx wy) (hl : w.heap.size + 1 ≤ lo) (hx0 : AllSl w [(v0.lo.num, d0.lo.num), (v0.lo.den, d0.lo.den), (v0.hi.num, d0.hi.num), (v0.hi.den, d0.hi.den)]) : TlawRnd w wy v0 d0 := by
  have hB := hb.below h.bel (by omega) h.bel.size
  exact ⟨hB, hb.cell h.x0_0 (by omega), hb.cell h.x0_1 (by omega), hb.cell h.x0_2 (by omega), hb.cell h.x0_3 (by omega), hb.cell h.x0_4 (by omega), hb.cell h.x0_5 (by omega), hb.cell h.x0_6 (by omega), hb.cell h.x0_7 (by omega), hx0.later hB⟩
theorem TlawRnd.start (w : World) (v0 : SV) (d0 : SD) (t0 : TypeId) (hx0 : AllSl w [(v0.lo.num, d0.lo.num), (v0.lo.den, d0.lo.den), (v0.hi.num, d0.hi.num), (v0.hi.den, d0.hi.den)]) : TlawRnd w (w.alloc (.cells #[.bool v0.lo.num.g, .slice v0.lo.num.a v0.lo.num.n v0.lo.num.c, .bool v0.lo.den.g, .slice v0.lo.den.a v0.lo.den.n v0.lo.den.c, .bool v0.hi.num.g, .slice v0.hi.num.a v0.hi.num.n v0.hi.num.c, .bool v0.hi.den.g, .slice v0.hi.den.a v0.hi.den.n v0.hi.den.c] t0)) v0 d0 := by
  have hb : Below w.heap.size w (w.alloc (.cells #[.bool v0.lo.num.g, .slice v0.lo.num.a v0.lo.num.n v0.lo.num.c, .bool v0.lo.den.g, .slice v0.lo.den.a v0.lo.den.n v0.lo.den.c, .bool v0.hi.num.g, .slice v0.hi.num.a v0.hi.num.n v0.hi.num.c, .bool v0.hi.den.g, .slice v0.hi.den.a v0.hi.den.n v0.hi.den.c] t0)) := (Below.refl _ _).alloc (Nat.le_refl _) _
  exact ⟨hb, by simp [go_sem], by simp [go_sem], by simp [go_sem], by simp [go_sem], by simp [go_sem], by simp [go_sem], by simp [go_sem], by simp [go_sem], hx0.later hb⟩

set_option maxHeartbeats 1000000 in
theorem lawRnd_out0 (v0 : SV) (x1 : Int) (w : World) (m0 : v0.lo.num.n ≤ maxLen) (m1 : v0.lo.den.n ≤ maxLen) (m2 : v0.hi.num.n ≤ maxLen) (m3 : v0.hi.den.n ≤ maxLen) (h0 : 0 ≤ 1048576) (h : 1048576 < v0.lo.num.n + v0.lo.den.n + v0.hi.num.n + v0.hi.den.n) :
    Calls Tryz.prog 3 #[.agg #[.bool v0.lo.num.g, .slice v0.lo.num.a v0.lo.num.n v0.lo.num.c, .bool v0.lo.den.g, .slice v0.lo.den.a v0.lo.den.n v0.lo.den.c, .bool v0.hi.num.g, .slice v0.hi.num.a v0.hi.num.n v0.hi.num.c, .bool v0.hi.den.g, .slice v0.hi.den.a v0.hi.den.n v0.hi.den.c], .int .i64 x1] w fun e w' => e = .returned (.bool true) ∧ Below w.heap.size w w' := by
  go_enter Tryz.func3, Tryz.ntmps3
  go_wp2_with fail
  refine (szS_out v0 _ _ (by omega) (by omega) m0 m1 m2 m3 (by omega)).mono ?_
  rintro e w1 ⟨rfl, hb⟩
  have HB := hide (ba hb)
  clear hb
  go_wp2
  go_ret
  exact ⟨rfl, unhide HB⟩

set_option maxRecDepth 100000 in
set_option maxHeartbeats 16000000 in
theorem lawRnd_in (v0 : SV) (x1 : Int) (d0 : SD) (w : World) (hx0 : AllSl w [(v0.lo.num, d0.lo.num), (v0.lo.den, d0.lo.den), (v0.hi.num, d0.hi.num), (v0.hi.den, d0.hi.den)]) (wf1 : -9223372036854775808 ≤ x1 ∧ x1 ≤ 9223372036854775807) (h : v0.lo.num.n + v0.lo.den.n + v0.hi.num.n + v0.hi.den.n ≤ 1048576) :
    Calls Tryz.prog 3 #[.agg #[.bool v0.lo.num.g, .slice v0.lo.num.a v0.lo.num.n v0.lo.num.c, .bool v0.lo.den.g, .slice v0.lo.den.a v0.lo.den.n v0.lo.den.c, .bool v0.hi.num.g, .slice v0.hi.num.a v0.hi.num.n v0.hi.num.c, .bool v0.hi.den.g, .slice v0.hi.den.a v0.hi.den.n v0.hi.den.c], .int .i64 x1] w fun e w' => e = .returned (.bool true) ∧ Below w.heap.size w w' := by
  have HX0 := hide hx0
  clear hx0
  have l0 : v0.lo.num.n ≤ 1048576 := by omega
  have lm0 : v0.lo.num.n ≤ maxLen := by unfold maxLen; omega
  have l1 : v0.lo.den.n ≤ 1048576 := by omega
  have lm1 : v0.lo.den.n ≤ maxLen := by unfold maxLen; omega
  have l2 : v0.hi.num.n ≤ 1048576 := by omega
  have lm2 : v0.hi.num.n ≤ maxLen := by unfold maxLen; omega
  have l3 : v0.hi.den.n ≤ 1048576 := by omega
  have lm3 : v0.hi.den.n ≤ maxLen := by unfold maxLen; omega
  have hd0 : ¬ ((1048576 : Int) - (v0.lo.num.n : Int) - (v0.lo.den.n : Int) - (v0.hi.num.n : Int) - (v0.hi.den.n : Int) < 0) := by omega
  obtain ⟨U, HU⟩ : ∃ U : SD → Bool → Prop, Hid (U = AnsS (pO d0 x1) (lowN (nQ d0.lo * (2 ^ x1.toNat) / dQ d0.lo) (2 ^ x1.toNat)) (lowD (nQ d0.lo * (2 ^ x1.toNat) / dQ d0.lo) (2 ^ x1.toNat)) (lowN (-(-nQ d0.hi * (2 ^ x1.toNat) / dQ d0.hi)) (2 ^ x1.toNat)) (lowD (-(-nQ d0.hi * (2 ^ x1.toNat) / dQ d0.hi)) (2 ^ x1.toNat))) := ⟨_, hide rfl⟩
  have US : Hid (∀ d ok d' ok', U d ok → U d' ok' → d = d' ∧ ok = ok') := hide (by rw [unhide HU]; exact fun d ok d' ok' h k => h.same k)
  have UL : Hid (∀ d ok, U d ok → d.lo.num.xs.length ≤ 40 ∧ d.lo.den.xs.length ≤ 40 ∧ d.hi.num.xs.length ≤ 40 ∧ d.hi.den.xs.length ≤ 40) := hide (by rw [unhide HU]; exact fun d ok h => h.lens)
  have CS : Hid (∀ (q0 : SV) (w : World), AllAr w [(q0.lo.num, d0.lo.num), (q0.lo.den, d0.lo.den), (q0.hi.num, d0.hi.num), (q0.hi.den, d0.hi.den)] → Calls Tryz.prog 7 #[.agg #[.bool q0.lo.num.g, .slice q0.lo.num.a q0.lo.num.n q0.lo.num.c, .bool q0.lo.den.g, .slice q0.lo.den.a q0.lo.den.n q0.lo.den.c, .bool q0.hi.num.g, .slice q0.hi.num.a q0.hi.num.n q0.hi.num.c, .bool q0.hi.den.g, .slice q0.hi.den.a q0.hi.den.n q0.hi.den.c], .int .i64 x1] w (RetS w U)) := hide (by rw [unhide HU]; exact fun q0 w h0 => RndS q0 d0 x1 w h0)
  have CI : Hid (∀ (q0 : SV) (w : World), AllAr w [(q0.lo.num, d0.lo.num), (q0.lo.den, d0.lo.den), (q0.hi.num, d0.hi.num), (q0.hi.den, d0.hi.den)] → Calls Tryz.prog 9 #[.agg #[.bool q0.lo.num.g, .slice q0.lo.num.a q0.lo.num.n q0.lo.num.c, .bool q0.lo.den.g, .slice q0.lo.den.a q0.lo.den.n q0.lo.den.c, .bool q0.hi.num.g, .slice q0.hi.num.a q0.hi.num.n q0.hi.num.c, .bool q0.hi.den.g, .slice q0.hi.den.a q0.hi.den.n q0.hi.den.c], .int .i64 x1] w (RetS w U)) := hide (by rw [unhide HU]; exact fun q0 w h0 => RndI q0 d0 x1 w h0)
  clear HU
  go_enter Tryz.func3, Tryz.ntmps3
  go_wp2_with fail
  refine (szS_in v0 _ _ (by omega) (by omega) (by omega)).mono ?_
  rintro e w1 ⟨rfl, hb⟩
  have T := hide ((TlawRnd.start w v0 d0 28 (unhide HX0)).later hb)
  have z : w.heap.size + 1 ≤ w1.heap.size := by have := hb.size; simp at this; omega
  clear hb
  have p0 := (unhide T).x0_0
  have p1 := (unhide T).x0_1
  have p2 := (unhide T).x0_2
  have p3 := (unhide T).x0_3
  have p4 := (unhide T).x0_4
  have p5 := (unhide T).x0_5
  have p6 := (unhide T).x0_6
  have p7 := (unhide T).x0_7
  go_wp2_with fail
  refine (toS_at v0 d0 _ (unhide T).s0 l0 l1 l2 l3).mono ?_
  rintro e wa0x ⟨qa0, rfl, hb, hna, ow, ar⟩
  replace T := hide ((unhide T).later hb)
  have A0 := hide ar
  have sa0x := hb.size
  clear hb hna ow ar p0 p1 p2 p3 p4 p5 p6 p7
  go_wp2_with fail
  refine (unhide CS qa0 _ (unhide A0)).mono ?_
  rintro e ws ⟨vr, dr, okr, rfl, hb, hown, hu⟩
  have V0 := hide (VarS.start 34 hown)
  have UR := hide hu
  have ss := hb.size
  replace T := hide (((unhide T).later hb).later ((Below.refl _ _).alloc (Nat.le_refl _) (.cells #[.bool vr.lo.num.g, .slice vr.lo.num.a vr.lo.num.n vr.lo.num.c, .bool vr.lo.den.g, .slice vr.lo.den.a vr.lo.den.n vr.lo.den.c, .bool vr.hi.num.g, .slice vr.hi.num.a vr.hi.num.n vr.hi.num.c, .bool vr.hi.den.g, .slice vr.hi.den.a vr.hi.den.n vr.hi.den.c] 34)))
  clear hb hown hu A0
  have zG1 : w.heap.size + 1 ≤ ws.heap.size := by omega
  have r0 : vr.lo.num.n ≤ 40 := by rw [← ((unhide V0).own.own (vr.lo.num, dr.lo.num) (by simp)).len]; exact (unhide UL _ _ (unhide UR)).1
  have rm0 : vr.lo.num.n ≤ maxLen := by unfold maxLen; omega
  have rl0 : vr.lo.num.n ≤ 1048576 := by omega
  have r1 : vr.lo.den.n ≤ 40 := by rw [← ((unhide V0).own.own (vr.lo.den, dr.lo.den) (by simp)).len]; exact (unhide UL _ _ (unhide UR)).2.1
  have rm1 : vr.lo.den.n ≤ maxLen := by unfold maxLen; omega
  have rl1 : vr.lo.den.n ≤ 1048576 := by omega
  have r2 : vr.hi.num.n ≤ 40 := by rw [← ((unhide V0).own.own (vr.hi.num, dr.hi.num) (by simp)).len]; exact (unhide UL _ _ (unhide UR)).2.2.1
  have rm2 : vr.hi.num.n ≤ maxLen := by unfold maxLen; omega
  have rl2 : vr.hi.num.n ≤ 1048576 := by omega
  have r3 : vr.hi.den.n ≤ 40 := by rw [← ((unhide V0).own.own (vr.hi.den, dr.hi.den) (by simp)).len]; exact (unhide UL _ _ (unhide UR)).2.2.2
  have rm3 : vr.hi.den.n ≤ maxLen := by unfold maxLen; omega
  have rl3 : vr.hi.den.n ≤ 1048576 := by omega
  have p0 := (unhide T).x0_0
  have p1 := (unhide T).x0_1
  have p2 := (unhide T).x0_2
  have p3 := (unhide T).x0_3
  have p4 := (unhide T).x0_4
  have p5 := (unhide T).x0_5
  have p6 := (unhide T).x0_6
  have p7 := (unhide T).x0_7
  go_wp2_with fail
  refine (toS_at v0 d0 _ (unhide T).s0 l0 l1 l2 l3).mono ?_
  rintro e wx0 ⟨y0, rfl, hb, hnn, ow0, ar0⟩
  have hn0 := hide hnn
  clear hnn
  have VX0 := hide (VarS.start 34 (ow0.wide (lo' := ws.heap.size + 1) (by simp) (Nat.le_refl _)))
  have AX0 := hide (ar0.later ((Below.refl _ _).alloc (Nat.le_refl _) (.cells #[.bool y0.lo.num.g, .slice y0.lo.num.a y0.lo.num.n y0.lo.num.c, .bool y0.lo.den.g, .slice y0.lo.den.a y0.lo.den.n y0.lo.den.c, .bool y0.hi.num.g, .slice y0.hi.num.a y0.hi.num.n y0.hi.num.c, .bool y0.hi.den.g, .slice y0.hi.den.a y0.hi.den.n y0.hi.den.c] 34)))
  have s0 : ws.heap.size + 1 ≤ wx0.heap.size := by have := hb.size; simp at this; omega
  replace V0 := hide ((unhide V0).later hb)
  replace T := hide ((unhide T).later hb)
  replace V0 := hide ((unhide V0).later ((Below.refl _ _).alloc (Nat.le_refl _) (.cells #[.bool y0.lo.num.g, .slice y0.lo.num.a y0.lo.num.n y0.lo.num.c, .bool y0.lo.den.g, .slice y0.lo.den.a y0.lo.den.n y0.lo.den.c, .bool y0.hi.num.g, .slice y0.hi.num.a y0.hi.num.n y0.hi.num.c, .bool y0.hi.den.g, .slice y0.hi.den.a y0.hi.den.n y0.hi.den.c] 34)))
  replace T := hide ((unhide T).later ((Below.refl _ _).alloc (Nat.le_refl _) (.cells #[.bool y0.lo.num.g, .slice y0.lo.num.a y0.lo.num.n y0.lo.num.c, .bool y0.lo.den.g, .slice y0.lo.den.a y0.lo.den.n y0.lo.den.c, .bool y0.hi.num.g, .slice y0.hi.num.a y0.hi.num.n y0.hi.num.c, .bool y0.hi.den.g, .slice y0.hi.den.a y0.hi.den.n y0.hi.den.c] 34)))
  clear hb ow0 ar0 p0 p1 p2 p3 p4 p5 p6 p7
  go_wp2_with fail
  refine (unhide CI y0 _ (unhide AX0)).mono ?_
  rintro e w5 ⟨vg, dg, okg, rfl, hb, hown, hu⟩
  obtain ⟨e1, e2⟩ := unhide US _ _ _ _ (unhide UR) hu
  subst e1 e2
  have VG := hide (VarS.start 34 (hown.wide (lo' := wx0.heap.size + 1) (by simp) (Nat.le_refl _)))
  have sg : wx0.heap.size + 1 ≤ w5.heap.size := by have := hb.size; simp at this; omega
  have en0 : vg.lo.num.n = vr.lo.num.n := by rw [← ((unhide VG).own.own (vg.lo.num, dr.lo.num) (by simp)).len, ← ((unhide V0).own.own (vr.lo.num, dr.lo.num) (by simp)).len]
  have q0 : vg.lo.num.n ≤ 40 := by omega
  have qm0 : vg.lo.num.n ≤ maxLen := by omega
  have ql0 : vg.lo.num.n ≤ 1048576 := by omega
  have en1 : vg.lo.den.n = vr.lo.den.n := by rw [← ((unhide VG).own.own (vg.lo.den, dr.lo.den) (by simp)).len, ← ((unhide V0).own.own (vr.lo.den, dr.lo.den) (by simp)).len]
  have q1 : vg.lo.den.n ≤ 40 := by omega
  have qm1 : vg.lo.den.n ≤ maxLen := by omega
  have ql1 : vg.lo.den.n ≤ 1048576 := by omega
  have en2 : vg.hi.num.n = vr.hi.num.n := by rw [← ((unhide VG).own.own (vg.hi.num, dr.hi.num) (by simp)).len, ← ((unhide V0).own.own (vr.hi.num, dr.hi.num) (by simp)).len]
  have q2 : vg.hi.num.n ≤ 40 := by omega
  have qm2 : vg.hi.num.n ≤ maxLen := by omega
  have ql2 : vg.hi.num.n ≤ 1048576 := by omega
  have en3 : vg.hi.den.n = vr.hi.den.n := by rw [← ((unhide VG).own.own (vg.hi.den, dr.hi.den) (by simp)).len, ← ((unhide V0).own.own (vr.hi.den, dr.hi.den) (by simp)).len]
  have q3 : vg.hi.den.n ≤ 40 := by omega
  have qm3 : vg.hi.den.n ≤ maxLen := by omega
  have ql3 : vg.hi.den.n ≤ 1048576 := by omega
  clear AX0
  replace V0 := hide ((unhide V0).later hb)
  replace T := hide ((unhide T).later hb)
  replace VX0 := hide ((unhide VX0).later hb)
  clear hb hown hu
  replace V0 := hide ((unhide V0).later ((Below.refl _ _).alloc (Nat.le_refl _) (.cells #[.bool vg.lo.num.g, .slice vg.lo.num.a vg.lo.num.n vg.lo.num.c, .bool vg.lo.den.g, .slice vg.lo.den.a vg.lo.den.n vg.lo.den.c, .bool vg.hi.num.g, .slice vg.hi.num.a vg.hi.num.n vg.hi.num.c, .bool vg.hi.den.g, .slice vg.hi.den.a vg.hi.den.n vg.hi.den.c] 34)))
  replace T := hide ((unhide T).later ((Below.refl _ _).alloc (Nat.le_refl _) (.cells #[.bool vg.lo.num.g, .slice vg.lo.num.a vg.lo.num.n vg.lo.num.c, .bool vg.lo.den.g, .slice vg.lo.den.a vg.lo.den.n vg.lo.den.c, .bool vg.hi.num.g, .slice vg.hi.num.a vg.hi.num.n vg.hi.num.c, .bool vg.hi.den.g, .slice vg.hi.den.a vg.hi.den.n vg.hi.den.c] 34)))
  replace VX0 := hide ((unhide VX0).later ((Below.refl _ _).alloc (Nat.le_refl _) (.cells #[.bool vg.lo.num.g, .slice vg.lo.num.a vg.lo.num.n vg.lo.num.c, .bool vg.lo.den.g, .slice vg.lo.den.a vg.lo.den.n vg.lo.den.c, .bool vg.hi.num.g, .slice vg.hi.num.a vg.hi.num.n vg.hi.num.c, .bool vg.hi.den.g, .slice vg.hi.den.a vg.hi.den.n vg.hi.den.c] 34)))
  have enh0 := hide en0
  clear en0
  have enh1 := hide en1
  clear en1
  have enh2 := hide en2
  clear en2
  have enh3 := hide en3
  clear en3
  have p0 := (unhide V0).c0
  have p1 := (unhide V0).c1
  have p2 := (unhide V0).c2
  have p3 := (unhide V0).c3
  have p4 := (unhide V0).c4
  have p5 := (unhide V0).c5
  have p6 := (unhide V0).c6
  have p7 := (unhide V0).c7
  go_wp2_with fail
  refine (eqS_at vg vr dr _ (unhide VG).own.sl (unhide V0).own.sl qm0 qm1 qm2 qm3).mono ?_
  rintro e w6 ⟨rfl, hb⟩
  clear p0 p1 p2 p3 p4 p5 p6 p7
  replace V0 := hide ((unhide V0).later hb)
  replace T := hide ((unhide T).later hb)
  replace VX0 := hide ((unhide VX0).later hb)
  replace VG := hide ((unhide VG).later hb)
  clear hb
  generalize wx0.heap.size = GX0 at *
  generalize w5.heap.size = GG at *
  generalize ws.heap.size = GC at *
  go_wp2_with fail
  have ka0 := (unhide T).x0_0
  have kx0 := (unhide VX0).c0
  have ka1 := (unhide T).x0_1
  have kx1 := (unhide VX0).c1
  have ka2 := (unhide T).x0_2
  have kx2 := (unhide VX0).c2
  have ka3 := (unhide T).x0_3
  have kx3 := (unhide VX0).c3
  have ka4 := (unhide T).x0_4
  have kx4 := (unhide VX0).c4
  have ka5 := (unhide T).x0_5
  have kx5 := (unhide VX0).c5
  have ka6 := (unhide T).x0_6
  have kx6 := (unhide VX0).c6
  have ka7 := (unhide T).x0_7
  have kx7 := (unhide VX0).c7
  go_region_held3 (fun w' => w'.cell? ⟨w.heap.size, 0, none⟩ = some (.bool v0.lo.num.g) ∧ w'.cell? ⟨w.heap.size, 1, none⟩ = some (.slice v0.lo.num.a v0.lo.num.n v0.lo.num.c) ∧ w'.cell? ⟨w.heap.size, 2, none⟩ = some (.bool v0.lo.den.g) ∧ w'.cell? ⟨w.heap.size, 3, none⟩ = some (.slice v0.lo.den.a v0.lo.den.n v0.lo.den.c) ∧ w'.cell? ⟨w.heap.size, 4, none⟩ = some (.bool v0.hi.num.g) ∧ w'.cell? ⟨w.heap.size, 5, none⟩ = some (.slice v0.hi.num.a v0.hi.num.n v0.hi.num.c) ∧ w'.cell? ⟨w.heap.size, 6, none⟩ = some (.bool v0.hi.den.g) ∧ w'.cell? ⟨w.heap.size, 7, none⟩ = some (.slice v0.hi.den.a v0.hi.den.n v0.hi.den.c) ∧ w'.cell? ⟨GX0, 0, none⟩ = some (.bool y0.lo.num.g) ∧ w'.cell? ⟨GX0, 1, none⟩ = some (.slice y0.lo.num.a y0.lo.num.n y0.lo.num.c) ∧ w'.cell? ⟨GX0, 2, none⟩ = some (.bool y0.lo.den.g) ∧ w'.cell? ⟨GX0, 3, none⟩ = some (.slice y0.lo.den.a y0.lo.den.n y0.lo.den.c) ∧ w'.cell? ⟨GX0, 4, none⟩ = some (.bool y0.hi.num.g) ∧ w'.cell? ⟨GX0, 5, none⟩ = some (.slice y0.hi.num.a y0.hi.num.n y0.hi.num.c) ∧ w'.cell? ⟨GX0, 6, none⟩ = some (.bool y0.hi.den.g) ∧ w'.cell? ⟨GX0, 7, none⟩ = some (.slice y0.hi.den.a y0.hi.den.n y0.hi.den.c)) (with_reducible (first | exact ⟨ka0, ka1, ka2, ka3, ka4, ka5, ka6, ka7, kx0, kx1, kx2, kx3, kx4, kx5, kx6, kx7⟩ | exact ⟨cd_other ka0, cd_other ka1, cd_other ka2, cd_other ka3, cd_other ka4, cd_other ka5, cd_other ka6, cd_other ka7, cd_other kx0, cd_other kx1, cd_other kx2, cd_other kx3, cd_other kx4, cd_other kx5, cd_other kx6, cd_other kx7⟩ | fail))
    (first
    | (go_at_call 8; refine (toS_at v0 d0 _ ?_ l0 l1 l2 l3).mono ?_; exact (unhide T).s0.later (Below.refl _ _).drew; rintro e w7 ⟨u7, rfl, hb', hn7, ow7, ar7⟩; have hb := below_of_drew hb'; replace V0 := hide ((unhide V0).later hb); replace T := hide ((unhide T).later hb); replace VX0 := hide ((unhide VX0).later hb); replace VG := hide ((unhide VG).later hb); replace ka0 := (unhide T).x0_0; replace kx0 := (unhide VX0).c0; replace ka1 := (unhide T).x0_1; replace kx1 := (unhide VX0).c1; replace ka2 := (unhide T).x0_2; replace kx2 := (unhide VX0).c2; replace ka3 := (unhide T).x0_3; replace kx3 := (unhide VX0).c3; replace ka4 := (unhide T).x0_4; replace kx4 := (unhide VX0).c4; replace ka5 := (unhide T).x0_5; replace kx5 := (unhide VX0).c5; replace ka6 := (unhide T).x0_6; replace kx6 := (unhide VX0).c6; replace ka7 := (unhide T).x0_7; replace kx7 := (unhide VX0).c7; have S7 := hide ow7.sl; clear hb hb' ow7 ar7 hn7)
    | (go_at_call 10; refine (eqS_at y0 u7 d0 _ (unhide VX0).own.sl (unhide S7) (by rw [(unhide hn0).1]; exact lm0) (by rw [(unhide hn0).2.1]; exact lm1) (by rw [(unhide hn0).2.2.1]; exact lm2) (by rw [(unhide hn0).2.2.2]; exact lm3)).mono ?_; rintro e w8 ⟨rfl, hb⟩; replace V0 := hide ((unhide V0).later hb); replace T := hide ((unhide T).later hb); replace VX0 := hide ((unhide VX0).later hb); replace VG := hide ((unhide VG).later hb); replace ka0 := (unhide T).x0_0; replace kx0 := (unhide VX0).c0; replace ka1 := (unhide T).x0_1; replace kx1 := (unhide VX0).c1; replace ka2 := (unhide T).x0_2; replace kx2 := (unhide VX0).c2; replace ka3 := (unhide T).x0_3; replace kx3 := (unhide VX0).c3; replace ka4 := (unhide T).x0_4; replace kx4 := (unhide VX0).c4; replace ka5 := (unhide T).x0_5; replace kx5 := (unhide VX0).c5; replace ka6 := (unhide T).x0_6; replace kx6 := (unhide VX0).c6; replace ka7 := (unhide T).x0_7; replace kx7 := (unhide VX0).c7; clear hb))
  clear S7 ka0 kx0 ka1 kx1 ka2 kx2 ka3 kx3 ka4 kx4 ka5 kx5 ka6 kx6 ka7 kx7
  have p0 := (unhide VX0).c0
  have p1 := (unhide VX0).c1
  have p2 := (unhide VX0).c2
  have p3 := (unhide VX0).c3
  have p4 := (unhide VX0).c4
  have p5 := (unhide VX0).c5
  have p6 := (unhide VX0).c6
  have p7 := (unhide VX0).c7
  have hl0 : y0.lo.num.n ≤ 1048576 := by rw [(unhide hn0).1]; exact l0
  have hl1 : y0.lo.den.n ≤ 1048576 := by rw [(unhide hn0).2.1]; exact l1
  have hl2 : y0.hi.num.n ≤ 1048576 := by rw [(unhide hn0).2.2.1]; exact l2
  have hl3 : y0.hi.den.n ≤ 1048576 := by rw [(unhide hn0).2.2.2]; exact l3
  go_wp2_with fail
  refine (markS_at y0 d0 [] [] 1 (GC + 1) GX0 _ (unhide VX0).own hl0 hl1 hl2 hl3 (by have := (unhide VX0).gt; omega) (by omega) (by have := (unhide hn0).1; have := (unhide hn0).2.1; have := (unhide hn0).2.2.1; have := (unhide hn0).2.2.2; omega)).mono ?_
  rintro e w10 ⟨rfl, hbt, hmk⟩
  replace T := hide ((unhide T).but hbt (by omega) (unhide HX0))
  replace V0 := hide ((unhide V0).but hbt (by omega) (by omega))
  replace VG := hide ((unhide VG).but hbt (by omega) (by omega))
  clear VX0 p0 p1 p2 p3 p4 p5 p6 p7 hbt hmk hl0 hl1 hl2 hl3
  have hk0 : decide ((1 : Int) + (y0.lo.num.n : Int) + (y0.lo.den.n : Int) + (y0.hi.num.n : Int) + (y0.hi.den.n : Int) < 0) = false := by simp; omega
  have p0 := (unhide VG).c0
  have pq0 := (unhide V0).c0
  have p1 := (unhide VG).c1
  have pq1 := (unhide V0).c1
  have p2 := (unhide VG).c2
  have pq2 := (unhide V0).c2
  have p3 := (unhide VG).c3
  have pq3 := (unhide V0).c3
  have p4 := (unhide VG).c4
  have pq4 := (unhide V0).c4
  have p5 := (unhide VG).c5
  have pq5 := (unhide V0).c5
  have p6 := (unhide VG).c6
  have pq6 := (unhide V0).c6
  have p7 := (unhide VG).c7
  have pq7 := (unhide V0).c7
  go_wp2_with fail
  refine (eqS_at vg vr dr _ (unhide VG).own.sl (unhide V0).own.sl qm0 qm1 qm2 qm3).mono ?_
  rintro e w20 ⟨rfl, hb⟩
  clear p0 pq0 p1 pq1 p2 pq2 p3 pq3 p4 pq4 p5 pq5 p6 pq6 p7 pq7 hk0
  replace V0 := hide ((unhide V0).later hb)
  replace T := hide ((unhide T).later hb)
  replace VG := hide ((unhide VG).later hb)
  clear hb
  have p0 := (unhide VG).c0
  have p1 := (unhide VG).c1
  have p2 := (unhide VG).c2
  have p3 := (unhide VG).c3
  have p4 := (unhide VG).c4
  have p5 := (unhide VG).c5
  have p6 := (unhide VG).c6
  have p7 := (unhide VG).c7
  go_wp2_with fail
  refine (markS_at vg dr [] [] 1 (GX0 + 1) GG _ (unhide VG).own ql0 ql1 ql2 ql3 (by have := (unhide VG).gt; omega) (by omega) (by omega)).mono ?_
  rintro e w21 ⟨rfl, hbt, hmk⟩
  replace T := hide ((unhide T).but hbt (by omega) (unhide HX0))
  replace V0 := hide ((unhide V0).but hbt (by omega) (by omega))
  replace VG := hide ((unhide VG).mark (d' := ⟨⟨⟨dr.lo.num.g, marks (1) vg.lo.num.n⟩, ⟨dr.lo.den.g, marks (1 + vg.lo.num.n) vg.lo.den.n⟩⟩, ⟨⟨dr.hi.num.g, marks (1 + vg.lo.num.n + vg.lo.den.n) vg.hi.num.n⟩, ⟨dr.hi.den.g, marks (1 + vg.lo.num.n + vg.lo.den.n + vg.hi.num.n) vg.hi.den.n⟩⟩⟩) hbt (by omega) hmk)
  clear p0 p1 p2 p3 p4 p5 p6 p7 hbt hmk
  have p0 := (unhide VG).c0
  have p1 := (unhide VG).c1
  have p2 := (unhide VG).c2
  have p3 := (unhide VG).c3
  have p4 := (unhide VG).c4
  have p5 := (unhide VG).c5
  have p6 := (unhide VG).c6
  have p7 := (unhide VG).c7
  go_wp2_with fail
  refine (heldS_at vg 1 _ ((unhide VG).own.sl (vg.lo.num, ⟨dr.lo.num.g, marks (1) vg.lo.num.n⟩) (by simp)).sl ((unhide VG).own.sl (vg.lo.den, ⟨dr.lo.den.g, marks (1 + (vg.lo.num.n : Int)) vg.lo.den.n⟩) (by simp)).sl ((unhide VG).own.sl (vg.hi.num, ⟨dr.hi.num.g, marks (1 + (vg.lo.num.n : Int) + (vg.lo.den.n : Int)) vg.hi.num.n⟩) (by simp)).sl ((unhide VG).own.sl (vg.hi.den, ⟨dr.hi.den.g, marks (1 + (vg.lo.num.n : Int) + (vg.lo.den.n : Int) + (vg.hi.num.n : Int)) vg.hi.den.n⟩) (by simp)).sl ql0 ql1 ql2 ql3 (by omega) (by omega)).mono ?_
  rintro e wk ⟨rfl, hb⟩
  replace V0 := hide ((unhide V0).later hb)
  replace T := hide ((unhide T).later hb)
  replace VG := hide ((unhide VG).later hb)
  have hr0 : ¬ ((1 : Int) + (vg.lo.num.n : Int) + (vg.lo.den.n : Int) + (vg.hi.num.n : Int) + (vg.hi.den.n : Int) < 0) := by omega
  have zk : w.heap.size + 1 ≤ wk.heap.size := by have h1 := (unhide VG).gt; omega
  clear p0 p1 p2 p3 p4 p5 p6 p7 hb
  have p0 := (unhide T).x0_0
  have p1 := (unhide T).x0_1
  have p2 := (unhide T).x0_2
  have p3 := (unhide T).x0_3
  have p4 := (unhide T).x0_4
  have p5 := (unhide T).x0_5
  have p6 := (unhide T).x0_6
  have p7 := (unhide T).x0_7
  go_wp2_with fail
  refine (toS_at v0 d0 _ (unhide T).s0 l0 l1 l2 l3).mono ?_
  rintro e wa0y ⟨qa0, rfl, hb, hna, ow, ar⟩
  replace T := hide ((unhide T).later hb)
  replace V0 := hide ((unhide V0).later hb)
  replace VG := hide ((unhide VG).later hb)
  have A0 := hide ar
  have sa0y := hb.size
  clear hb hna ow ar p0 p1 p2 p3 p4 p5 p6 p7
  go_wp2_with fail
  refine (unhide CI qa0 _ (unhide A0)).mono ?_
  rintro e wh ⟨vh, dh, okh, rfl, hb, hown, hu⟩
  obtain ⟨e1, e2⟩ := unhide US _ _ _ _ (unhide UR) hu
  subst e1 e2
  have VH := hide (VarS.start 34 hown)
  replace T := hide ((unhide T).later hb)
  replace V0 := hide ((unhide V0).later hb)
  replace VG := hide ((unhide VG).later hb)
  replace T := hide ((unhide T).later ((Below.refl _ _).alloc (Nat.le_refl _) (.cells #[.bool vh.lo.num.g, .slice vh.lo.num.a vh.lo.num.n vh.lo.num.c, .bool vh.lo.den.g, .slice vh.lo.den.a vh.lo.den.n vh.lo.den.c, .bool vh.hi.num.g, .slice vh.hi.num.a vh.hi.num.n vh.hi.num.c, .bool vh.hi.den.g, .slice vh.hi.den.a vh.hi.den.n vh.hi.den.c] 34)))
  replace V0 := hide ((unhide V0).later ((Below.refl _ _).alloc (Nat.le_refl _) (.cells #[.bool vh.lo.num.g, .slice vh.lo.num.a vh.lo.num.n vh.lo.num.c, .bool vh.lo.den.g, .slice vh.lo.den.a vh.lo.den.n vh.lo.den.c, .bool vh.hi.num.g, .slice vh.hi.num.a vh.hi.num.n vh.hi.num.c, .bool vh.hi.den.g, .slice vh.hi.den.a vh.hi.den.n vh.hi.den.c] 34)))
  replace VG := hide ((unhide VG).later ((Below.refl _ _).alloc (Nat.le_refl _) (.cells #[.bool vh.lo.num.g, .slice vh.lo.num.a vh.lo.num.n vh.lo.num.c, .bool vh.lo.den.g, .slice vh.lo.den.a vh.lo.den.n vh.lo.den.c, .bool vh.hi.num.g, .slice vh.hi.num.a vh.hi.num.n vh.hi.num.c, .bool vh.hi.den.g, .slice vh.hi.den.a vh.hi.den.n vh.hi.den.c] 34)))
  clear hb hown hu A0
  have hm0 : vh.lo.num.n ≤ maxLen := by rw [← ((unhide VH).own.own (vh.lo.num, dr.lo.num) (by simp)).len, ((unhide V0).own.own (vr.lo.num, dr.lo.num) (by simp)).len]; exact rm0
  have hm1 : vh.lo.den.n ≤ maxLen := by rw [← ((unhide VH).own.own (vh.lo.den, dr.lo.den) (by simp)).len, ((unhide V0).own.own (vr.lo.den, dr.lo.den) (by simp)).len]; exact rm1
  have hm2 : vh.hi.num.n ≤ maxLen := by rw [← ((unhide VH).own.own (vh.hi.num, dr.hi.num) (by simp)).len, ((unhide V0).own.own (vr.hi.num, dr.hi.num) (by simp)).len]; exact rm2
  have hm3 : vh.hi.den.n ≤ maxLen := by rw [← ((unhide VH).own.own (vh.hi.den, dr.hi.den) (by simp)).len, ((unhide V0).own.own (vr.hi.den, dr.hi.den) (by simp)).len]; exact rm3
  have p0 := (unhide VH).c0
  have pq0 := (unhide V0).c0
  have p1 := (unhide VH).c1
  have pq1 := (unhide V0).c1
  have p2 := (unhide VH).c2
  have pq2 := (unhide V0).c2
  have p3 := (unhide VH).c3
  have pq3 := (unhide V0).c3
  have p4 := (unhide VH).c4
  have pq4 := (unhide V0).c4
  have p5 := (unhide VH).c5
  have pq5 := (unhide V0).c5
  have p6 := (unhide VH).c6
  have pq6 := (unhide V0).c6
  have p7 := (unhide VH).c7
  have pq7 := (unhide V0).c7
  go_wp2_with fail
  refine (eqS_at vh vr dr _ (unhide VH).own.sl (unhide V0).own.sl hm0 hm1 hm2 hm3).mono ?_
  rintro e w30 ⟨rfl, hb⟩
  clear p0 pq0 p1 pq1 p2 pq2 p3 pq3 p4 pq4 p5 pq5 p6 pq6 p7 pq7
  replace T := hide ((unhide T).later hb)
  replace VG := hide ((unhide VG).later hb)
  clear hb VH V0
  have p0 := (unhide VG).c0
  have p1 := (unhide VG).c1
  have p2 := (unhide VG).c2
  have p3 := (unhide VG).c3
  have p4 := (unhide VG).c4
  have p5 := (unhide VG).c5
  have p6 := (unhide VG).c6
  have p7 := (unhide VG).c7
  go_wp2_with fail
  refine (heldS_at vg 1 _ ((unhide VG).own.sl (vg.lo.num, ⟨dr.lo.num.g, marks (1) vg.lo.num.n⟩) (by simp)).sl ((unhide VG).own.sl (vg.lo.den, ⟨dr.lo.den.g, marks (1 + (vg.lo.num.n : Int)) vg.lo.den.n⟩) (by simp)).sl ((unhide VG).own.sl (vg.hi.num, ⟨dr.hi.num.g, marks (1 + (vg.lo.num.n : Int) + (vg.lo.den.n : Int)) vg.hi.num.n⟩) (by simp)).sl ((unhide VG).own.sl (vg.hi.den, ⟨dr.hi.den.g, marks (1 + (vg.lo.num.n : Int) + (vg.lo.den.n : Int) + (vg.hi.num.n : Int)) vg.hi.den.n⟩) (by simp)).sl ql0 ql1 ql2 ql3 (by omega) (by omega)).mono ?_
  rintro e w31 ⟨rfl, hb⟩
  replace T := hide ((unhide T).later hb)
  clear p0 p1 p2 p3 p4 p5 p6 p7 hb
  go_wp2
  go_ret
  exact ⟨rfl, (unhide T).bel⟩

theorem lawRnd_walk (v0 : SV) (x1 : Int) (d0 : SD) (w : World) (hx0 : AllSl w [(v0.lo.num, d0.lo.num), (v0.lo.den, d0.lo.den), (v0.hi.num, d0.hi.num), (v0.hi.den, d0.hi.den)]) (wf1 : -9223372036854775808 ≤ x1 ∧ x1 ≤ 9223372036854775807) (m0 : v0.lo.num.n ≤ maxLen) (m1 : v0.lo.den.n ≤ maxLen) (m2 : v0.hi.num.n ≤ maxLen) (m3 : v0.hi.den.n ≤ maxLen) :
    Calls Tryz.prog 3 #[.agg #[.bool v0.lo.num.g, .slice v0.lo.num.a v0.lo.num.n v0.lo.num.c, .bool v0.lo.den.g, .slice v0.lo.den.a v0.lo.den.n v0.lo.den.c, .bool v0.hi.num.g, .slice v0.hi.num.a v0.hi.num.n v0.hi.num.c, .bool v0.hi.den.g, .slice v0.hi.den.a v0.hi.den.n v0.hi.den.c], .int .i64 x1] w fun e w' => e = .returned (.bool true) ∧ Below w.heap.size w w' := by
  by_cases g0 : v0.lo.num.n + v0.lo.den.n + v0.hi.num.n + v0.hi.den.n ≤ 1048576
  · exact lawRnd_in v0 x1 d0 w hx0 wf1 g0
  · exact lawRnd_out0 v0 x1 w m0 m1 m2 m3 (by omega) (by omega)
end Go.Proofs.YtcbmecnipldcfaaGreat
namespace Go.Proofs.YtcbmecnipldcfaaGreat
open Go.ChangeShapes Go.WideShapes Go.ChangeAt Go.RowKit Go.Joins
set_option linter.unusedVariables false
set_option maxRecDepth 100000
set_option linter.unusedSimpArgs false

theorem Tryz.cells28 : Tryz.prog.cellsOf 28 = 8 := by kernel_rfl
theorem array_8 {α : Type} {cs : Array α} (h : cs.size = 8) : ∃ a b c d e f g k, cs = #[a, b, c, d, e, f, g, k] := by
  obtain ⟨l⟩ := cs
  match l, h with
  | [a, b, c, d, e, f, g, k], _ => exact ⟨a, b, c, d, e, f, g, k, rfl⟩

theorem open_four {H : Type} {enc : TypeId × Value → H} {W : World} {n : Nat} {c0 c1 c2 c3 : Value} {y : DataW H × List MemPlace}
    (h : DataW.trod enc Tryz.prog W 0 (fun _ => true) true n 26 [c0, c1, c2, c3] = some y) :
    ∃ (q : QV) (e : QD), c0 = .bool q.num.g ∧ c1 = .slice q.num.a q.num.n q.num.c ∧ c2 = .bool q.den.g ∧ c3 = .slice q.den.a q.den.n q.den.c ∧ AllSl W [(q.num, e.num), (q.den, e.den)] ∧ q.num.n ≤ maxLen ∧ q.den.n ≤ maxLen := by
  obtain ⟨y0, y1, n', hx, _, h0, h1⟩ := trod_struct2 Tryz.underlying26 h
  have k0 : DataW.trod enc Tryz.prog W 0 (fun _ => true) true n' 24 [c0, c1] = some y0 := by simpa [Tryz.cells24] using h0
  have k1 : DataW.trod enc Tryz.prog W 0 (fun _ => true) true n' 24 [c2, c3] = some y1 := by simpa [Tryz.cells24] using h1
  obtain ⟨z0, z1, n1, _, _, p0, p1⟩ := trod_struct2 Tryz.underlying24 k0
  obtain ⟨z2, z3, n2, _, _, p2, p3⟩ := trod_struct2 Tryz.underlying24 k1
  have c_b : Tryz.prog.cellsOf 4 = 1 := by kernel_rfl
  have c_s : Tryz.prog.cellsOf 22 = 1 := by kernel_rfl
  obtain ⟨g, a, m, c, xs, rfl, rfl, s1, s2, s3, _⟩ := open_two (c0 := c0) (c1 := c1) (by simpa [c_b] using p0) (by simpa [c_s] using p1)
  obtain ⟨g', b, q, e, us, rfl, rfl, t1, t2, t3, _⟩ := open_two (c0 := c2) (c1 := c3) (by simpa [c_b] using p2) (by simpa [c_s] using p3)
  exact ⟨⟨⟨g, a, m, c⟩, ⟨g', b, q, e⟩⟩, ⟨⟨g, xs⟩, ⟨g', us⟩⟩, rfl, rfl, rfl, rfl, AllSl.cons ⟨rfl, s1, s2⟩ (AllSl.cons ⟨rfl, t1, t2⟩ (AllSl.nil _)), s3, t3⟩

theorem open_S {H : Type} {enc : TypeId × Value → H} {W : World} {r : Reach} {b0 : Nat} {v : Value} {d : DataW H} {p : List MemPlace}
    (hv : Value.okWide Tryz.prog W r b0 28 v) (h : DataW.Trod enc Tryz.prog W 0 (fun _ => true) true 28 v d p) :
    ∃ (s : SV) (e : SD), v = .agg #[.bool s.lo.num.g, .slice s.lo.num.a s.lo.num.n s.lo.num.c, .bool s.lo.den.g, .slice s.lo.den.a s.lo.den.n s.lo.den.c, .bool s.hi.num.g, .slice s.hi.num.a s.hi.num.n s.hi.num.c, .bool s.hi.den.g, .slice s.hi.den.a s.hi.den.n s.hi.den.c] ∧ AllSl W [(s.lo.num, e.lo.num), (s.lo.den, e.lo.den), (s.hi.num, e.hi.num), (s.hi.den, e.hi.den)] ∧ s.lo.num.n ≤ maxLen ∧ s.lo.den.n ≤ maxLen ∧ s.hi.num.n ≤ maxLen ∧ s.hi.den.n ≤ maxLen := by
  obtain ⟨cs, rfl, hsz⟩ := okWide_struct Tryz.underlying28 hv
  obtain ⟨c0, c1, c2, c3, c4, c5, c6, c7, rfl⟩ := array_8 (hsz.trans Tryz.cells28)
  obtain ⟨fuel, hf⟩ := h
  obtain ⟨y0, y1, n, hx, _, h0, h1⟩ := trod_struct2 Tryz.underlying28 hf
  have k0 : DataW.trod enc Tryz.prog W 0 (fun _ => true) true n 26 [c0, c1, c2, c3] = some y0 := by simpa [Value.cells, Tryz.cells26] using h0
  have k1 : DataW.trod enc Tryz.prog W 0 (fun _ => true) true n 26 [c4, c5, c6, c7] = some y1 := by simpa [Value.cells, Tryz.cells26] using h1
  obtain ⟨q, e, rfl, rfl, rfl, rfl, s1, m1, m2⟩ := open_four k0
  obtain ⟨q', e', rfl, rfl, rfl, rfl, s2, m3, m4⟩ := open_four k1
  exact ⟨⟨q, q'⟩, ⟨e, e'⟩, rfl, AllSl.cons s1.head (AllSl.cons s1.tail.head (AllSl.cons s2.head (AllSl.cons s2.tail.head (AllSl.nil _)))), m1, m2, m3, m4⟩
end Go.Proofs.YtcbmecnipldcfaaGreat
namespace Go.Proofs.YtcbmecnipldcfaaGreat
open Go.RowKit
set_option linter.unusedVariables false
set_option maxRecDepth 100000

theorem open_wf {n : Int} (h : (Lit.int .i64 n).wf = true) : -9223372036854775808 ≤ n ∧ n ≤ 9223372036854775807 := by
  simp [Lit.wf, IntKind.min, IntKind.max, IntKind.signed, IntKind.bits] at h
  omega
end Go.Proofs.YtcbmecnipldcfaaGreat
namespace Go.Proofs.YtcbmecnipldcfaaGreat
open Go.ChangeShapes Go.WideShapes Go.ChangeAt Go.RowKit Go.Joins
set_option linter.unusedVariables false
set_option maxRecDepth 100000
set_option linter.unusedSimpArgs false

set_option maxRecDepth 100000 in
theorem rnd_holds_lifted (os : Os) (started : os.Started) (H : Type) (enc : TypeId × Value → H) :
    ReturnsInHanded {} Tryz.checked os 3 .any (Rows.fnExactRoundOutSpec.pre6 enc Tryz.prog Tryz.f3 Rows.fnExactRoundOutRow.domain false) (Rows.fnExactRoundOutSpec.post enc Tryz.prog Tryz.f3 false true false false) := by
  refine returnsInHanded_of_change (C := Tryz.checked) own started (by kernel_rfl) Tryz.func3
    (ChangeSpec.witness6 (enc := enc) (C := Tryz.checked) false ⟨#[], #[.agg #[.bool false, .slice none 0 0, .bool false, .slice none 0 0, .bool false, .slice none 0 0, .bool false, .slice none 0 0], .int .i64 0], []⟩ 8 (by kernel_rfl) (by kernel_rfl) (by kernel_rfl) (by kernel_rfl)) ?_
  intro W base args ds gs before hval0 hW hcnd _
  have hval : ∀ (j : Nat) t v, Tryz.f3.params[j]? = some t → args[j]? = some v → Value.okWide Tryz.prog W .any base t v := hval0
  have hW' := hW
  obtain ⟨p, q, hA0, hV, rfl, hfz, hnd⟩ := hW
  have hA : DataW.TrodAll enc Tryz.prog W 0 (fun _ => true) true Tryz.f3.params.toList args.toList ds p := hA0
  rw [Tryz.params3] at hA hval
  obtain ⟨v0, vs0, d0, ds0, p0, q0, hargs, rfl, rfl, h0, r0⟩ := trodAll_cons hA
  obtain ⟨v1, vs1, d1, ds1, p1, q1, rfl, rfl, rfl, h1, r1⟩ := trodAll_cons r0
  obtain ⟨rfl, rfl, rfl⟩ := trodAll_nil r1
  obtain rfl : args = #[v0, v1] := by cases args; simp_all
  obtain ⟨rfl, rfl⟩ := trodVars_none hV
  have lt0 : ∀ x ∈ p0, x.block < W.heap.size := by obtain ⟨m, hm⟩ := h0; exact DataW.trod_lt m _ _ _ hm
  obtain ⟨u0, e0, rfl, sl0, m0_0, m0_1, m0_2, m0_3⟩ := open_S (hval 0 28 v0 rfl rfl) h0
  obtain ⟨x1, rfl, rfl, rfl, w1⟩ := open_int Tryz.underlying3 (hval 1 3 v1 rfl rfl) h1
  clear hA0 hval0
  refine (lawRnd_walk u0 x1 e0 W sl0 (open_wf w1) m0_0 m0_1 m0_2 m0_3).mono fun e W' ⟨he, bel⟩ => ?_
  subst he
  exact ⟨_, rfl, _, _, _, [], _, [], hW', trodAll_mk1 (shut_bool Tryz.underlying4 _), (trodAll_cons_mk (Below.trod laidOut (by kernel_rfl) (of_decide_eq_true (by kernel_rfl)) h0 bel lt0) (trodAll_cons_mk (shut_int Tryz.underlying3 w1) trodAll_mk0)), rfl, bel.frame _, fun h => by cases h⟩

theorem rnd_holds_c0 : (Rows.fnExactRoundOutRow.wf (OpenSpec.ofChange Rows.fnExactRoundOutSpec)) = true := by kernel_rfl
theorem rnd_holds_c1 : (laidOutB Tryz.pinned.checked.prog) = true := by kernel_rfl
theorem rnd_holds_c2 : (mapsRowed Tryz.pinned.checked.prog) = true := by kernel_rfl
theorem rnd_holds_c3 : (Tryz.f3.params.all (Tryz.pinned.checked.prog.readableRec ·)) = true := by kernel_rfl
theorem rnd_holds_c4 : (namedTie Tryz.pinned.checked.prog Rows.fnExactRoundOutRow.named Rows.fnExactRoundOutSpec.vars) = true := by kernel_rfl
theorem rnd_holds_c5 : (Rows.fnExactRoundOutRow.stops == []) = true := by kernel_rfl
theorem rnd_holds_c6 : (Tryz.pinned.checked.prog.stops == []) = true := by kernel_rfl
theorem rnd_holds_c7 : (Rows.fnExactRoundOutRow.knobs == []) = true := by kernel_rfl
theorem rnd_holds_c8 : (Tryz.pinned.checked.prog.stopKnobs == []) = true := by kernel_rfl
theorem rnd_holds_c9 : (Rows.fnExactRoundOutRow.inPlace == Tryz.pinned.checked.prog.inPlace 3) = true := by kernel_rfl
theorem rnd_holds_c10 : (Rows.fnExactRoundOutRow.unfollowed == Tryz.pinned.checked.prog.unfollowed 3) = true := by kernel_rfl
theorem rnd_holds_c11 : (Rows.fnExactRoundOutRow.recurses == Tryz.pinned.checked.prog.recurses 3) = true := by kernel_rfl
theorem rnd_holds_c12 : (Rows.fnExactRoundOutRow.named == Tryz.pinned.checked.prog.varsNamed 3) = true := by kernel_rfl
theorem rnd_holds_c13 : (Rows.fnExactRoundOutRow.maps == (Tryz.f3.params.toList ++ Rows.fnExactRoundOutSpec.plain.varTypes Tryz.pinned.checked.prog).any (Tryz.pinned.checked.prog.mapsRec ·)) = true := by kernel_rfl
theorem rnd_holds_c14 : (Rows.fnExactRoundOutRow.ifaces == (Tryz.f3.params.toList ++ Rows.fnExactRoundOutSpec.plain.varTypes Tryz.pinned.checked.prog).any (Tryz.pinned.checked.prog.ifacesRec ·)) = true := by kernel_rfl
theorem rnd_holds_c15 : (Rows.fnExactRoundOutRow.mapsOut == Tryz.pinned.checked.prog.mapsAmong Tryz.f3.resultTypes.toList) = true := by kernel_rfl
theorem rnd_holds_c16 : (Rows.fnExactRoundOutRow.loops == (Tryz.f3.params.toList ++ Rows.fnExactRoundOutSpec.plain.varTypes Tryz.pinned.checked.prog).any (Tryz.pinned.checked.prog.loopsFrom ·)) = true := by kernel_rfl
theorem rnd_holds_c17 : (Rows.fnExactRoundOutRow.wideKeys == (Tryz.f3.params.toList ++ Rows.fnExactRoundOutSpec.plain.varTypes Tryz.pinned.checked.prog ++ Tryz.f3.resultTypes.toList).any (Tryz.pinned.checked.prog.wideKeysFrom ·)) = true := by kernel_rfl
theorem rnd_holds_c18 : (Rows.fnExactRoundOutSpec.vars.all (Tryz.pinned.checked.prog.varReadable ·)) = true := by kernel_rfl
theorem rnd_holds_c19 : (Tryz.f3.resultTypes.all (fun t => Tryz.pinned.checked.prog.readableRec t && decide (t < Tryz.pinned.checked.prog.types.size))) = true := by kernel_rfl
theorem rnd_holds_c20 : (Rows.fnExactRoundOutRow.ifacesOut == Tryz.f3.resultTypes.toList.any (Tryz.pinned.checked.prog.ifacesRec ·)) = true := by kernel_rfl
theorem rnd_holds_c21 : (Rows.fnExactRoundOutRow.loopsOut == Tryz.f3.resultTypes.toList.any (Tryz.pinned.checked.prog.loopsFrom ·)) = true := by kernel_rfl
theorem rnd_holds_c22 : (Rows.fnExactRoundOutRow.plainKeys == Tryz.pinned.checked.prog.plainKeys) = true := by kernel_rfl
theorem rnd_holds_c23 : (Rows.fnExactRoundOutRow.shortTexts.isNone) = true := by kernel_rfl
theorem rnd_holds_c24 : (Tryz.pinned.checked.prog.stopsHeard) = true := by kernel_rfl
theorem rnd_holds_c25 : (Tryz.pinned.checked.prog.mayEnter) = true := io_enter
theorem rnd_holds_c26 : (Rows.fnExactRoundOutRow.lifted == Tryz.pinned.checked.prog.liftsFinal) = true := by rw [io_lifts]; kernel_rfl
theorem rnd_holds_c27 : (Tryz.pinned.checked.prog.make == some Rows.fnExactRoundOutRow.make) = true := by rw [io_make]; kernel_rfl
theorem rnd_holds_c28 : (Rows.fnExactRoundOutRow.kinds == (if Rows.fnExactRoundOutRow.domain.isEmpty then [] else Tryz.f3.params.toList.map fun t => match Tryz.pinned.checked.prog.underlying t with | some (.int k) => some k | _ => none)) = true := by kernel_rfl
theorem rnd_holds_c29 : (Rows.fnExactRoundOutRow.pinned == Rows.fnExactRoundOutRow.pinnedBy) = true := by kernel_rfl
theorem rnd_holds_c30 : (Rows.fnExactRoundOutRow.veiled == (Tryz.f3.params.toList ++ Rows.fnExactRoundOutSpec.plain.varTypes Tryz.pinned.checked.prog ++ Tryz.f3.resultTypes.toList).any (Tryz.pinned.checked.prog.veiledRec ·)) = true := by kernel_rfl
theorem rnd_holds_c31 : (Rows.fnExactRoundOutRow.veiledFits Tryz.pinned.checked.prog Tryz.f3.params.toList (Tryz.f3.params.toList ++ Rows.fnExactRoundOutSpec.plain.varTypes Tryz.pinned.checked.prog ++ Tryz.f3.resultTypes.toList)) = true := by kernel_rfl
theorem rnd_holds_and {a b : Bool} (h : a = true) (k : b = true) : (a && b) = true := by rw [h, k]; rfl
theorem rnd_holds_closed : joinedFacts Tryz.pinned.checked.prog 3 Tryz.f3 Rows.fnExactRoundOutSpec Rows.fnExactRoundOutRow = true := (rnd_holds_and (rnd_holds_and (rnd_holds_and (rnd_holds_and (rnd_holds_and (rnd_holds_and (rnd_holds_and (rnd_holds_and (rnd_holds_and (rnd_holds_and (rnd_holds_and (rnd_holds_and (rnd_holds_and (rnd_holds_and (rnd_holds_and (rnd_holds_and (rnd_holds_and (rnd_holds_and (rnd_holds_and (rnd_holds_and (rnd_holds_and (rnd_holds_and (rnd_holds_and (rnd_holds_and (rnd_holds_and (rnd_holds_and (rnd_holds_and (rnd_holds_and (rnd_holds_and (rnd_holds_and (rnd_holds_and rnd_holds_c0 rnd_holds_c1) rnd_holds_c2) rnd_holds_c3) rnd_holds_c4) rnd_holds_c5) rnd_holds_c6) rnd_holds_c7) rnd_holds_c8) rnd_holds_c9) rnd_holds_c10) rnd_holds_c11) rnd_holds_c12) rnd_holds_c13) rnd_holds_c14) rnd_holds_c15) rnd_holds_c16) rnd_holds_c17) rnd_holds_c18) rnd_holds_c19) rnd_holds_c20) rnd_holds_c21) rnd_holds_c22) rnd_holds_c23) rnd_holds_c24) rnd_holds_c25) rnd_holds_c26) rnd_holds_c27) rnd_holds_c28) rnd_holds_c29) rnd_holds_c30) rnd_holds_c31)
theorem rnd_holds_named : Tryz.pinned.checked.prog.funcNamed Rows.fnExactRoundOutRow.func = some 3 := by kernel_rfl
theorem rnd_holds_inst : Tryz.f3.isInstance Tryz.pinned.checked.prog Rows.fnExactRoundOutRow.origin Rows.fnExactRoundOutRow.targs := of_decide_eq_true (by kernel_rfl)
theorem rnd_holds_wrap : Tryz.f3.isWrapper Tryz.pinned.checked.prog Rows.fnExactRoundOutRow.wrapper Rows.fnExactRoundOutRow.mainSum := by unfold Func.isWrapper; first | (rw [if_pos (by decide +kernel)]; kernel_rfl) | (rw [if_neg (by decide +kernel)]; exact ⟨rfl, rfl⟩)
theorem rnd_holds : Rows.FnExactRoundOutSaid :=
  OpenClaim.holds_of_wide 3 Tryz.f3 rfl rfl rfl rfl rfl rfl rfl ⟨rfl, rfl, rfl, rfl, rfl⟩ rfl rfl rfl rfl rfl rnd_holds_named Tryz.func3 rnd_holds_closed rnd_holds_inst rnd_holds_wrap
    (fun os started H enc _ => rnd_holds_lifted os started H enc)
#print axioms rnd_holds
end Go.Proofs.YtcbmecnipldcfaaGreat
