/- The specification's l2Make: a fraction in lowest terms. No condition beyond those typed. Written by mklow2.py. -/
import Derived.Test.YtdgonpbponnnaaaGreatDoorLow
namespace Go.Proofs.YtdgonpbponnnaaaGreatDoor
open Go.RowKit
set_option linter.unusedVariables false
set_option maxRecDepth 100000
set_option linter.unusedSimpArgs false

theorem quot_g (N D X : Int) (hD : D ≠ 0) : sU (!(decide (X < 0) == decide (((Nat.gcd N.natAbs D.natAbs : Nat) : Int) < 0))) ((X.natAbs : Int) / ((((Nat.gcd N.natAbs D.natAbs : Nat) : Int)).natAbs : Int)) = sU (decide (X < 0)) ((X.natAbs : Int) / ((Nat.gcd N.natAbs D.natAbs : Nat) : Int)) := by
  have : decide (((Nat.gcd N.natAbs D.natAbs : Nat) : Int) < 0) = false := decide_eq_false (by omega)
  rw [this, Int.natAbs_natCast]
  cases decide (X < 0) <;> rfl
theorem low_neg {N D : Int} (h : D < 0) : -(sU (decide (N < 0)) (lowU N D)) = lowN N D ∧ -(sU (decide (D < 0)) (lowD N D)) = lowD N D := by
  unfold lowN sU
  rw [decide_eq_true h]
  refine ⟨?_, by simp⟩
  cases decide (N < 0) <;> simp
theorem low_pos {N D : Int} (h : 0 ≤ D) : sU (decide (N < 0)) (lowU N D) = lowN N D ∧ sU (decide (D < 0)) (lowD N D) = lowD N D := by
  unfold lowN sU
  rw [decide_eq_false (show ¬ D < 0 by omega)]
  refine ⟨?_, by simp⟩
  cases decide (N < 0) <;> simp
theorem outQv_fin {w wN W : World} {R : Nat} {q : QV} {N D : Int} (hR : w.heap.size ≤ R) (hb : Below w.heap.size w wN) (bt : But R (R + 1) wN W)
    (h1 : Ow (R + 1) wN.heap.size wN q.num N) (h2 : Ow (R + 1) wN.heap.size wN q.den D) : OutQv w N D (.returned (.agg #[.bool q.num.g, .slice q.num.a q.num.n q.num.c, .bool q.den.g, .slice q.den.a q.den.n q.den.c])) W :=
  ⟨q, rfl, bt.below hb hR hb.size, (h1.but bt (.inr (Nat.le_refl _))).wide (by omega) bt.size, (h2.but bt (.inr (Nat.le_refl _))).wide (by omega) bt.size⟩

set_option maxHeartbeats 4000000 in
theorem lowS (b b' : BV) (N D : Int) (w : World) (h : IsB w b N) (h' : IsB w b' D) (hD : D ≠ 0) (k : Bd N 400000) (k' : Bd D 400000) :
    Calls Tryz.prog 54 #[.agg #[.bool b.g, .slice b.a b.n b.c], .agg #[.bool b'.g, .slice b'.a b'.n b'.c]] w (OutQv w (lowN N D) (lowD N D)) := by
  by_cases hD0 : D < 0
  · have HI := hide h
    have HI' := hide h'
    obtain ⟨xs, hx, _, hl, nx, sx⟩ := h.num k (by omega)
    obtain ⟨ys, hy, _, hl', ny, sy⟩ := h'.num k' (by omega)
    have hm : 1 ≤ b'.n := by have := h'.zero_iff; omega
    have HX := hide hx.arg
    have HY := hide hy.arg
    have EN : Hid ((val xs).toNat = N.natAbs ∧ (val ys).toNat = D.natAbs) := hide ⟨by rw [nx.v]; simp, by rw [ny.v]; simp⟩
    have KD := hide k'
    have KN := hide k
    have NX := hide nx
    have NY := hide ny
    have HD := hide hD
    have HD0 := hide hD0
    clear hD0
    have KG : Hid (Bd ((Nat.gcd N.natAbs D.natAbs : Nat) : Int) 400000 ∧ ((Nat.gcd N.natAbs D.natAbs : Nat) : Int) ≠ 0) := hide ⟨k'.le (by have := Nat.le_of_dvd (show 0 < D.natAbs by omega) (Nat.gcd_dvd_right N.natAbs D.natAbs); simp; omega), by have := gcd_pos_right (N := N) hD; omega⟩
    clear h h' hx hy nx ny sx sy k k' hD
    have B0 := hide (show Below w.heap.size w (((w.alloc (.cells #[.bool b.g, .slice b.a b.n b.c] 25)).alloc (.cells #[.bool b'.g, .slice b'.a b'.n b'.c] 25)).alloc (.cells #[.bool false, .slice none 0 0, .bool false, .slice none 0 0] 27)) from ((((Below.refl _ _).alloc (by simp) _).alloc (by simp) _).alloc (by simp <;> omega) _))
    go_enter Tryz.func54, Tryz.ntmps54
    go_wp2_with fail
    refine (gcdS_any b.a b'.a b.n b'.n b.c b'.c xs ys _ ((unhide HX).later (unhide B0)) ((unhide HY).later (unhide B0)) (unhide NX).ok (unhide NX).tr (unhide NY).ok (unhide NY).tr (by omega) (by omega)).mono ?_
    rintro e w1 ⟨a1, n1, c1, gs, rfl, hb, ho1, ha1, hn1⟩
    rw [(unhide EN).1, (unhide EN).2] at hn1
    obtain ⟨g1, g2⟩ := gcd_len hn1 ha1.len (unhide HD) (unhide KD)
    have N1 := hide hn1
    have s1 : w.heap.size + 3 ≤ w1.heap.size := by have := hb.size; simp at this; omega
    have k0_0 : w1.cell? ⟨w.heap.size, 0, none⟩ = some (.bool b.g) := cell_later hb (by simp [go_sem])
    have k1_0 : w1.cell? ⟨w.heap.size + 1, 0, none⟩ = some (.bool b'.g) := cell_later hb (by simp [go_sem])
    have k0_1 : w1.cell? ⟨w.heap.size, 1, none⟩ = some (.slice b.a b.n b.c) := cell_later hb (by simp [go_sem])
    have k1_1 : w1.cell? ⟨w.heap.size + 1, 1, none⟩ = some (.slice b'.a b'.n b'.c) := cell_later hb (by simp [go_sem])
    have k2_0 : w1.cell? ⟨w.heap.size + 1 + 1, 0, none⟩ = some (.bool false) := cell_later hb (by simp [go_sem])
    have k2_1 : w1.cell? ⟨w.heap.size + 1 + 1, 1, none⟩ = some (.slice none 0 0) := cell_later hb (by simp [go_sem])
    have k2_2 : w1.cell? ⟨w.heap.size + 1 + 1, 2, none⟩ = some (.bool false) := cell_later hb (by simp [go_sem])
    have k2_3 : w1.cell? ⟨w.heap.size + 1 + 1, 3, none⟩ = some (.slice none 0 0) := cell_later hb (by simp [go_sem])
    have z2 : ∀ o, w1.frozen? ⟨w.heap.size + 1 + 1, o, none⟩ = false := fun o => frozen_later hb (by simp) (by simp [go_sem])
    have A1 := hide (ha1)
    have HB := hide (below_on (unhide B0) hb)
    clear hb
    clear ho1 ha1 hn1
    go_wp2_with fail
    refine (makeS_v false a1 n1 c1 gs _ _ (unhide A1) (unhide N1) (by omega)).mono ?_
    rintro e w2 ⟨x1, rfl, hb, ow, ar⟩
    have s2 := hb.size
    replace z2 := fun o => frozen_later hb (World.block_lt_of_cell? _ _ k2_0) (z2 o)
    replace k0_0 := cell_later hb k0_0
    replace k1_0 := cell_later hb k1_0
    replace k0_1 := cell_later hb k0_1
    replace k1_1 := cell_later hb k1_1
    replace k2_0 := cell_later hb k2_0
    replace k2_1 := cell_later hb k2_1
    replace k2_2 := cell_later hb k2_2
    replace k2_3 := cell_later hb k2_3
    replace A1 := hide ((unhide A1).later hb)
    have G1 := hide (isB_of_out (V := ((Nat.gcd N.natAbs D.natAbs : Nat) : Int)) ar (by rw [Int.natAbs_natCast]; exact unhide N1))
    replace HB := hide (below_on (unhide HB) hb)
    clear hb
    clear ow ar
    clear A1
    have k0_0u : (w2.alloc (.cells #[.bool x1.g, .slice x1.a x1.n x1.c] 25)).cell? ⟨w.heap.size, 0, none⟩ = some (.bool b.g) := (ca_other k0_0)
    have k1_0u : (w2.alloc (.cells #[.bool x1.g, .slice x1.a x1.n x1.c] 25)).cell? ⟨w.heap.size + 1, 0, none⟩ = some (.bool b'.g) := (ca_other k1_0)
    have k0_1u : (w2.alloc (.cells #[.bool x1.g, .slice x1.a x1.n x1.c] 25)).cell? ⟨w.heap.size, 1, none⟩ = some (.slice b.a b.n b.c) := (ca_other k0_1)
    have k1_1u : (w2.alloc (.cells #[.bool x1.g, .slice x1.a x1.n x1.c] 25)).cell? ⟨w.heap.size + 1, 1, none⟩ = some (.slice b'.a b'.n b'.c) := (ca_other k1_1)
    have k2_0u : (w2.alloc (.cells #[.bool x1.g, .slice x1.a x1.n x1.c] 25)).cell? ⟨w.heap.size + 1 + 1, 0, none⟩ = some (.bool false) := (ca_other k2_0)
    have k2_1u : (w2.alloc (.cells #[.bool x1.g, .slice x1.a x1.n x1.c] 25)).cell? ⟨w.heap.size + 1 + 1, 1, none⟩ = some (.slice none 0 0) := (ca_other k2_1)
    have k2_2u : (w2.alloc (.cells #[.bool x1.g, .slice x1.a x1.n x1.c] 25)).cell? ⟨w.heap.size + 1 + 1, 2, none⟩ = some (.bool false) := (ca_other k2_2)
    have k2_3u : (w2.alloc (.cells #[.bool x1.g, .slice x1.a x1.n x1.c] 25)).cell? ⟨w.heap.size + 1 + 1, 3, none⟩ = some (.slice none 0 0) := (ca_other k2_3)
    go_wp2_with fail
    refine (divS_v b x1 N _ _ ((unhide HI).later (below_on (unhide HB) ((Below.refl _ _).alloc (by simp) _))) ((unhide G1).later ((Below.refl _ _).alloc (by simp) _)) (unhide KG).2 (unhide KN) (unhide KG).1).mono ?_
    rintro e w3 ⟨y1, y2, rfl, hb, i1, i2⟩
    clear k0_0u k1_0u k0_1u k1_1u k2_0u k2_1u k2_2u k2_3u
    rw [quot_g N D N (unhide HD)] at i1
    have s3 : w2.heap.size ≤ w3.heap.size := by have := hb.size; simp at this; omega
    replace i1 : Ow w2.heap.size w3.heap.size w3 y1 (sU (decide (N < 0)) (lowU N D)) := i1.wide (by simp) (Nat.le_refl _)
    have hbx := ba (hb)
    replace z2 := fun o => frozen_later hbx (World.block_lt_of_cell? _ _ k2_0) (z2 o)
    replace k1_0 := cell_later hbx k1_0
    replace k1_1 := cell_later hbx k1_1
    replace k2_0 := cell_later hbx k2_0
    replace k2_1 := cell_later hbx k2_1
    replace k2_2 := cell_later hbx k2_2
    replace k2_3 := cell_later hbx k2_3
    have k3_0 : w3.cell? ⟨w2.heap.size, 0, none⟩ = some (.bool x1.g) := cell_later hb (by simp [go_sem])
    have k3_1 : w3.cell? ⟨w2.heap.size, 1, none⟩ = some (.slice x1.a x1.n x1.c) := cell_later hb (by simp [go_sem])
    clear k0_0 k0_1
    replace G1 := hide ((unhide G1).later hbx)
    have I1 := hide (i1)
    replace HB := hide (below_on (unhide HB) hbx)
    clear hbx hb
    clear i1 i2
    have k1_0u : ((w3.alloc (.cells #[.bool y1.g, .slice y1.a y1.n y1.c] 25)).alloc (.cells #[.bool y2.g, .slice y2.a y2.n y2.c] 25)).cell? ⟨w.heap.size + 1, 0, none⟩ = some (.bool b'.g) := (ca_other (ca_other k1_0))
    have k1_1u : ((w3.alloc (.cells #[.bool y1.g, .slice y1.a y1.n y1.c] 25)).alloc (.cells #[.bool y2.g, .slice y2.a y2.n y2.c] 25)).cell? ⟨w.heap.size + 1, 1, none⟩ = some (.slice b'.a b'.n b'.c) := (ca_other (ca_other k1_1))
    have k2_0u : ((w3.alloc (.cells #[.bool y1.g, .slice y1.a y1.n y1.c] 25)).alloc (.cells #[.bool y2.g, .slice y2.a y2.n y2.c] 25)).cell? ⟨w.heap.size + 1 + 1, 0, none⟩ = some (.bool false) := (ca_other (ca_other k2_0))
    have k2_1u : ((w3.alloc (.cells #[.bool y1.g, .slice y1.a y1.n y1.c] 25)).alloc (.cells #[.bool y2.g, .slice y2.a y2.n y2.c] 25)).cell? ⟨w.heap.size + 1 + 1, 1, none⟩ = some (.slice none 0 0) := (ca_other (ca_other k2_1))
    have k2_2u : ((w3.alloc (.cells #[.bool y1.g, .slice y1.a y1.n y1.c] 25)).alloc (.cells #[.bool y2.g, .slice y2.a y2.n y2.c] 25)).cell? ⟨w.heap.size + 1 + 1, 2, none⟩ = some (.bool false) := (ca_other (ca_other k2_2))
    have k2_3u : ((w3.alloc (.cells #[.bool y1.g, .slice y1.a y1.n y1.c] 25)).alloc (.cells #[.bool y2.g, .slice y2.a y2.n y2.c] 25)).cell? ⟨w.heap.size + 1 + 1, 3, none⟩ = some (.slice none 0 0) := (ca_other (ca_other k2_3))
    have k3_0u : ((w3.alloc (.cells #[.bool y1.g, .slice y1.a y1.n y1.c] 25)).alloc (.cells #[.bool y2.g, .slice y2.a y2.n y2.c] 25)).cell? ⟨w2.heap.size, 0, none⟩ = some (.bool x1.g) := (ca_other (ca_other k3_0))
    have k3_1u : ((w3.alloc (.cells #[.bool y1.g, .slice y1.a y1.n y1.c] 25)).alloc (.cells #[.bool y2.g, .slice y2.a y2.n y2.c] 25)).cell? ⟨w2.heap.size, 1, none⟩ = some (.slice x1.a x1.n x1.c) := (ca_other (ca_other k3_1))
    go_wp2_with fail
    refine (divS_v b' x1 D _ _ ((unhide HI').later (below_on (unhide HB) (((Below.refl _ _).alloc (by simp) _).alloc (by simp) _))) ((unhide G1).later (((Below.refl _ _).alloc (by simp) _).alloc (by simp) _)) (unhide KG).2 (unhide KD) (unhide KG).1).mono ?_
    rintro e w4 ⟨z1, zr, rfl, hb, i3, i4⟩
    clear k1_0u k1_1u k2_0u k2_1u k2_2u k2_3u k3_0u k3_1u
    rw [quot_g N D D (unhide HD)] at i3
    have s4 : w3.heap.size + 1 ≤ w4.heap.size := by have := hb.size; simp at this; omega
    replace i3 : Ow w3.heap.size w4.heap.size w4 z1 (sU (decide (D < 0)) (lowD N D)) := i3.wide (by simp <;> omega) (Nat.le_refl _)
    have hbx := ba (ba (hb))
    replace z2 := fun o => frozen_later hbx (World.block_lt_of_cell? _ _ k2_0) (z2 o)
    replace k2_0 := cell_later hbx k2_0
    replace k2_1 := cell_later hbx k2_1
    replace k2_2 := cell_later hbx k2_2
    replace k2_3 := cell_later hbx k2_3
    have k4_0 : w4.cell? ⟨w3.heap.size, 0, none⟩ = some (.bool y1.g) := cell_later hb (by simp [go_sem])
    have k4_1 : w4.cell? ⟨w3.heap.size, 1, none⟩ = some (.slice y1.a y1.n y1.c) := cell_later hb (by simp [go_sem])
    clear k1_0 k1_1 k3_0 k3_1
    replace G1 := hide ((unhide G1).later hbx)
    replace I1 := hide ((unhide I1).later hbx)
    have I3 := hide (i3)
    replace HB := hide (below_on (unhide HB) hbx)
    clear hbx hb
    clear i3 i4
    clear G1
    have hz : z1.g = true := by
      obtain ⟨us, h1, h2⟩ := (unhide I3).is
      have h3 := h1.sg
      rw [h3]
      refine decide_eq_true ?_
      have := lowD_pos (N := N) (unhide HD)
      rw [← (low_neg (unhide HD0)).2] at this
      show sU (decide (D < 0)) (lowD N D) < 0
      omega
    have BD : Hid (Bd (sU (decide (N < 0)) (lowU N D)) 400000 ∧ Bd (sU (decide (D < 0)) (lowD N D)) 400000) := hide ⟨(unhide KN).le (by have := sU_abs (g := decide (N < 0)) (lowU_nonneg N D); have := lowU_le N D; omega), (unhide KD).le (by have := sU_abs (g := decide (D < 0)) (lowD_nonneg N D); have := lowD_le N D; omega)⟩
    have LN := hide (low_neg (N := N) (unhide HD0))
    obtain ⟨zg, za, zn, zc⟩ := z1
    obtain rfl : zg = true := hz
    go_upto_region 5 with fail
    have hb : Below w4.heap.size w4 ((w4.alloc (.cells #[.bool true, .slice za zn zc] 25)).alloc (.cells #[.bool zr.g, .slice zr.a zr.n zr.c] 25)) := (((Below.refl _ _).alloc (by simp) _).alloc (by simp) _)
    replace k4_0 : ((w4.alloc (.cells #[.bool true, .slice za zn zc] 25)).alloc (.cells #[.bool zr.g, .slice zr.a zr.n zr.c] 25)).cell? ⟨w3.heap.size, 0, none⟩ = some (.bool y1.g) := (ca_other (ca_other k4_0))
    replace k4_1 : ((w4.alloc (.cells #[.bool true, .slice za zn zc] 25)).alloc (.cells #[.bool zr.g, .slice zr.a zr.n zr.c] 25)).cell? ⟨w3.heap.size, 1, none⟩ = some (.slice y1.a y1.n y1.c) := (ca_other (ca_other k4_1))
    have k6_0 : ((w4.alloc (.cells #[.bool true, .slice za zn zc] 25)).alloc (.cells #[.bool zr.g, .slice zr.a zr.n zr.c] 25)).cell? ⟨w4.heap.size, 0, none⟩ = some (.bool true) := by simp [go_sem]
    have k6_1 : ((w4.alloc (.cells #[.bool true, .slice za zn zc] 25)).alloc (.cells #[.bool zr.g, .slice zr.a zr.n zr.c] 25)).cell? ⟨w4.heap.size, 1, none⟩ = some (.slice za zn zc) := by simp [go_sem]
    replace k2_0 : ((w4.alloc (.cells #[.bool true, .slice za zn zc] 25)).alloc (.cells #[.bool zr.g, .slice zr.a zr.n zr.c] 25)).cell? ⟨w.heap.size + 1 + 1, 0, none⟩ = some (.bool false) := (ca_other (ca_other k2_0))
    replace k2_1 : ((w4.alloc (.cells #[.bool true, .slice za zn zc] 25)).alloc (.cells #[.bool zr.g, .slice zr.a zr.n zr.c] 25)).cell? ⟨w.heap.size + 1 + 1, 1, none⟩ = some (.slice none 0 0) := (ca_other (ca_other k2_1))
    replace k2_2 : ((w4.alloc (.cells #[.bool true, .slice za zn zc] 25)).alloc (.cells #[.bool zr.g, .slice zr.a zr.n zr.c] 25)).cell? ⟨w.heap.size + 1 + 1, 2, none⟩ = some (.bool false) := (ca_other (ca_other k2_2))
    replace k2_3 : ((w4.alloc (.cells #[.bool true, .slice za zn zc] 25)).alloc (.cells #[.bool zr.g, .slice zr.a zr.n zr.c] 25)).cell? ⟨w.heap.size + 1 + 1, 3, none⟩ = some (.slice none 0 0) := (ca_other (ca_other k2_3))
    replace z2 : ∀ o, ((w4.alloc (.cells #[.bool true, .slice za zn zc] 25)).alloc (.cells #[.bool zr.g, .slice zr.a zr.n zr.c] 25)).frozen? ⟨w.heap.size + 1 + 1, o, none⟩ = false := fun o => frozen_later hb (by omega) (z2 o)
    replace I1 := hide ((unhide I1).later hb)
    replace I3 := hide ((unhide I3).later hb)
    replace HB := hide (below_on (unhide HB) hb)
    have szw5 := hb.size
    clear hb
    generalize ((w4.alloc (.cells #[.bool true, .slice za zn zc] 25)).alloc (.cells #[.bool zr.g, .slice zr.a zr.n zr.c] 25)) = w5 at *
    have ne4_2 : w3.heap.size ≠ w.heap.size + 1 + 1 := by omega
    have ne6_2 : w4.heap.size ≠ w.heap.size + 1 + 1 := by omega
    go_region_held3 (fun w' => w'.cell? ⟨w3.heap.size, 0, none⟩ = some (.bool y1.g) ∧ w'.cell? ⟨w3.heap.size, 1, none⟩ = some (.slice y1.a y1.n y1.c) ∧ w'.cell? ⟨w4.heap.size, 0, none⟩ = some (.bool true) ∧ w'.cell? ⟨w4.heap.size, 1, none⟩ = some (.slice za zn zc)) (with_reducible (first | exact ⟨k4_0, k4_1, k6_0, k6_1⟩ | exact ⟨cd_other k4_0, cd_other k4_1, cd_other k6_0, cd_other k6_1⟩ | exact ⟨cs_other (cs_other (cs_other (cs_other (k4_0) ne4_2) ne4_2) ne4_2) ne4_2, cs_other (cs_other (cs_other (cs_other (k4_1) ne4_2) ne4_2) ne4_2) ne4_2, cs_other (cs_other (cs_other (cs_other (k6_0) ne6_2) ne6_2) ne6_2) ne6_2, cs_other (cs_other (cs_other (cs_other (k6_1) ne6_2) ne6_2) ne6_2) ne6_2⟩ | fail))
      (first
      | (go_at_call_of 85 (Value.agg #[Value.bool y1.g, Value.slice y1.a y1.n y1.c]); refine (negS_v y1 _ _ ?_ (unhide BD).1).mono ?_; exact (unhide I1).is.later (Below.refl _ _).drew; rintro e w6 ⟨u1, as1, rfl, hb, ow1, ar1, nn1⟩; have hbx : Below w5.heap.size w5 w6 := below_of_drew hb; have szw6 := hbx.size; replace z2 := fun o => frozen_later hbx (World.block_lt_of_cell? _ _ k2_0) (z2 o); replace k2_0 := cell_later hbx k2_0; replace k2_1 := cell_later hbx k2_1; replace k2_2 := cell_later hbx k2_2; replace k2_3 := cell_later hbx k2_3; replace k4_0 := cell_later hbx k4_0; replace k4_1 := cell_later hbx k4_1; replace k6_0 := cell_later hbx k6_0; replace k6_1 := cell_later hbx k6_1; replace I1 := hide ((unhide I1).later hbx); replace I3 := hide ((unhide I3).later hbx); have P1 := hide (outN_ow ow1 ar1 nn1); have HBr := hide hbx; clear hbx hb ow1 ar1 nn1)
      | (go_at_call_of 85 (Value.agg #[Value.bool true, Value.slice za zn zc]); refine (negS_v ⟨true, za, zn, zc⟩ _ _ ?_ (unhide BD).2).mono ?_; exact (unhide I3).is.later (Below.refl _ _); rintro e w7 ⟨u2, bs1, rfl, hb, ow2, ar2, nn2⟩; have hbx : Below w6.heap.size w6 w7 := hb; have szw7 := hbx.size; replace z2 := fun o => frozen_later hbx (World.block_lt_of_cell? _ _ k2_0) (z2 o); replace k2_0 := cell_later hbx k2_0; replace k2_1 := cell_later hbx k2_1; replace k2_2 := cell_later hbx k2_2; replace k2_3 := cell_later hbx k2_3; replace k4_0 := cell_later hbx k4_0; replace k4_1 := cell_later hbx k4_1; replace k6_0 := cell_later hbx k6_0; replace k6_1 := cell_later hbx k6_1; replace I1 := hide ((unhide I1).later hbx); replace I3 := hide ((unhide I3).later hbx); replace P1 := hide ((unhide P1).later hbx); have P2 := hide (outN_ow ow2 ar2 nn2); have HBr := hide (below_on (unhide HBr) hbx); clear hbx hb ow2 ar2 nn2))
    replace HB := hide (below_on (unhide HB) (unhide HBr))
    clear HBr
    have P3 : Hid (Ow (w.heap.size + 1 + 1 + 1) w7.heap.size w7 u1 (lowN N D) ∧ Ow (w.heap.size + 1 + 1 + 1) w7.heap.size w7 u2 (lowD N D)) := hide ⟨by rw [← (unhide LN).1]; exact (unhide P1).wide (show _ ≤ w5.heap.size by omega) (by omega), by rw [← (unhide LN).2]; exact (unhide P2).wide (by omega) (by omega)⟩
    go_wp2
    refine bodyPost_ret (v := .agg #[.bool u1.g, .slice u1.a u1.n u1.c, .bool u2.g, .slice u2.a u2.n u2.c]) (by simp [results, Tryz.results54, go_sem, k2_0, k2_1, k2_2, k2_3]) rfl ?_
    exact outQv_fin (q := ⟨u1, u2⟩) (R := w.heap.size + 1 + 1) (by omega) (unhide HB) (metQ_but (w5 := w7) (v := ⟨u1, u2⟩) (G := w.heap.size + 1 + 1)) (unhide P3).1 (unhide P3).2
  · have HI := hide h
    have HI' := hide h'
    obtain ⟨xs, hx, _, hl, nx, sx⟩ := h.num k (by omega)
    obtain ⟨ys, hy, _, hl', ny, sy⟩ := h'.num k' (by omega)
    have hm : 1 ≤ b'.n := by have := h'.zero_iff; omega
    have HX := hide hx.arg
    have HY := hide hy.arg
    have EN : Hid ((val xs).toNat = N.natAbs ∧ (val ys).toNat = D.natAbs) := hide ⟨by rw [nx.v]; simp, by rw [ny.v]; simp⟩
    have KD := hide k'
    have KN := hide k
    have NX := hide nx
    have NY := hide ny
    have HD := hide hD
    have HD0 := hide (show 0 ≤ D by omega)
    clear hD0
    have KG : Hid (Bd ((Nat.gcd N.natAbs D.natAbs : Nat) : Int) 400000 ∧ ((Nat.gcd N.natAbs D.natAbs : Nat) : Int) ≠ 0) := hide ⟨k'.le (by have := Nat.le_of_dvd (show 0 < D.natAbs by omega) (Nat.gcd_dvd_right N.natAbs D.natAbs); simp; omega), by have := gcd_pos_right (N := N) hD; omega⟩
    clear h h' hx hy nx ny sx sy k k' hD
    have B0 := hide (show Below w.heap.size w (((w.alloc (.cells #[.bool b.g, .slice b.a b.n b.c] 25)).alloc (.cells #[.bool b'.g, .slice b'.a b'.n b'.c] 25)).alloc (.cells #[.bool false, .slice none 0 0, .bool false, .slice none 0 0] 27)) from ((((Below.refl _ _).alloc (by simp) _).alloc (by simp) _).alloc (by simp <;> omega) _))
    go_enter Tryz.func54, Tryz.ntmps54
    go_wp2_with fail
    refine (gcdS_any b.a b'.a b.n b'.n b.c b'.c xs ys _ ((unhide HX).later (unhide B0)) ((unhide HY).later (unhide B0)) (unhide NX).ok (unhide NX).tr (unhide NY).ok (unhide NY).tr (by omega) (by omega)).mono ?_
    rintro e w1 ⟨a1, n1, c1, gs, rfl, hb, ho1, ha1, hn1⟩
    rw [(unhide EN).1, (unhide EN).2] at hn1
    obtain ⟨g1, g2⟩ := gcd_len hn1 ha1.len (unhide HD) (unhide KD)
    have N1 := hide hn1
    have s1 : w.heap.size + 3 ≤ w1.heap.size := by have := hb.size; simp at this; omega
    have k0_0 : w1.cell? ⟨w.heap.size, 0, none⟩ = some (.bool b.g) := cell_later hb (by simp [go_sem])
    have k1_0 : w1.cell? ⟨w.heap.size + 1, 0, none⟩ = some (.bool b'.g) := cell_later hb (by simp [go_sem])
    have k0_1 : w1.cell? ⟨w.heap.size, 1, none⟩ = some (.slice b.a b.n b.c) := cell_later hb (by simp [go_sem])
    have k1_1 : w1.cell? ⟨w.heap.size + 1, 1, none⟩ = some (.slice b'.a b'.n b'.c) := cell_later hb (by simp [go_sem])
    have k2_0 : w1.cell? ⟨w.heap.size + 1 + 1, 0, none⟩ = some (.bool false) := cell_later hb (by simp [go_sem])
    have k2_1 : w1.cell? ⟨w.heap.size + 1 + 1, 1, none⟩ = some (.slice none 0 0) := cell_later hb (by simp [go_sem])
    have k2_2 : w1.cell? ⟨w.heap.size + 1 + 1, 2, none⟩ = some (.bool false) := cell_later hb (by simp [go_sem])
    have k2_3 : w1.cell? ⟨w.heap.size + 1 + 1, 3, none⟩ = some (.slice none 0 0) := cell_later hb (by simp [go_sem])
    have z2 : ∀ o, w1.frozen? ⟨w.heap.size + 1 + 1, o, none⟩ = false := fun o => frozen_later hb (by simp) (by simp [go_sem])
    have A1 := hide (ha1)
    have HB := hide (below_on (unhide B0) hb)
    clear hb
    clear ho1 ha1 hn1
    go_wp2_with fail
    refine (makeS_v false a1 n1 c1 gs _ _ (unhide A1) (unhide N1) (by omega)).mono ?_
    rintro e w2 ⟨x1, rfl, hb, ow, ar⟩
    have s2 := hb.size
    replace z2 := fun o => frozen_later hb (World.block_lt_of_cell? _ _ k2_0) (z2 o)
    replace k0_0 := cell_later hb k0_0
    replace k1_0 := cell_later hb k1_0
    replace k0_1 := cell_later hb k0_1
    replace k1_1 := cell_later hb k1_1
    replace k2_0 := cell_later hb k2_0
    replace k2_1 := cell_later hb k2_1
    replace k2_2 := cell_later hb k2_2
    replace k2_3 := cell_later hb k2_3
    replace A1 := hide ((unhide A1).later hb)
    have G1 := hide (isB_of_out (V := ((Nat.gcd N.natAbs D.natAbs : Nat) : Int)) ar (by rw [Int.natAbs_natCast]; exact unhide N1))
    replace HB := hide (below_on (unhide HB) hb)
    clear hb
    clear ow ar
    clear A1
    have k0_0u : (w2.alloc (.cells #[.bool x1.g, .slice x1.a x1.n x1.c] 25)).cell? ⟨w.heap.size, 0, none⟩ = some (.bool b.g) := (ca_other k0_0)
    have k1_0u : (w2.alloc (.cells #[.bool x1.g, .slice x1.a x1.n x1.c] 25)).cell? ⟨w.heap.size + 1, 0, none⟩ = some (.bool b'.g) := (ca_other k1_0)
    have k0_1u : (w2.alloc (.cells #[.bool x1.g, .slice x1.a x1.n x1.c] 25)).cell? ⟨w.heap.size, 1, none⟩ = some (.slice b.a b.n b.c) := (ca_other k0_1)
    have k1_1u : (w2.alloc (.cells #[.bool x1.g, .slice x1.a x1.n x1.c] 25)).cell? ⟨w.heap.size + 1, 1, none⟩ = some (.slice b'.a b'.n b'.c) := (ca_other k1_1)
    have k2_0u : (w2.alloc (.cells #[.bool x1.g, .slice x1.a x1.n x1.c] 25)).cell? ⟨w.heap.size + 1 + 1, 0, none⟩ = some (.bool false) := (ca_other k2_0)
    have k2_1u : (w2.alloc (.cells #[.bool x1.g, .slice x1.a x1.n x1.c] 25)).cell? ⟨w.heap.size + 1 + 1, 1, none⟩ = some (.slice none 0 0) := (ca_other k2_1)
    have k2_2u : (w2.alloc (.cells #[.bool x1.g, .slice x1.a x1.n x1.c] 25)).cell? ⟨w.heap.size + 1 + 1, 2, none⟩ = some (.bool false) := (ca_other k2_2)
    have k2_3u : (w2.alloc (.cells #[.bool x1.g, .slice x1.a x1.n x1.c] 25)).cell? ⟨w.heap.size + 1 + 1, 3, none⟩ = some (.slice none 0 0) := (ca_other k2_3)
    go_wp2_with fail
    refine (divS_v b x1 N _ _ ((unhide HI).later (below_on (unhide HB) ((Below.refl _ _).alloc (by simp) _))) ((unhide G1).later ((Below.refl _ _).alloc (by simp) _)) (unhide KG).2 (unhide KN) (unhide KG).1).mono ?_
    rintro e w3 ⟨y1, y2, rfl, hb, i1, i2⟩
    clear k0_0u k1_0u k0_1u k1_1u k2_0u k2_1u k2_2u k2_3u
    rw [quot_g N D N (unhide HD)] at i1
    have s3 : w2.heap.size ≤ w3.heap.size := by have := hb.size; simp at this; omega
    replace i1 : Ow w2.heap.size w3.heap.size w3 y1 (sU (decide (N < 0)) (lowU N D)) := i1.wide (by simp) (Nat.le_refl _)
    have hbx := ba (hb)
    replace z2 := fun o => frozen_later hbx (World.block_lt_of_cell? _ _ k2_0) (z2 o)
    replace k1_0 := cell_later hbx k1_0
    replace k1_1 := cell_later hbx k1_1
    replace k2_0 := cell_later hbx k2_0
    replace k2_1 := cell_later hbx k2_1
    replace k2_2 := cell_later hbx k2_2
    replace k2_3 := cell_later hbx k2_3
    have k3_0 : w3.cell? ⟨w2.heap.size, 0, none⟩ = some (.bool x1.g) := cell_later hb (by simp [go_sem])
    have k3_1 : w3.cell? ⟨w2.heap.size, 1, none⟩ = some (.slice x1.a x1.n x1.c) := cell_later hb (by simp [go_sem])
    clear k0_0 k0_1
    replace G1 := hide ((unhide G1).later hbx)
    have I1 := hide (i1)
    replace HB := hide (below_on (unhide HB) hbx)
    clear hbx hb
    clear i1 i2
    have k1_0u : ((w3.alloc (.cells #[.bool y1.g, .slice y1.a y1.n y1.c] 25)).alloc (.cells #[.bool y2.g, .slice y2.a y2.n y2.c] 25)).cell? ⟨w.heap.size + 1, 0, none⟩ = some (.bool b'.g) := (ca_other (ca_other k1_0))
    have k1_1u : ((w3.alloc (.cells #[.bool y1.g, .slice y1.a y1.n y1.c] 25)).alloc (.cells #[.bool y2.g, .slice y2.a y2.n y2.c] 25)).cell? ⟨w.heap.size + 1, 1, none⟩ = some (.slice b'.a b'.n b'.c) := (ca_other (ca_other k1_1))
    have k2_0u : ((w3.alloc (.cells #[.bool y1.g, .slice y1.a y1.n y1.c] 25)).alloc (.cells #[.bool y2.g, .slice y2.a y2.n y2.c] 25)).cell? ⟨w.heap.size + 1 + 1, 0, none⟩ = some (.bool false) := (ca_other (ca_other k2_0))
    have k2_1u : ((w3.alloc (.cells #[.bool y1.g, .slice y1.a y1.n y1.c] 25)).alloc (.cells #[.bool y2.g, .slice y2.a y2.n y2.c] 25)).cell? ⟨w.heap.size + 1 + 1, 1, none⟩ = some (.slice none 0 0) := (ca_other (ca_other k2_1))
    have k2_2u : ((w3.alloc (.cells #[.bool y1.g, .slice y1.a y1.n y1.c] 25)).alloc (.cells #[.bool y2.g, .slice y2.a y2.n y2.c] 25)).cell? ⟨w.heap.size + 1 + 1, 2, none⟩ = some (.bool false) := (ca_other (ca_other k2_2))
    have k2_3u : ((w3.alloc (.cells #[.bool y1.g, .slice y1.a y1.n y1.c] 25)).alloc (.cells #[.bool y2.g, .slice y2.a y2.n y2.c] 25)).cell? ⟨w.heap.size + 1 + 1, 3, none⟩ = some (.slice none 0 0) := (ca_other (ca_other k2_3))
    have k3_0u : ((w3.alloc (.cells #[.bool y1.g, .slice y1.a y1.n y1.c] 25)).alloc (.cells #[.bool y2.g, .slice y2.a y2.n y2.c] 25)).cell? ⟨w2.heap.size, 0, none⟩ = some (.bool x1.g) := (ca_other (ca_other k3_0))
    have k3_1u : ((w3.alloc (.cells #[.bool y1.g, .slice y1.a y1.n y1.c] 25)).alloc (.cells #[.bool y2.g, .slice y2.a y2.n y2.c] 25)).cell? ⟨w2.heap.size, 1, none⟩ = some (.slice x1.a x1.n x1.c) := (ca_other (ca_other k3_1))
    go_wp2_with fail
    refine (divS_v b' x1 D _ _ ((unhide HI').later (below_on (unhide HB) (((Below.refl _ _).alloc (by simp) _).alloc (by simp) _))) ((unhide G1).later (((Below.refl _ _).alloc (by simp) _).alloc (by simp) _)) (unhide KG).2 (unhide KD) (unhide KG).1).mono ?_
    rintro e w4 ⟨z1, zr, rfl, hb, i3, i4⟩
    clear k1_0u k1_1u k2_0u k2_1u k2_2u k2_3u k3_0u k3_1u
    rw [quot_g N D D (unhide HD)] at i3
    have s4 : w3.heap.size + 1 ≤ w4.heap.size := by have := hb.size; simp at this; omega
    replace i3 : Ow w3.heap.size w4.heap.size w4 z1 (sU (decide (D < 0)) (lowD N D)) := i3.wide (by simp <;> omega) (Nat.le_refl _)
    have hbx := ba (ba (hb))
    replace z2 := fun o => frozen_later hbx (World.block_lt_of_cell? _ _ k2_0) (z2 o)
    replace k2_0 := cell_later hbx k2_0
    replace k2_1 := cell_later hbx k2_1
    replace k2_2 := cell_later hbx k2_2
    replace k2_3 := cell_later hbx k2_3
    have k4_0 : w4.cell? ⟨w3.heap.size, 0, none⟩ = some (.bool y1.g) := cell_later hb (by simp [go_sem])
    have k4_1 : w4.cell? ⟨w3.heap.size, 1, none⟩ = some (.slice y1.a y1.n y1.c) := cell_later hb (by simp [go_sem])
    clear k1_0 k1_1 k3_0 k3_1
    replace G1 := hide ((unhide G1).later hbx)
    replace I1 := hide ((unhide I1).later hbx)
    have I3 := hide (i3)
    replace HB := hide (below_on (unhide HB) hbx)
    clear hbx hb
    clear i3 i4
    clear G1
    have hz : z1.g = false := by
      obtain ⟨us, h1, h2⟩ := (unhide I3).is
      have h3 := h1.sg
      rw [h3]
      refine decide_eq_false ?_
      have := lowD_pos (N := N) (unhide HD)
      rw [← (low_pos (unhide HD0)).2] at this
      show ¬ sU (decide (D < 0)) (lowD N D) < 0
      omega
    have LN := hide (low_pos (N := N) (unhide HD0))
    obtain ⟨zg, za, zn, zc⟩ := z1
    obtain rfl : zg = false := hz
    go_upto_region 6 with fail
    have hb : Below w4.heap.size w4 ((w4.alloc (.cells #[.bool false, .slice za zn zc] 25)).alloc (.cells #[.bool zr.g, .slice zr.a zr.n zr.c] 25)) := (((Below.refl _ _).alloc (by simp) _).alloc (by simp) _)
    replace k4_0 : ((w4.alloc (.cells #[.bool false, .slice za zn zc] 25)).alloc (.cells #[.bool zr.g, .slice zr.a zr.n zr.c] 25)).cell? ⟨w3.heap.size, 0, none⟩ = some (.bool y1.g) := (ca_other (ca_other k4_0))
    replace k4_1 : ((w4.alloc (.cells #[.bool false, .slice za zn zc] 25)).alloc (.cells #[.bool zr.g, .slice zr.a zr.n zr.c] 25)).cell? ⟨w3.heap.size, 1, none⟩ = some (.slice y1.a y1.n y1.c) := (ca_other (ca_other k4_1))
    have k6_0 : ((w4.alloc (.cells #[.bool false, .slice za zn zc] 25)).alloc (.cells #[.bool zr.g, .slice zr.a zr.n zr.c] 25)).cell? ⟨w4.heap.size, 0, none⟩ = some (.bool false) := by simp [go_sem]
    have k6_1 : ((w4.alloc (.cells #[.bool false, .slice za zn zc] 25)).alloc (.cells #[.bool zr.g, .slice zr.a zr.n zr.c] 25)).cell? ⟨w4.heap.size, 1, none⟩ = some (.slice za zn zc) := by simp [go_sem]
    replace k2_0 : ((w4.alloc (.cells #[.bool false, .slice za zn zc] 25)).alloc (.cells #[.bool zr.g, .slice zr.a zr.n zr.c] 25)).cell? ⟨w.heap.size + 1 + 1, 0, none⟩ = some (.bool false) := (ca_other (ca_other k2_0))
    replace k2_1 : ((w4.alloc (.cells #[.bool false, .slice za zn zc] 25)).alloc (.cells #[.bool zr.g, .slice zr.a zr.n zr.c] 25)).cell? ⟨w.heap.size + 1 + 1, 1, none⟩ = some (.slice none 0 0) := (ca_other (ca_other k2_1))
    replace k2_2 : ((w4.alloc (.cells #[.bool false, .slice za zn zc] 25)).alloc (.cells #[.bool zr.g, .slice zr.a zr.n zr.c] 25)).cell? ⟨w.heap.size + 1 + 1, 2, none⟩ = some (.bool false) := (ca_other (ca_other k2_2))
    replace k2_3 : ((w4.alloc (.cells #[.bool false, .slice za zn zc] 25)).alloc (.cells #[.bool zr.g, .slice zr.a zr.n zr.c] 25)).cell? ⟨w.heap.size + 1 + 1, 3, none⟩ = some (.slice none 0 0) := (ca_other (ca_other k2_3))
    replace z2 : ∀ o, ((w4.alloc (.cells #[.bool false, .slice za zn zc] 25)).alloc (.cells #[.bool zr.g, .slice zr.a zr.n zr.c] 25)).frozen? ⟨w.heap.size + 1 + 1, o, none⟩ = false := fun o => frozen_later hb (by omega) (z2 o)
    replace I1 := hide ((unhide I1).later hb)
    replace I3 := hide ((unhide I3).later hb)
    replace HB := hide (below_on (unhide HB) hb)
    have szw5 := hb.size
    clear hb
    generalize ((w4.alloc (.cells #[.bool false, .slice za zn zc] 25)).alloc (.cells #[.bool zr.g, .slice zr.a zr.n zr.c] 25)) = w5 at *
    have P3 : Hid (Ow (w.heap.size + 1 + 1 + 1) w5.heap.size w5 y1 (lowN N D) ∧ Ow (w.heap.size + 1 + 1 + 1) w5.heap.size w5 ⟨false, za, zn, zc⟩ (lowD N D)) := hide ⟨by rw [← (unhide LN).1]; exact (unhide I1).wide (by omega) (by omega), by rw [← (unhide LN).2]; exact (unhide I3).wide (by omega) (by omega)⟩
    go_wp2
    refine bodyPost_ret (v := .agg #[.bool y1.g, .slice y1.a y1.n y1.c, .bool false, .slice za zn zc]) (by simp [results, Tryz.results54, go_sem, k2_0, k2_1, k2_2, k2_3]) rfl ?_
    exact outQv_fin (q := ⟨y1, ⟨false, za, zn, zc⟩⟩) (R := w.heap.size + 1 + 1) (by omega) (unhide HB) (metQ_but (w5 := w5) (v := ⟨y1, ⟨false, za, zn, zc⟩⟩) (G := w.heap.size + 1 + 1)) (unhide P3).1 (unhide P3).2
end Go.Proofs.YtdgonpbponnnaaaGreatDoor
