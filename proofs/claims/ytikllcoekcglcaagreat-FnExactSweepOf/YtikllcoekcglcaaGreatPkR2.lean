/- Points of fractions by value, in memory of a call's own. No condition beyond those typed. -/
import Derived.Test.YtikllcoekcglcaaGreatMake2
import Derived.Test.YtikllcoekcglcaaGreatPkR1
namespace Go.Proofs.YtikllcoekcglcaaGreat
open Go.RowKit
set_option linter.unusedVariables false
set_option maxRecDepth 100000
set_option linter.unusedSimpArgs false


set_option maxHeartbeats 4000000 in
theorem lowS2 (b b' : BV) (N D : Int) (w : World) (h : IsB w b N) (h' : IsB w b' D) (hD : D ≠ 0) (k : Bd N 400000) (k' : Bd D 400000) :
    Calls Tryz.prog 184 #[.agg #[.bool b.g, .slice b.a b.n b.c], .agg #[.bool b'.g, .slice b'.a b'.n b'.c]] w (OutQ w (lowN N D) (lowD N D)) := by
  by_cases hD0 : D < 0
  · have HI := hide h
    have HI' := hide h'
    obtain ⟨xs, hx, _, hl, nx, sx⟩ := h.num k (by omega)
    obtain ⟨ys, hy, _, hl', ny, sy⟩ := h'.num k' (by omega)
    have hm : 1 ≤ b'.n := by have := h'.zero_iff; omega
    have HX := hide hx.arg
    have HY := hide hy.arg
    have EN : Hid ((val xs).toNat = N.natAbs ∧ (val ys).toNat = D.natAbs) := hide ⟨by rw [nx.v]; simp, by rw [ny.v]; simp⟩
    have KD := hide k'
    have KN := hide k
    have NX := hide nx
    have NY := hide ny
    have HD := hide hD
    have HD0 := hide hD0
    clear hD0
    have KG : Hid (Bd ((Nat.gcd N.natAbs D.natAbs : Nat) : Int) 400000 ∧ ((Nat.gcd N.natAbs D.natAbs : Nat) : Int) ≠ 0) := hide ⟨k'.le (by have := Nat.le_of_dvd (show 0 < D.natAbs by omega) (Nat.gcd_dvd_right N.natAbs D.natAbs); simp; omega), by have := gcd_pos_right (N := N) hD; omega⟩
    clear h h' hx hy nx ny sx sy k k' hD
    have B0 := hide (show Below w.heap.size w (((w.alloc (.cells #[.bool b.g, .slice b.a b.n b.c] 26)).alloc (.cells #[.bool b'.g, .slice b'.a b'.n b'.c] 26)).alloc (.cells #[.bool false, .slice none 0 0, .bool false, .slice none 0 0] 28)) from ((((Below.refl _ _).alloc (by simp) _).alloc (by simp) _).alloc (by simp <;> omega) _))
    go_enter Tryz.func184, Tryz.ntmps184
    go_wp2_with fail
    refine (gcdS_any b.a b'.a b.n b'.n b.c b'.c xs ys _ ((unhide HX).later (unhide B0)) ((unhide HY).later (unhide B0)) (unhide NX).ok (unhide NX).tr (unhide NY).ok (unhide NY).tr (by omega) (by omega)).mono ?_
    rintro e w1 ⟨a1, n1, c1, gs, rfl, hb, ho1, ha1, hn1⟩
    rw [(unhide EN).1, (unhide EN).2] at hn1
    obtain ⟨g1, g2⟩ := gcd_len hn1 ha1.len (unhide HD) (unhide KD)
    have N1 := hide hn1
    have s1 : w.heap.size + 3 ≤ w1.heap.size := by have := hb.size; simp at this; omega
    have k0_0 : w1.cell? ⟨w.heap.size, 0, none⟩ = some (.bool b.g) := cell_later hb (by simp [go_sem])
    have k1_0 : w1.cell? ⟨w.heap.size + 1, 0, none⟩ = some (.bool b'.g) := cell_later hb (by simp [go_sem])
    have k0_1 : w1.cell? ⟨w.heap.size, 1, none⟩ = some (.slice b.a b.n b.c) := cell_later hb (by simp [go_sem])
    have k1_1 : w1.cell? ⟨w.heap.size + 1, 1, none⟩ = some (.slice b'.a b'.n b'.c) := cell_later hb (by simp [go_sem])
    have k2_0 : w1.cell? ⟨w.heap.size + 1 + 1, 0, none⟩ = some (.bool false) := cell_later hb (by simp [go_sem])
    have k2_1 : w1.cell? ⟨w.heap.size + 1 + 1, 1, none⟩ = some (.slice none 0 0) := cell_later hb (by simp [go_sem])
    have k2_2 : w1.cell? ⟨w.heap.size + 1 + 1, 2, none⟩ = some (.bool false) := cell_later hb (by simp [go_sem])
    have k2_3 : w1.cell? ⟨w.heap.size + 1 + 1, 3, none⟩ = some (.slice none 0 0) := cell_later hb (by simp [go_sem])
    have z2 : ∀ o, w1.frozen? ⟨w.heap.size + 1 + 1, o, none⟩ = false := fun o => frozen_later hb (by simp) (by simp [go_sem])
    have A1 := hide (ha1)
    have HB := hide (below_on (unhide B0) hb)
    clear hb
    clear ho1 ha1 hn1
    go_wp2_with fail
    refine (makeS_v false a1 n1 c1 gs _ _ (unhide A1) (unhide N1) (by omega)).mono ?_
    rintro e w2 ⟨x1, rfl, hb, ow, ar⟩
    have s2 := hb.size
    replace z2 := fun o => frozen_later hb (World.block_lt_of_cell? _ _ k2_0) (z2 o)
    replace k0_0 := cell_later hb k0_0
    replace k1_0 := cell_later hb k1_0
    replace k0_1 := cell_later hb k0_1
    replace k1_1 := cell_later hb k1_1
    replace k2_0 := cell_later hb k2_0
    replace k2_1 := cell_later hb k2_1
    replace k2_2 := cell_later hb k2_2
    replace k2_3 := cell_later hb k2_3
    replace A1 := hide ((unhide A1).later hb)
    have G1 := hide (isB_of_out (V := ((Nat.gcd N.natAbs D.natAbs : Nat) : Int)) ar (by rw [Int.natAbs_natCast]; exact unhide N1))
    replace HB := hide (below_on (unhide HB) hb)
    clear hb
    clear ow ar
    clear A1
    have k0_0u : (w2.alloc (.cells #[.bool x1.g, .slice x1.a x1.n x1.c] 26)).cell? ⟨w.heap.size, 0, none⟩ = some (.bool b.g) := (ca_other k0_0)
    have k1_0u : (w2.alloc (.cells #[.bool x1.g, .slice x1.a x1.n x1.c] 26)).cell? ⟨w.heap.size + 1, 0, none⟩ = some (.bool b'.g) := (ca_other k1_0)
    have k0_1u : (w2.alloc (.cells #[.bool x1.g, .slice x1.a x1.n x1.c] 26)).cell? ⟨w.heap.size, 1, none⟩ = some (.slice b.a b.n b.c) := (ca_other k0_1)
    have k1_1u : (w2.alloc (.cells #[.bool x1.g, .slice x1.a x1.n x1.c] 26)).cell? ⟨w.heap.size + 1, 1, none⟩ = some (.slice b'.a b'.n b'.c) := (ca_other k1_1)
    have k2_0u : (w2.alloc (.cells #[.bool x1.g, .slice x1.a x1.n x1.c] 26)).cell? ⟨w.heap.size + 1 + 1, 0, none⟩ = some (.bool false) := (ca_other k2_0)
    have k2_1u : (w2.alloc (.cells #[.bool x1.g, .slice x1.a x1.n x1.c] 26)).cell? ⟨w.heap.size + 1 + 1, 1, none⟩ = some (.slice none 0 0) := (ca_other k2_1)
    have k2_2u : (w2.alloc (.cells #[.bool x1.g, .slice x1.a x1.n x1.c] 26)).cell? ⟨w.heap.size + 1 + 1, 2, none⟩ = some (.bool false) := (ca_other k2_2)
    have k2_3u : (w2.alloc (.cells #[.bool x1.g, .slice x1.a x1.n x1.c] 26)).cell? ⟨w.heap.size + 1 + 1, 3, none⟩ = some (.slice none 0 0) := (ca_other k2_3)
    go_wp2_with fail
    refine (divS_v b x1 N _ _ ((unhide HI).later (below_on (unhide HB) ((Below.refl _ _).alloc (by simp) _))) ((unhide G1).later ((Below.refl _ _).alloc (by simp) _)) (unhide KG).2 (unhide KN) (unhide KG).1).mono ?_
    rintro e w3 ⟨y1, y2, rfl, hb, i1, i2⟩
    clear k0_0u k1_0u k0_1u k1_1u k2_0u k2_1u k2_2u k2_3u
    rw [quot_g N D N (unhide HD)] at i1
    have s3 : w2.heap.size ≤ w3.heap.size := by have := hb.size; simp at this; omega
    replace i1 : Ow w2.heap.size w3.heap.size w3 y1 (sU (decide (N < 0)) (lowU N D)) := i1.wide (by simp) (Nat.le_refl _)
    have hbx := ba (hb)
    replace z2 := fun o => frozen_later hbx (World.block_lt_of_cell? _ _ k2_0) (z2 o)
    replace k1_0 := cell_later hbx k1_0
    replace k1_1 := cell_later hbx k1_1
    replace k2_0 := cell_later hbx k2_0
    replace k2_1 := cell_later hbx k2_1
    replace k2_2 := cell_later hbx k2_2
    replace k2_3 := cell_later hbx k2_3
    have k3_0 : w3.cell? ⟨w2.heap.size, 0, none⟩ = some (.bool x1.g) := cell_later hb (by simp [go_sem])
    have k3_1 : w3.cell? ⟨w2.heap.size, 1, none⟩ = some (.slice x1.a x1.n x1.c) := cell_later hb (by simp [go_sem])
    clear k0_0 k0_1
    replace G1 := hide ((unhide G1).later hbx)
    have I1 := hide (i1)
    replace HB := hide (below_on (unhide HB) hbx)
    clear hbx hb
    clear i1 i2
    have k1_0u : ((w3.alloc (.cells #[.bool y1.g, .slice y1.a y1.n y1.c] 26)).alloc (.cells #[.bool y2.g, .slice y2.a y2.n y2.c] 26)).cell? ⟨w.heap.size + 1, 0, none⟩ = some (.bool b'.g) := (ca_other (ca_other k1_0))
    have k1_1u : ((w3.alloc (.cells #[.bool y1.g, .slice y1.a y1.n y1.c] 26)).alloc (.cells #[.bool y2.g, .slice y2.a y2.n y2.c] 26)).cell? ⟨w.heap.size + 1, 1, none⟩ = some (.slice b'.a b'.n b'.c) := (ca_other (ca_other k1_1))
    have k2_0u : ((w3.alloc (.cells #[.bool y1.g, .slice y1.a y1.n y1.c] 26)).alloc (.cells #[.bool y2.g, .slice y2.a y2.n y2.c] 26)).cell? ⟨w.heap.size + 1 + 1, 0, none⟩ = some (.bool false) := (ca_other (ca_other k2_0))
    have k2_1u : ((w3.alloc (.cells #[.bool y1.g, .slice y1.a y1.n y1.c] 26)).alloc (.cells #[.bool y2.g, .slice y2.a y2.n y2.c] 26)).cell? ⟨w.heap.size + 1 + 1, 1, none⟩ = some (.slice none 0 0) := (ca_other (ca_other k2_1))
    have k2_2u : ((w3.alloc (.cells #[.bool y1.g, .slice y1.a y1.n y1.c] 26)).alloc (.cells #[.bool y2.g, .slice y2.a y2.n y2.c] 26)).cell? ⟨w.heap.size + 1 + 1, 2, none⟩ = some (.bool false) := (ca_other (ca_other k2_2))
    have k2_3u : ((w3.alloc (.cells #[.bool y1.g, .slice y1.a y1.n y1.c] 26)).alloc (.cells #[.bool y2.g, .slice y2.a y2.n y2.c] 26)).cell? ⟨w.heap.size + 1 + 1, 3, none⟩ = some (.slice none 0 0) := (ca_other (ca_other k2_3))
    have k3_0u : ((w3.alloc (.cells #[.bool y1.g, .slice y1.a y1.n y1.c] 26)).alloc (.cells #[.bool y2.g, .slice y2.a y2.n y2.c] 26)).cell? ⟨w2.heap.size, 0, none⟩ = some (.bool x1.g) := (ca_other (ca_other k3_0))
    have k3_1u : ((w3.alloc (.cells #[.bool y1.g, .slice y1.a y1.n y1.c] 26)).alloc (.cells #[.bool y2.g, .slice y2.a y2.n y2.c] 26)).cell? ⟨w2.heap.size, 1, none⟩ = some (.slice x1.a x1.n x1.c) := (ca_other (ca_other k3_1))
    go_wp2_with fail
    refine (divS_v b' x1 D _ _ ((unhide HI').later (below_on (unhide HB) (((Below.refl _ _).alloc (by simp) _).alloc (by simp) _))) ((unhide G1).later (((Below.refl _ _).alloc (by simp) _).alloc (by simp) _)) (unhide KG).2 (unhide KD) (unhide KG).1).mono ?_
    rintro e w4 ⟨z1, zr, rfl, hb, i3, i4⟩
    clear k1_0u k1_1u k2_0u k2_1u k2_2u k2_3u k3_0u k3_1u
    rw [quot_g N D D (unhide HD)] at i3
    have s4 : w3.heap.size + 1 ≤ w4.heap.size := by have := hb.size; simp at this; omega
    replace i3 : Ow w3.heap.size w4.heap.size w4 z1 (sU (decide (D < 0)) (lowD N D)) := i3.wide (by simp <;> omega) (Nat.le_refl _)
    have hbx := ba (ba (hb))
    replace z2 := fun o => frozen_later hbx (World.block_lt_of_cell? _ _ k2_0) (z2 o)
    replace k2_0 := cell_later hbx k2_0
    replace k2_1 := cell_later hbx k2_1
    replace k2_2 := cell_later hbx k2_2
    replace k2_3 := cell_later hbx k2_3
    have k4_0 : w4.cell? ⟨w3.heap.size, 0, none⟩ = some (.bool y1.g) := cell_later hb (by simp [go_sem])
    have k4_1 : w4.cell? ⟨w3.heap.size, 1, none⟩ = some (.slice y1.a y1.n y1.c) := cell_later hb (by simp [go_sem])
    clear k1_0 k1_1 k3_0 k3_1
    replace G1 := hide ((unhide G1).later hbx)
    replace I1 := hide ((unhide I1).later hbx)
    have I3 := hide (i3)
    replace HB := hide (below_on (unhide HB) hbx)
    clear hbx hb
    clear i3 i4
    clear G1
    have hz : z1.g = true := by
      obtain ⟨us, h1, h2⟩ := (unhide I3).is
      have h3 := h1.sg
      rw [h3]
      refine decide_eq_true ?_
      have := lowD_pos (N := N) (unhide HD)
      rw [← (low_neg (unhide HD0)).2] at this
      show sU (decide (D < 0)) (lowD N D) < 0
      omega
    have BD : Hid (Bd (sU (decide (N < 0)) (lowU N D)) 400000 ∧ Bd (sU (decide (D < 0)) (lowD N D)) 400000) := hide ⟨(unhide KN).le (by have := sU_abs (g := decide (N < 0)) (lowU_nonneg N D); have := lowU_le N D; omega), (unhide KD).le (by have := sU_abs (g := decide (D < 0)) (lowD_nonneg N D); have := lowD_le N D; omega)⟩
    have LN := hide (low_neg (N := N) (unhide HD0))
    obtain ⟨zg, za, zn, zc⟩ := z1
    obtain rfl : zg = true := hz
    go_upto_region 5 with fail
    have hb : Below w4.heap.size w4 ((w4.alloc (.cells #[.bool true, .slice za zn zc] 26)).alloc (.cells #[.bool zr.g, .slice zr.a zr.n zr.c] 26)) := (((Below.refl _ _).alloc (by simp) _).alloc (by simp) _)
    replace k4_0 : ((w4.alloc (.cells #[.bool true, .slice za zn zc] 26)).alloc (.cells #[.bool zr.g, .slice zr.a zr.n zr.c] 26)).cell? ⟨w3.heap.size, 0, none⟩ = some (.bool y1.g) := (ca_other (ca_other k4_0))
    replace k4_1 : ((w4.alloc (.cells #[.bool true, .slice za zn zc] 26)).alloc (.cells #[.bool zr.g, .slice zr.a zr.n zr.c] 26)).cell? ⟨w3.heap.size, 1, none⟩ = some (.slice y1.a y1.n y1.c) := (ca_other (ca_other k4_1))
    have k6_0 : ((w4.alloc (.cells #[.bool true, .slice za zn zc] 26)).alloc (.cells #[.bool zr.g, .slice zr.a zr.n zr.c] 26)).cell? ⟨w4.heap.size, 0, none⟩ = some (.bool true) := by simp [go_sem]
    have k6_1 : ((w4.alloc (.cells #[.bool true, .slice za zn zc] 26)).alloc (.cells #[.bool zr.g, .slice zr.a zr.n zr.c] 26)).cell? ⟨w4.heap.size, 1, none⟩ = some (.slice za zn zc) := by simp [go_sem]
    replace k2_0 : ((w4.alloc (.cells #[.bool true, .slice za zn zc] 26)).alloc (.cells #[.bool zr.g, .slice zr.a zr.n zr.c] 26)).cell? ⟨w.heap.size + 1 + 1, 0, none⟩ = some (.bool false) := (ca_other (ca_other k2_0))
    replace k2_1 : ((w4.alloc (.cells #[.bool true, .slice za zn zc] 26)).alloc (.cells #[.bool zr.g, .slice zr.a zr.n zr.c] 26)).cell? ⟨w.heap.size + 1 + 1, 1, none⟩ = some (.slice none 0 0) := (ca_other (ca_other k2_1))
    replace k2_2 : ((w4.alloc (.cells #[.bool true, .slice za zn zc] 26)).alloc (.cells #[.bool zr.g, .slice zr.a zr.n zr.c] 26)).cell? ⟨w.heap.size + 1 + 1, 2, none⟩ = some (.bool false) := (ca_other (ca_other k2_2))
    replace k2_3 : ((w4.alloc (.cells #[.bool true, .slice za zn zc] 26)).alloc (.cells #[.bool zr.g, .slice zr.a zr.n zr.c] 26)).cell? ⟨w.heap.size + 1 + 1, 3, none⟩ = some (.slice none 0 0) := (ca_other (ca_other k2_3))
    replace z2 : ∀ o, ((w4.alloc (.cells #[.bool true, .slice za zn zc] 26)).alloc (.cells #[.bool zr.g, .slice zr.a zr.n zr.c] 26)).frozen? ⟨w.heap.size + 1 + 1, o, none⟩ = false := fun o => frozen_later hb (by omega) (z2 o)
    replace I1 := hide ((unhide I1).later hb)
    replace I3 := hide ((unhide I3).later hb)
    replace HB := hide (below_on (unhide HB) hb)
    have szw5 := hb.size
    clear hb
    generalize ((w4.alloc (.cells #[.bool true, .slice za zn zc] 26)).alloc (.cells #[.bool zr.g, .slice zr.a zr.n zr.c] 26)) = w5 at *
    have ne4_2 : w3.heap.size ≠ w.heap.size + 1 + 1 := by omega
    have ne6_2 : w4.heap.size ≠ w.heap.size + 1 + 1 := by omega
    go_region_held3 (fun w' => w'.cell? ⟨w3.heap.size, 0, none⟩ = some (.bool y1.g) ∧ w'.cell? ⟨w3.heap.size, 1, none⟩ = some (.slice y1.a y1.n y1.c) ∧ w'.cell? ⟨w4.heap.size, 0, none⟩ = some (.bool true) ∧ w'.cell? ⟨w4.heap.size, 1, none⟩ = some (.slice za zn zc)) (with_reducible (first | exact ⟨k4_0, k4_1, k6_0, k6_1⟩ | exact ⟨cd_other k4_0, cd_other k4_1, cd_other k6_0, cd_other k6_1⟩ | exact ⟨cs_other (cs_other (cs_other (cs_other (k4_0) ne4_2) ne4_2) ne4_2) ne4_2, cs_other (cs_other (cs_other (cs_other (k4_1) ne4_2) ne4_2) ne4_2) ne4_2, cs_other (cs_other (cs_other (cs_other (k6_0) ne6_2) ne6_2) ne6_2) ne6_2, cs_other (cs_other (cs_other (cs_other (k6_1) ne6_2) ne6_2) ne6_2) ne6_2⟩ | fail))
      (first
      | (go_at_call_of 245 (Value.agg #[Value.bool y1.g, Value.slice y1.a y1.n y1.c]); refine (negS_v y1 _ _ ?_ (unhide BD).1).mono ?_; exact (unhide I1).is.later (Below.refl _ _).drew; rintro e w6 ⟨u1, as1, rfl, hb, ow1, ar1, nn1⟩; have hbx : Below w5.heap.size w5 w6 := below_of_drew hb; have szw6 := hbx.size; replace z2 := fun o => frozen_later hbx (World.block_lt_of_cell? _ _ k2_0) (z2 o); replace k2_0 := cell_later hbx k2_0; replace k2_1 := cell_later hbx k2_1; replace k2_2 := cell_later hbx k2_2; replace k2_3 := cell_later hbx k2_3; replace k4_0 := cell_later hbx k4_0; replace k4_1 := cell_later hbx k4_1; replace k6_0 := cell_later hbx k6_0; replace k6_1 := cell_later hbx k6_1; replace I1 := hide ((unhide I1).later hbx); replace I3 := hide ((unhide I3).later hbx); have P1 := hide (outN_ow ow1 ar1 nn1); have HBr := hide hbx; clear hbx hb ow1 ar1 nn1)
      | (go_at_call_of 245 (Value.agg #[Value.bool true, Value.slice za zn zc]); refine (negS_v ⟨true, za, zn, zc⟩ _ _ ?_ (unhide BD).2).mono ?_; exact (unhide I3).is.later (Below.refl _ _); rintro e w7 ⟨u2, bs1, rfl, hb, ow2, ar2, nn2⟩; have hbx : Below w6.heap.size w6 w7 := hb; have szw7 := hbx.size; replace z2 := fun o => frozen_later hbx (World.block_lt_of_cell? _ _ k2_0) (z2 o); replace k2_0 := cell_later hbx k2_0; replace k2_1 := cell_later hbx k2_1; replace k2_2 := cell_later hbx k2_2; replace k2_3 := cell_later hbx k2_3; replace k4_0 := cell_later hbx k4_0; replace k4_1 := cell_later hbx k4_1; replace k6_0 := cell_later hbx k6_0; replace k6_1 := cell_later hbx k6_1; replace I1 := hide ((unhide I1).later hbx); replace I3 := hide ((unhide I3).later hbx); replace P1 := hide ((unhide P1).later hbx); have P2 := hide (outN_ow ow2 ar2 nn2); have HBr := hide (below_on (unhide HBr) hbx); clear hbx hb ow2 ar2 nn2))
    replace HB := hide (below_on (unhide HB) (unhide HBr))
    clear HBr
    have P3 : Hid (∃ zs us, AllOwn (w.heap.size + 1 + 1 + 1) w7.heap.size w7 [(u1, ⟨decide (lowN N D < 0), zs⟩), (u2, ⟨decide (lowD N D < 0), us⟩)] ∧ AllAr w7 [(u1, ⟨decide (lowN N D < 0), zs⟩), (u2, ⟨decide (lowD N D < 0), us⟩)] ∧ Nm zs (lowN N D).natAbs ∧ Nm us (lowD N D).natAbs) := hide (by
      have a : Ow w5.heap.size w6.heap.size w7 u1 (lowN N D) := by rw [← (unhide LN).1]; exact unhide P1
      have b : Ow w6.heap.size w7.heap.size w7 u2 (lowD N D) := by rw [← (unhide LN).2]; exact unhide P2
      obtain ⟨zs, us, o1, o2, o3, o4⟩ := a.two b (by omega) (by omega)
      exact ⟨zs, us, o1.wide (by omega) (by omega), o2, o3, o4⟩)
    go_wp2
    refine bodyPost_ret (v := .agg #[.bool u1.g, .slice u1.a u1.n u1.c, .bool u2.g, .slice u2.a u2.n u2.c]) (by simp [results, Tryz.results184, go_sem, k2_0, k2_1, k2_2, k2_3]) rfl ?_
    obtain ⟨zs, us, o1, o2, o3, o4⟩ := unhide P3
    exact outQ_fin (q := ⟨u1, u2⟩) (R := w.heap.size + 1 + 1) (by omega) (unhide HB) (metQ_but (w5 := w7) (v := ⟨u1, u2⟩) (G := w.heap.size + 1 + 1)) o1 o2 o3 o4
  · have HI := hide h
    have HI' := hide h'
    obtain ⟨xs, hx, _, hl, nx, sx⟩ := h.num k (by omega)
    obtain ⟨ys, hy, _, hl', ny, sy⟩ := h'.num k' (by omega)
    have hm : 1 ≤ b'.n := by have := h'.zero_iff; omega
    have HX := hide hx.arg
    have HY := hide hy.arg
    have EN : Hid ((val xs).toNat = N.natAbs ∧ (val ys).toNat = D.natAbs) := hide ⟨by rw [nx.v]; simp, by rw [ny.v]; simp⟩
    have KD := hide k'
    have KN := hide k
    have NX := hide nx
    have NY := hide ny
    have HD := hide hD
    have HD0 := hide (show 0 ≤ D by omega)
    clear hD0
    have KG : Hid (Bd ((Nat.gcd N.natAbs D.natAbs : Nat) : Int) 400000 ∧ ((Nat.gcd N.natAbs D.natAbs : Nat) : Int) ≠ 0) := hide ⟨k'.le (by have := Nat.le_of_dvd (show 0 < D.natAbs by omega) (Nat.gcd_dvd_right N.natAbs D.natAbs); simp; omega), by have := gcd_pos_right (N := N) hD; omega⟩
    clear h h' hx hy nx ny sx sy k k' hD
    have B0 := hide (show Below w.heap.size w (((w.alloc (.cells #[.bool b.g, .slice b.a b.n b.c] 26)).alloc (.cells #[.bool b'.g, .slice b'.a b'.n b'.c] 26)).alloc (.cells #[.bool false, .slice none 0 0, .bool false, .slice none 0 0] 28)) from ((((Below.refl _ _).alloc (by simp) _).alloc (by simp) _).alloc (by simp <;> omega) _))
    go_enter Tryz.func184, Tryz.ntmps184
    go_wp2_with fail
    refine (gcdS_any b.a b'.a b.n b'.n b.c b'.c xs ys _ ((unhide HX).later (unhide B0)) ((unhide HY).later (unhide B0)) (unhide NX).ok (unhide NX).tr (unhide NY).ok (unhide NY).tr (by omega) (by omega)).mono ?_
    rintro e w1 ⟨a1, n1, c1, gs, rfl, hb, ho1, ha1, hn1⟩
    rw [(unhide EN).1, (unhide EN).2] at hn1
    obtain ⟨g1, g2⟩ := gcd_len hn1 ha1.len (unhide HD) (unhide KD)
    have N1 := hide hn1
    have s1 : w.heap.size + 3 ≤ w1.heap.size := by have := hb.size; simp at this; omega
    have k0_0 : w1.cell? ⟨w.heap.size, 0, none⟩ = some (.bool b.g) := cell_later hb (by simp [go_sem])
    have k1_0 : w1.cell? ⟨w.heap.size + 1, 0, none⟩ = some (.bool b'.g) := cell_later hb (by simp [go_sem])
    have k0_1 : w1.cell? ⟨w.heap.size, 1, none⟩ = some (.slice b.a b.n b.c) := cell_later hb (by simp [go_sem])
    have k1_1 : w1.cell? ⟨w.heap.size + 1, 1, none⟩ = some (.slice b'.a b'.n b'.c) := cell_later hb (by simp [go_sem])
    have k2_0 : w1.cell? ⟨w.heap.size + 1 + 1, 0, none⟩ = some (.bool false) := cell_later hb (by simp [go_sem])
    have k2_1 : w1.cell? ⟨w.heap.size + 1 + 1, 1, none⟩ = some (.slice none 0 0) := cell_later hb (by simp [go_sem])
    have k2_2 : w1.cell? ⟨w.heap.size + 1 + 1, 2, none⟩ = some (.bool false) := cell_later hb (by simp [go_sem])
    have k2_3 : w1.cell? ⟨w.heap.size + 1 + 1, 3, none⟩ = some (.slice none 0 0) := cell_later hb (by simp [go_sem])
    have z2 : ∀ o, w1.frozen? ⟨w.heap.size + 1 + 1, o, none⟩ = false := fun o => frozen_later hb (by simp) (by simp [go_sem])
    have A1 := hide (ha1)
    have HB := hide (below_on (unhide B0) hb)
    clear hb
    clear ho1 ha1 hn1
    go_wp2_with fail
    refine (makeS_v false a1 n1 c1 gs _ _ (unhide A1) (unhide N1) (by omega)).mono ?_
    rintro e w2 ⟨x1, rfl, hb, ow, ar⟩
    have s2 := hb.size
    replace z2 := fun o => frozen_later hb (World.block_lt_of_cell? _ _ k2_0) (z2 o)
    replace k0_0 := cell_later hb k0_0
    replace k1_0 := cell_later hb k1_0
    replace k0_1 := cell_later hb k0_1
    replace k1_1 := cell_later hb k1_1
    replace k2_0 := cell_later hb k2_0
    replace k2_1 := cell_later hb k2_1
    replace k2_2 := cell_later hb k2_2
    replace k2_3 := cell_later hb k2_3
    replace A1 := hide ((unhide A1).later hb)
    have G1 := hide (isB_of_out (V := ((Nat.gcd N.natAbs D.natAbs : Nat) : Int)) ar (by rw [Int.natAbs_natCast]; exact unhide N1))
    replace HB := hide (below_on (unhide HB) hb)
    clear hb
    clear ow ar
    clear A1
    have k0_0u : (w2.alloc (.cells #[.bool x1.g, .slice x1.a x1.n x1.c] 26)).cell? ⟨w.heap.size, 0, none⟩ = some (.bool b.g) := (ca_other k0_0)
    have k1_0u : (w2.alloc (.cells #[.bool x1.g, .slice x1.a x1.n x1.c] 26)).cell? ⟨w.heap.size + 1, 0, none⟩ = some (.bool b'.g) := (ca_other k1_0)
    have k0_1u : (w2.alloc (.cells #[.bool x1.g, .slice x1.a x1.n x1.c] 26)).cell? ⟨w.heap.size, 1, none⟩ = some (.slice b.a b.n b.c) := (ca_other k0_1)
    have k1_1u : (w2.alloc (.cells #[.bool x1.g, .slice x1.a x1.n x1.c] 26)).cell? ⟨w.heap.size + 1, 1, none⟩ = some (.slice b'.a b'.n b'.c) := (ca_other k1_1)
    have k2_0u : (w2.alloc (.cells #[.bool x1.g, .slice x1.a x1.n x1.c] 26)).cell? ⟨w.heap.size + 1 + 1, 0, none⟩ = some (.bool false) := (ca_other k2_0)
    have k2_1u : (w2.alloc (.cells #[.bool x1.g, .slice x1.a x1.n x1.c] 26)).cell? ⟨w.heap.size + 1 + 1, 1, none⟩ = some (.slice none 0 0) := (ca_other k2_1)
    have k2_2u : (w2.alloc (.cells #[.bool x1.g, .slice x1.a x1.n x1.c] 26)).cell? ⟨w.heap.size + 1 + 1, 2, none⟩ = some (.bool false) := (ca_other k2_2)
    have k2_3u : (w2.alloc (.cells #[.bool x1.g, .slice x1.a x1.n x1.c] 26)).cell? ⟨w.heap.size + 1 + 1, 3, none⟩ = some (.slice none 0 0) := (ca_other k2_3)
    go_wp2_with fail
    refine (divS_v b x1 N _ _ ((unhide HI).later (below_on (unhide HB) ((Below.refl _ _).alloc (by simp) _))) ((unhide G1).later ((Below.refl _ _).alloc (by simp) _)) (unhide KG).2 (unhide KN) (unhide KG).1).mono ?_
    rintro e w3 ⟨y1, y2, rfl, hb, i1, i2⟩
    clear k0_0u k1_0u k0_1u k1_1u k2_0u k2_1u k2_2u k2_3u
    rw [quot_g N D N (unhide HD)] at i1
    have s3 : w2.heap.size ≤ w3.heap.size := by have := hb.size; simp at this; omega
    replace i1 : Ow w2.heap.size w3.heap.size w3 y1 (sU (decide (N < 0)) (lowU N D)) := i1.wide (by simp) (Nat.le_refl _)
    have hbx := ba (hb)
    replace z2 := fun o => frozen_later hbx (World.block_lt_of_cell? _ _ k2_0) (z2 o)
    replace k1_0 := cell_later hbx k1_0
    replace k1_1 := cell_later hbx k1_1
    replace k2_0 := cell_later hbx k2_0
    replace k2_1 := cell_later hbx k2_1
    replace k2_2 := cell_later hbx k2_2
    replace k2_3 := cell_later hbx k2_3
    have k3_0 : w3.cell? ⟨w2.heap.size, 0, none⟩ = some (.bool x1.g) := cell_later hb (by simp [go_sem])
    have k3_1 : w3.cell? ⟨w2.heap.size, 1, none⟩ = some (.slice x1.a x1.n x1.c) := cell_later hb (by simp [go_sem])
    clear k0_0 k0_1
    replace G1 := hide ((unhide G1).later hbx)
    have I1 := hide (i1)
    replace HB := hide (below_on (unhide HB) hbx)
    clear hbx hb
    clear i1 i2
    have k1_0u : ((w3.alloc (.cells #[.bool y1.g, .slice y1.a y1.n y1.c] 26)).alloc (.cells #[.bool y2.g, .slice y2.a y2.n y2.c] 26)).cell? ⟨w.heap.size + 1, 0, none⟩ = some (.bool b'.g) := (ca_other (ca_other k1_0))
    have k1_1u : ((w3.alloc (.cells #[.bool y1.g, .slice y1.a y1.n y1.c] 26)).alloc (.cells #[.bool y2.g, .slice y2.a y2.n y2.c] 26)).cell? ⟨w.heap.size + 1, 1, none⟩ = some (.slice b'.a b'.n b'.c) := (ca_other (ca_other k1_1))
    have k2_0u : ((w3.alloc (.cells #[.bool y1.g, .slice y1.a y1.n y1.c] 26)).alloc (.cells #[.bool y2.g, .slice y2.a y2.n y2.c] 26)).cell? ⟨w.heap.size + 1 + 1, 0, none⟩ = some (.bool false) := (ca_other (ca_other k2_0))
    have k2_1u : ((w3.alloc (.cells #[.bool y1.g, .slice y1.a y1.n y1.c] 26)).alloc (.cells #[.bool y2.g, .slice y2.a y2.n y2.c] 26)).cell? ⟨w.heap.size + 1 + 1, 1, none⟩ = some (.slice none 0 0) := (ca_other (ca_other k2_1))
    have k2_2u : ((w3.alloc (.cells #[.bool y1.g, .slice y1.a y1.n y1.c] 26)).alloc (.cells #[.bool y2.g, .slice y2.a y2.n y2.c] 26)).cell? ⟨w.heap.size + 1 + 1, 2, none⟩ = some (.bool false) := (ca_other (ca_other k2_2))
    have k2_3u : ((w3.alloc (.cells #[.bool y1.g, .slice y1.a y1.n y1.c] 26)).alloc (.cells #[.bool y2.g, .slice y2.a y2.n y2.c] 26)).cell? ⟨w.heap.size + 1 + 1, 3, none⟩ = some (.slice none 0 0) := (ca_other (ca_other k2_3))
    have k3_0u : ((w3.alloc (.cells #[.bool y1.g, .slice y1.a y1.n y1.c] 26)).alloc (.cells #[.bool y2.g, .slice y2.a y2.n y2.c] 26)).cell? ⟨w2.heap.size, 0, none⟩ = some (.bool x1.g) := (ca_other (ca_other k3_0))
    have k3_1u : ((w3.alloc (.cells #[.bool y1.g, .slice y1.a y1.n y1.c] 26)).alloc (.cells #[.bool y2.g, .slice y2.a y2.n y2.c] 26)).cell? ⟨w2.heap.size, 1, none⟩ = some (.slice x1.a x1.n x1.c) := (ca_other (ca_other k3_1))
    go_wp2_with fail
    refine (divS_v b' x1 D _ _ ((unhide HI').later (below_on (unhide HB) (((Below.refl _ _).alloc (by simp) _).alloc (by simp) _))) ((unhide G1).later (((Below.refl _ _).alloc (by simp) _).alloc (by simp) _)) (unhide KG).2 (unhide KD) (unhide KG).1).mono ?_
    rintro e w4 ⟨z1, zr, rfl, hb, i3, i4⟩
    clear k1_0u k1_1u k2_0u k2_1u k2_2u k2_3u k3_0u k3_1u
    rw [quot_g N D D (unhide HD)] at i3
    have s4 : w3.heap.size + 1 ≤ w4.heap.size := by have := hb.size; simp at this; omega
    replace i3 : Ow w3.heap.size w4.heap.size w4 z1 (sU (decide (D < 0)) (lowD N D)) := i3.wide (by simp <;> omega) (Nat.le_refl _)
    have hbx := ba (ba (hb))
    replace z2 := fun o => frozen_later hbx (World.block_lt_of_cell? _ _ k2_0) (z2 o)
    replace k2_0 := cell_later hbx k2_0
    replace k2_1 := cell_later hbx k2_1
    replace k2_2 := cell_later hbx k2_2
    replace k2_3 := cell_later hbx k2_3
    have k4_0 : w4.cell? ⟨w3.heap.size, 0, none⟩ = some (.bool y1.g) := cell_later hb (by simp [go_sem])
    have k4_1 : w4.cell? ⟨w3.heap.size, 1, none⟩ = some (.slice y1.a y1.n y1.c) := cell_later hb (by simp [go_sem])
    clear k1_0 k1_1 k3_0 k3_1
    replace G1 := hide ((unhide G1).later hbx)
    replace I1 := hide ((unhide I1).later hbx)
    have I3 := hide (i3)
    replace HB := hide (below_on (unhide HB) hbx)
    clear hbx hb
    clear i3 i4
    clear G1
    have hz : z1.g = false := by
      obtain ⟨us, h1, h2⟩ := (unhide I3).is
      have h3 := h1.sg
      rw [h3]
      refine decide_eq_false ?_
      have := lowD_pos (N := N) (unhide HD)
      rw [← (low_pos (unhide HD0)).2] at this
      show ¬ sU (decide (D < 0)) (lowD N D) < 0
      omega
    have LN := hide (low_pos (N := N) (unhide HD0))
    obtain ⟨zg, za, zn, zc⟩ := z1
    obtain rfl : zg = false := hz
    go_upto_region 6 with fail
    have hb : Below w4.heap.size w4 ((w4.alloc (.cells #[.bool false, .slice za zn zc] 26)).alloc (.cells #[.bool zr.g, .slice zr.a zr.n zr.c] 26)) := (((Below.refl _ _).alloc (by simp) _).alloc (by simp) _)
    replace k4_0 : ((w4.alloc (.cells #[.bool false, .slice za zn zc] 26)).alloc (.cells #[.bool zr.g, .slice zr.a zr.n zr.c] 26)).cell? ⟨w3.heap.size, 0, none⟩ = some (.bool y1.g) := (ca_other (ca_other k4_0))
    replace k4_1 : ((w4.alloc (.cells #[.bool false, .slice za zn zc] 26)).alloc (.cells #[.bool zr.g, .slice zr.a zr.n zr.c] 26)).cell? ⟨w3.heap.size, 1, none⟩ = some (.slice y1.a y1.n y1.c) := (ca_other (ca_other k4_1))
    have k6_0 : ((w4.alloc (.cells #[.bool false, .slice za zn zc] 26)).alloc (.cells #[.bool zr.g, .slice zr.a zr.n zr.c] 26)).cell? ⟨w4.heap.size, 0, none⟩ = some (.bool false) := by simp [go_sem]
    have k6_1 : ((w4.alloc (.cells #[.bool false, .slice za zn zc] 26)).alloc (.cells #[.bool zr.g, .slice zr.a zr.n zr.c] 26)).cell? ⟨w4.heap.size, 1, none⟩ = some (.slice za zn zc) := by simp [go_sem]
    replace k2_0 : ((w4.alloc (.cells #[.bool false, .slice za zn zc] 26)).alloc (.cells #[.bool zr.g, .slice zr.a zr.n zr.c] 26)).cell? ⟨w.heap.size + 1 + 1, 0, none⟩ = some (.bool false) := (ca_other (ca_other k2_0))
    replace k2_1 : ((w4.alloc (.cells #[.bool false, .slice za zn zc] 26)).alloc (.cells #[.bool zr.g, .slice zr.a zr.n zr.c] 26)).cell? ⟨w.heap.size + 1 + 1, 1, none⟩ = some (.slice none 0 0) := (ca_other (ca_other k2_1))
    replace k2_2 : ((w4.alloc (.cells #[.bool false, .slice za zn zc] 26)).alloc (.cells #[.bool zr.g, .slice zr.a zr.n zr.c] 26)).cell? ⟨w.heap.size + 1 + 1, 2, none⟩ = some (.bool false) := (ca_other (ca_other k2_2))
    replace k2_3 : ((w4.alloc (.cells #[.bool false, .slice za zn zc] 26)).alloc (.cells #[.bool zr.g, .slice zr.a zr.n zr.c] 26)).cell? ⟨w.heap.size + 1 + 1, 3, none⟩ = some (.slice none 0 0) := (ca_other (ca_other k2_3))
    replace z2 : ∀ o, ((w4.alloc (.cells #[.bool false, .slice za zn zc] 26)).alloc (.cells #[.bool zr.g, .slice zr.a zr.n zr.c] 26)).frozen? ⟨w.heap.size + 1 + 1, o, none⟩ = false := fun o => frozen_later hb (by omega) (z2 o)
    replace I1 := hide ((unhide I1).later hb)
    replace I3 := hide ((unhide I3).later hb)
    replace HB := hide (below_on (unhide HB) hb)
    have szw5 := hb.size
    clear hb
    generalize ((w4.alloc (.cells #[.bool false, .slice za zn zc] 26)).alloc (.cells #[.bool zr.g, .slice zr.a zr.n zr.c] 26)) = w5 at *
    have P3 : Hid (∃ zs us, AllOwn (w.heap.size + 1 + 1 + 1) w5.heap.size w5 [(y1, ⟨decide (lowN N D < 0), zs⟩), (⟨false, za, zn, zc⟩, ⟨decide (lowD N D < 0), us⟩)] ∧ AllAr w5 [(y1, ⟨decide (lowN N D < 0), zs⟩), (⟨false, za, zn, zc⟩, ⟨decide (lowD N D < 0), us⟩)] ∧ Nm zs (lowN N D).natAbs ∧ Nm us (lowD N D).natAbs) := hide (by
      have a : Ow w2.heap.size w3.heap.size w5 y1 (lowN N D) := by rw [← (unhide LN).1]; exact unhide I1
      have b : Ow w3.heap.size w4.heap.size w5 ⟨false, za, zn, zc⟩ (lowD N D) := by rw [← (unhide LN).2]; exact unhide I3
      obtain ⟨zs, us, o1, o2, o3, o4⟩ := a.two b (by omega) (by omega)
      exact ⟨zs, us, o1.wide (by omega) (by omega), o2, o3, o4⟩)
    go_wp2
    refine bodyPost_ret (v := .agg #[.bool y1.g, .slice y1.a y1.n y1.c, .bool false, .slice za zn zc]) (by simp [results, Tryz.results184, go_sem, k2_0, k2_1, k2_2, k2_3]) rfl ?_
    obtain ⟨zs, us, o1, o2, o3, o4⟩ := unhide P3
    exact outQ_fin (q := ⟨y1, ⟨false, za, zn, zc⟩⟩) (R := w.heap.size + 1 + 1) (by omega) (unhide HB) (metQ_but (w5 := w5) (v := ⟨y1, ⟨false, za, zn, zc⟩⟩) (G := w.heap.size + 1 + 1)) o1 o2 o3 o4
end Go.Proofs.YtikllcoekcglcaaGreat
namespace Go.Proofs.YtikllcoekcglcaaGreat
open Go.RowKit
set_option linter.unusedVariables false
set_option maxRecDepth 100000
set_option linter.unusedSimpArgs false

/-- A rational number's numerator and denominator. -/
def nR (x : Rat) : Int := x.num
def dR (x : Rat) : Int := (x.den : Int)
theorem dR_pos (x : Rat) : 0 < dR x := by have := x.den_nz; show (0 : Int) < (x.den : Int); omega
theorem dR_ne (x : Rat) : dR x ≠ 0 := Int.ne_of_gt (dR_pos x)
theorem nR_low (x : Rat) : Low (nR x) (dR x) := ⟨dR_pos x, by show Nat.gcd x.num.natAbs ((x.den : Int)).natAbs = 1; rw [Int.natAbs_natCast]; exact x.reduced⟩
theorem nR_self (x : Rat) : Rat.divInt (nR x) (dR x) = x := Rat.num_divInt_den x
theorem low_x2 {N D : Int} (h : D ≠ 0) : lowN N D * D = N * lowD N D := by
  rcases Int.lt_or_gt_of_ne h with h0 | h0
  · have e1 := low_neg (N := N) h0
    have e2 := low_cross (N := -N) (D := -D) (by omega)
    have e3 : lowN (-N) (-D) = lowN N D ∧ lowD (-N) (-D) = lowD N D := by
      have l1 := low_low (N := N) h
      have l2 := low_low (N := -N) (D := -D) (by omega)
      have u1 : lowU (-N) (-D) = lowU N D := by unfold lowU; simp
      constructor
      · have a1 := low_pos (N := -N) (D := -D) (by omega)
        have a2 := low_neg (N := N) h0
        rw [← a1.1, ← a2.1, u1]
        unfold sU
        by_cases c : N < 0
        · rw [decide_eq_true c, decide_eq_false (show ¬ (-N < 0) by omega)]; simp
        · by_cases c0 : N = 0
          · subst c0
            have : lowU 0 D = 0 := by unfold lowU; simp
            rw [this]
            simp
          · rw [decide_eq_false c, decide_eq_true (show -N < 0 by omega)]; simp
      · have a1 := low_pos (N := -N) (D := -D) (by omega)
        have a2 := low_neg (N := N) h0
        have v1 : lowD (-N) (-D) = lowD N D := by unfold lowD; simp
        exact v1
    rw [e3.1, e3.2] at e2
    generalize lowN N D = a at *
    generalize lowD N D = b at *
    grind
  · exact low_cross h0
theorem lowR {N D : Int} (h : D ≠ 0) : lowN N D = nR (Rat.divInt N D) ∧ lowD N D = dR (Rat.divInt N D) := by
  have h1 := nR_self (Rat.divInt N D)
  have h2 := (Rat.divInt_eq_divInt_iff (dR_ne _) h).1 h1
  have h3 := low_x2 (N := N) h
  exact (low_low (N := N) h).same (nR_low (Rat.divInt N D)) (by
    generalize nR (Rat.divInt N D) = a at *
    generalize dR (Rat.divInt N D) = b at *
    refine Int.eq_of_mul_eq_mul_right h ?_
    grind)
theorem lowR_is {N D : Int} (h : Low N D) : N = nR (Rat.divInt N D) ∧ D = dR (Rat.divInt N D) := by
  have h1 := lowR (N := N) (Int.ne_of_gt h.pos)
  have h2 := (low_low (N := N) (Int.ne_of_gt h.pos)).same h (low_cross h.pos)
  rw [← h1.1, ← h1.2, h2.1, h2.2]
  exact ⟨rfl, rfl⟩
theorem addR (x y : Rat) : lowN (nR x * dR y + nR y * dR x) (dR x * dR y) = nR (x + y) ∧ lowD (nR x * dR y + nR y * dR x) (dR x * dR y) = dR (x + y) := by
  have h := lowR (N := nR x * dR y + nR y * dR x) (Int.mul_ne_zero (dR_ne x) (dR_ne y))
  rw [← Rat.divInt_add_divInt _ _ (dR_ne x) (dR_ne y), nR_self, nR_self] at h
  exact h
theorem subR (x y : Rat) : lowN (nR x * dR y - nR y * dR x) (dR x * dR y) = nR (x - y) ∧ lowD (nR x * dR y - nR y * dR x) (dR x * dR y) = dR (x - y) := by
  have h := lowR (N := nR x * dR y - nR y * dR x) (Int.mul_ne_zero (dR_ne x) (dR_ne y))
  rw [← Rat.divInt_sub_divInt _ _ (dR_ne x) (dR_ne y), nR_self, nR_self] at h
  exact h
theorem mulR (x y : Rat) : lowN (nR x * nR y) (dR x * dR y) = nR (x * y) ∧ lowD (nR x * nR y) (dR x * dR y) = dR (x * y) := by
  have h := lowR (N := nR x * nR y) (Int.mul_ne_zero (dR_ne x) (dR_ne y))
  rw [← Rat.divInt_mul_divInt, nR_self, nR_self] at h
  exact h
theorem intR (n : Int) : nR (n : Rat) = n ∧ dR (n : Rat) = 1 := ⟨rfl, rfl⟩
/-- A rational number of few limbs. -/
structure BdR (x : Rat) (L : Nat) : Prop where
  n : Bd (nR x) L
  d : Bd (dR x) L
theorem BdR.mono {x : Rat} {L L' : Nat} (h : BdR x L) (k : L ≤ L') : BdR x L' := ⟨h.n.mono k, h.d.mono k⟩
theorem BdR.add {x y : Rat} {L K : Nat} (h : BdR x L) (k : BdR y K) : BdR (x + y) (L + K + 1) := by
  have e := addR x y
  constructor
  · rw [← e.1]
    exact lowN_bd ((((h.n.mul k.d).mono (Nat.le_refl _)).add ((k.n.mul h.d).mono (by omega))))
  · rw [← e.2]
    exact lowD_bd ((h.d.mul k.d).mono (by omega))
theorem BdR.sub {x y : Rat} {L K : Nat} (h : BdR x L) (k : BdR y K) : BdR (x - y) (L + K + 1) := by
  have e := subR x y
  constructor
  · rw [← e.1]
    refine lowN_bd ?_
    rw [Int.sub_eq_add_neg]
    exact ((h.n.mul k.d).mono (Nat.le_refl _)).add (((k.n.mul h.d).neg).mono (by omega))
  · rw [← e.2]
    exact lowD_bd ((h.d.mul k.d).mono (by omega))
theorem BdR.mul {x y : Rat} {L K : Nat} (h : BdR x L) (k : BdR y K) : BdR (x * y) (L + K) := by
  have e := mulR x y
  constructor
  · rw [← e.1]
    exact lowN_bd (h.n.mul k.n)
  · rw [← e.2]
    exact lowD_bd (h.d.mul k.d)
theorem bdR_int {n : Int} (h0 : -1000 ≤ n) (h1 : n ≤ 1000) : BdR (n : Rat) 1 := ⟨⟨by rw [(intR n).1]; omega⟩, ⟨by rw [(intR n).2]; decide⟩⟩
theorem bdR_div {a b : Int} (h0 : -1000 ≤ a) (h1 : a ≤ 1000) (h2 : b ≠ 0) (h3 : -1000 ≤ b) (h4 : b ≤ 1000) : BdR (Rat.divInt a b) 1 := by
  have e := lowR (N := a) h2
  constructor
  · rw [← e.1]; exact lowN_bd ⟨by omega⟩
  · rw [← e.2]; exact lowD_bd ⟨by omega⟩
/-- What is read is this rational number. -/
def IsR (w : World) (q : QV) (x : Rat) : Prop := IsQ w q (nR x) (dR x)
theorem IsR.later {w w' : World} {q : QV} {x : Rat} (h : IsR w q x) (hb : Below w.heap.size w w') : IsR w' q x := IsQ.later h hb
def OuR (w : World) (x : Rat) (e : Ending) (w' : World) : Prop := OutQ w (nR x) (dR x) e w'
def OuRv (w : World) (x : Rat) (e : Ending) (w' : World) : Prop := OutQv w (nR x) (dR x) e w'
theorem mulRI (q q' : QV) (x y : Rat) (w : World) (h : IsR w q x) (h' : IsR w q' y) (k : BdR x 50000) (k' : BdR y 50000) :
    Calls Tryz.prog 104 #[.agg #[.bool q.num.g, .slice q.num.a q.num.n q.num.c, .bool q.den.g, .slice q.den.a q.den.n q.den.c], .agg #[.bool q'.num.g, .slice q'.num.a q'.num.n q'.num.c, .bool q'.den.g, .slice q'.den.a q'.den.n q'.den.c]] w (OuR w (x * y)) := by
  have := mulQI q q' _ _ _ _ w h h' (Int.mul_ne_zero (dR_ne x) (dR_ne y)) (k.n.mono (by omega)) (k.d.mono (by omega)) (k'.n.mono (by omega)) (k'.d.mono (by omega))
  rw [(mulR x y).1, (mulR x y).2] at this
  exact this
theorem addRI (q q' : QV) (x y : Rat) (w : World) (h : IsR w q x) (h' : IsR w q' y) (k : BdR x 50000) (k' : BdR y 50000) :
    Calls Tryz.prog 112 #[.agg #[.bool q.num.g, .slice q.num.a q.num.n q.num.c, .bool q.den.g, .slice q.den.a q.den.n q.den.c], .agg #[.bool q'.num.g, .slice q'.num.a q'.num.n q'.num.c, .bool q'.den.g, .slice q'.den.a q'.den.n q'.den.c]] w (OuR w (x + y)) := by
  have := addQI q q' _ _ _ _ w h h' (Int.mul_ne_zero (dR_ne x) (dR_ne y)) (k.n.mono (by omega)) (k.d.mono (by omega)) (k'.n.mono (by omega)) (k'.d.mono (by omega))
  rw [(addR x y).1, (addR x y).2] at this
  exact this
theorem subRI (q q' : QV) (x y : Rat) (w : World) (h : IsR w q x) (h' : IsR w q' y) (k : BdR x 50000) (k' : BdR y 50000) :
    Calls Tryz.prog 249 #[.agg #[.bool q.num.g, .slice q.num.a q.num.n q.num.c, .bool q.den.g, .slice q.den.a q.den.n q.den.c], .agg #[.bool q'.num.g, .slice q'.num.a q'.num.n q'.num.c, .bool q'.den.g, .slice q'.den.a q'.den.n q'.den.c]] w (OuR w (x - y)) := by
  have := subQI q q' _ _ _ _ w h h' (Int.mul_ne_zero (dR_ne x) (dR_ne y)) (k.n.mono (by omega)) (k.d.mono (by omega)) (k'.n.mono (by omega)) (k'.d.mono (by omega))
  rw [(subR x y).1, (subR x y).2] at this
  exact this
theorem mulRS (q q' : QV) (x y : Rat) (w : World) (h : IsR w q x) (h' : IsR w q' y) (k : BdR x 50000) (k' : BdR y 50000) :
    Calls Tryz.prog 195 #[.agg #[.bool q.num.g, .slice q.num.a q.num.n q.num.c, .bool q.den.g, .slice q.den.a q.den.n q.den.c], .agg #[.bool q'.num.g, .slice q'.num.a q'.num.n q'.num.c, .bool q'.den.g, .slice q'.den.a q'.den.n q'.den.c]] w (OuRv w (x * y)) := by
  have := mulQS q q' _ _ _ _ w h h' (Int.mul_ne_zero (dR_ne x) (dR_ne y)) (k.n.mono (by omega)) (k.d.mono (by omega)) (k'.n.mono (by omega)) (k'.d.mono (by omega))
  rw [(mulR x y).1, (mulR x y).2] at this
  exact this
theorem addRS (q q' : QV) (x y : Rat) (w : World) (h : IsR w q x) (h' : IsR w q' y) (k : BdR x 50000) (k' : BdR y 50000) :
    Calls Tryz.prog 150 #[.agg #[.bool q.num.g, .slice q.num.a q.num.n q.num.c, .bool q.den.g, .slice q.den.a q.den.n q.den.c], .agg #[.bool q'.num.g, .slice q'.num.a q'.num.n q'.num.c, .bool q'.den.g, .slice q'.den.a q'.den.n q'.den.c]] w (OuRv w (x + y)) := by
  have := addQS q q' _ _ _ _ w h h' (Int.mul_ne_zero (dR_ne x) (dR_ne y)) (k.n.mono (by omega)) (k.d.mono (by omega)) (k'.n.mono (by omega)) (k'.d.mono (by omega))
  rw [(addR x y).1, (addR x y).2] at this
  exact this
theorem subRS (q q' : QV) (x y : Rat) (w : World) (h : IsR w q x) (h' : IsR w q' y) (k : BdR x 50000) (k' : BdR y 50000) :
    Calls Tryz.prog 194 #[.agg #[.bool q.num.g, .slice q.num.a q.num.n q.num.c, .bool q.den.g, .slice q.den.a q.den.n q.den.c], .agg #[.bool q'.num.g, .slice q'.num.a q'.num.n q'.num.c, .bool q'.den.g, .slice q'.den.a q'.den.n q'.den.c]] w (OuRv w (x - y)) := by
  have := subQS q q' _ _ _ _ w h h' (Int.mul_ne_zero (dR_ne x) (dR_ne y)) (k.n.mono (by omega)) (k.d.mono (by omega)) (k'.n.mono (by omega)) (k'.d.mono (by omega))
  rw [(subR x y).1, (subR x y).2] at this
  exact this
theorem wholeRI (n : Int) (w : World) (h0 : -9223372036854775808 ≤ n) (h1 : n ≤ 9223372036854775807) : Calls Tryz.prog 191 #[.int .i64 n] w (OuR w (n : Rat)) := wholeI n w h0 h1
theorem wholeRS (n : Int) (w : World) (h0 : -9223372036854775808 ≤ n) (h1 : n ≤ 9223372036854775807) : Calls Tryz.prog 151 #[.int .i64 n] w (OuR w (n : Rat)) := wholeS n w h0 h1
theorem isR_of {w : World} {q : QV} {x : Rat} {xs us : List Int} (h : AllAr w [(q.num, ⟨decide (nR x < 0), xs⟩), (q.den, ⟨decide (dR x < 0), us⟩)]) (h1 : Nm xs (nR x).natAbs) (h2 : Nm us (dR x).natAbs) : IsR w q x := isQ_of h h1 h2
/-- A point of fractions by value. -/
structure IsPt (w : World) (v : SV) (p : Rat × Rat) : Prop where
  x : IsR w v.lo p.1
  y : IsR w v.hi p.2
theorem IsPt.later {w w' : World} {v : SV} {p : Rat × Rat} (h : IsPt w v p) (hb : Below w.heap.size w w') : IsPt w' v p := ⟨h.x.later hb, h.y.later hb⟩
structure BdP (p : Rat × Rat) (L : Nat) : Prop where
  x : BdR p.1 L
  y : BdR p.2 L
theorem BdP.mono {p : Rat × Rat} {L L' : Nat} (h : BdP p L) (k : L ≤ L') : BdP p L' := ⟨h.x.mono k, h.y.mono k⟩
def OutPt (w : World) (p : Rat × Rat) (e : Ending) (w' : World) : Prop := OutS w (nR p.1) (dR p.1) (nR p.2) (dR p.2) e w'
/-- A good fraction's value. -/
def vQ (d : QD) : Rat := Rat.divInt (nQ d) (dQ d)
end Go.Proofs.YtikllcoekcglcaaGreat
namespace Go.Proofs.YtikllcoekcglcaaGreat
open Go.RowKit
set_option linter.unusedVariables false
set_option maxRecDepth 100000
set_option linter.unusedSimpArgs false

/-- q is the rational number x, in memory at blocks from lo to below hi, numerator and denominator apart. -/
def OwR (lo hi : Nat) (w : World) (q : QV) (x : Rat) : Prop := ∃ xs us, AllOwn lo hi w [(q.num, ⟨decide (nR x < 0), xs⟩), (q.den, ⟨decide (dR x < 0), us⟩)] ∧ AllAr w [(q.num, ⟨decide (nR x < 0), xs⟩), (q.den, ⟨decide (dR x < 0), us⟩)] ∧ Nm xs (nR x).natAbs ∧ Nm us (dR x).natAbs
theorem OwR.later {lo hi : Nat} {w w' : World} {q : QV} {x : Rat} (h : OwR lo hi w q x) (hb : Below w.heap.size w w') : OwR lo hi w' q x := by
  obtain ⟨xs, us, h1, h2, h3, h4⟩ := h
  exact ⟨xs, us, h1.later hb, h2.later hb, h3, h4⟩
theorem OwR.is {lo hi : Nat} {w : World} {q : QV} {x : Rat} (h : OwR lo hi w q x) : IsR w q x := by
  obtain ⟨xs, us, h1, h2, h3, h4⟩ := h
  exact isR_of h2 h3 h4
theorem OwR.wide {lo hi lo' hi' : Nat} {w : World} {q : QV} {x : Rat} (h : OwR lo hi w q x) (h1 : lo' ≤ lo) (h2 : hi ≤ hi') : OwR lo' hi' w q x := by
  obtain ⟨xs, us, k1, k2, k3, k4⟩ := h
  exact ⟨xs, us, k1.wide h1 h2, k2, k3, k4⟩
theorem owR_of {lo hi : Nat} {w : World} {q : QV} {x : Rat} {xs us : List Int} (ho : AllOwn lo hi w [(q.num, ⟨decide (nR x < 0), xs⟩), (q.den, ⟨decide (dR x < 0), us⟩)]) (ha : AllAr w [(q.num, ⟨decide (nR x < 0), xs⟩), (q.den, ⟨decide (dR x < 0), us⟩)]) (h1 : Nm xs (nR x).natAbs) (h2 : Nm us (dR x).natAbs) : OwR lo hi w q x := ⟨xs, us, ho, ha, h1, h2⟩
theorem outR_fin {w wN W : World} {R lo hi : Nat} {q : QV} {x : Rat} (hR : w.heap.size ≤ R) (hb : Below w.heap.size w wN) (bt : But R (R + 1) wN W) (h : OwR lo hi wN q x) (h1 : R + 1 ≤ lo) (h2 : hi ≤ wN.heap.size) :
    OuR w x (.returned (.agg #[.bool q.num.g, .slice q.num.a q.num.n q.num.c, .bool q.den.g, .slice q.den.a q.den.n q.den.c])) W := by
  obtain ⟨xs, us, k1, k2, k3, k4⟩ := h
  exact outQ_fin hR hb bt (k1.wide h1 h2) k2 k3 k4
/-- .. where numerator and denominator may share memory. -/
structure OwV (lo hi : Nat) (w : World) (q : QV) (x : Rat) : Prop where
  n : Ow lo hi w q.num (nR x)
  d : Ow lo hi w q.den (dR x)
theorem OwV.later {lo hi : Nat} {w w' : World} {q : QV} {x : Rat} (h : OwV lo hi w q x) (hb : Below w.heap.size w w') : OwV lo hi w' q x := ⟨h.n.later hb, h.d.later hb⟩
theorem OwV.is {lo hi : Nat} {w : World} {q : QV} {x : Rat} (h : OwV lo hi w q x) : IsR w q x := ⟨h.n.is, h.d.is⟩
theorem OwV.wide {lo hi lo' hi' : Nat} {w : World} {q : QV} {x : Rat} (h : OwV lo hi w q x) (h1 : lo' ≤ lo) (h2 : hi ≤ hi') : OwV lo' hi' w q x := ⟨h.n.wide h1 h2, h.d.wide h1 h2⟩
theorem OwV.but {lo hi lo' hi' : Nat} {w w' : World} {q : QV} {x : Rat} (h : OwV lo hi w q x) (bt : But lo' hi' w w') (hd : hi ≤ lo' ∨ hi' ≤ lo) : OwV lo hi w' q x := ⟨h.n.but bt hd, h.d.but bt hd⟩
theorem outRv_fin {w wN W : World} {R lo hi : Nat} {q : QV} {x : Rat} (hR : w.heap.size ≤ R) (hb : Below w.heap.size w wN) (bt : But R (R + 1) wN W) (h : OwV lo hi wN q x) (h1 : R + 1 ≤ lo) (h2 : hi ≤ wN.heap.size) :
    OuRv w x (.returned (.agg #[.bool q.num.g, .slice q.num.a q.num.n q.num.c, .bool q.den.g, .slice q.den.a q.den.n q.den.c])) W := outQv_fin hR hb bt (h.n.wide h1 h2) (h.d.wide h1 h2)
theorem OwR.v {lo hi : Nat} {w : World} {q : QV} {x : Rat} (h : OwR lo hi w q x) : OwV lo hi w q x := by
  obtain ⟨xs, us, ho, ha, h1, h2⟩ := h
  exact ⟨⟨xs, ⟨fun p hp => ho.own p (by simp at hp ⊢; exact .inl hp), List.pairwise_singleton _ _⟩, fun p hp => ha p (by simp at hp ⊢; exact .inl hp), h1⟩, ⟨us, ⟨fun p hp => ho.own p (by simp at hp ⊢; exact .inr hp), List.pairwise_singleton _ _⟩, fun p hp => ha p (by simp at hp ⊢; exact .inr hp), h2⟩⟩
/-- A call answers what reads as the point p, in memory of its own, parts of which may be shared. -/
def OutPv (w : World) (p : Rat × Rat) (e : Ending) (w' : World) : Prop := ∃ v : SV, e = .returned (.agg #[.bool v.lo.num.g, .slice v.lo.num.a v.lo.num.n v.lo.num.c, .bool v.lo.den.g, .slice v.lo.den.a v.lo.den.n v.lo.den.c, .bool v.hi.num.g, .slice v.hi.num.a v.hi.num.n v.hi.num.c, .bool v.hi.den.g, .slice v.hi.den.a v.hi.den.n v.hi.den.c]) ∧ Below w.heap.size w w' ∧ OwV w.heap.size w'.heap.size w' v.lo p.1 ∧ OwV w.heap.size w'.heap.size w' v.hi p.2
theorem outPv_fin {w wN W : World} {R lo hi lo' hi' : Nat} {v : SV} {x y : Rat} (hR : w.heap.size ≤ R) (hb : Below w.heap.size w wN) (bt : But R (R + 1) wN W) (h : OwV lo hi wN v.lo x) (k : OwV lo' hi' wN v.hi y) (h1 : R + 1 ≤ lo) (h2 : hi ≤ wN.heap.size) (h3 : R + 1 ≤ lo') (h4 : hi' ≤ wN.heap.size) :
    OutPv w (x, y) (.returned (.agg #[.bool v.lo.num.g, .slice v.lo.num.a v.lo.num.n v.lo.num.c, .bool v.lo.den.g, .slice v.lo.den.a v.lo.den.n v.lo.den.c, .bool v.hi.num.g, .slice v.hi.num.a v.hi.num.n v.hi.num.c, .bool v.hi.den.g, .slice v.hi.den.a v.hi.den.n v.hi.den.c])) W :=
  ⟨v, rfl, bt.below hb hR hb.size, (h.but bt (.inr h1)).wide (by omega) (Nat.le_trans h2 bt.size), (k.but bt (.inr h3)).wide (by omega) (Nat.le_trans h4 bt.size)⟩
theorem outPt_fin {w wN W : World} {R lo mid hi : Nat} {v : SV} {x y : Rat} (hR : w.heap.size ≤ R) (hb : Below w.heap.size w wN) (bt : But R (R + 1) wN W) (h : OwR lo mid wN v.lo x) (k : OwR mid hi wN v.hi y) (h1 : R + 1 ≤ lo) (h2 : lo ≤ mid) (h3 : mid ≤ hi) (h4 : hi ≤ wN.heap.size) :
    OutPt w (x, y) (.returned (.agg #[.bool v.lo.num.g, .slice v.lo.num.a v.lo.num.n v.lo.num.c, .bool v.lo.den.g, .slice v.lo.den.a v.lo.den.n v.lo.den.c, .bool v.hi.num.g, .slice v.hi.num.a v.hi.num.n v.hi.num.c, .bool v.hi.den.g, .slice v.hi.den.a v.hi.den.n v.hi.den.c])) W := by
  obtain ⟨xs, us, a1, a2, a3, a4⟩ := h
  obtain ⟨ys, vs, b1, b2, b3, b4⟩ := k
  exact outS_fin hR hb bt ((a1.join b1 h2 h3).wide h1 h4) (a2.append b2) a3 a4 b3 b4
end Go.Proofs.YtikllcoekcglcaaGreat
