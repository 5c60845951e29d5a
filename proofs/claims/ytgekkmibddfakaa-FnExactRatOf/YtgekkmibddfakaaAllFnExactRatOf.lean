/- The law FnExactRatOf returns true for every argument and leaves it as it was: the given statement FnExactRatOfSaid. No condition. -/
import Derived.Test.YtgekkmibddfakaaMake2
import Derived.Test.YtgekkmibddfakaaRatF
import Derived.Test.YtgekkmibddfakaaOpen
import Derived.Test.YtgekkmibddfakaaIo
namespace Go.Proofs.Ytgekkmibddfakaa
open Go.RowKit
set_option linter.unusedVariables false
set_option maxRecDepth 100000
set_option linter.unusedSimpArgs false


set_option maxHeartbeats 4000000 in
theorem lowS2 (b b' : BV) (N D : Int) (w : World) (h : IsB w b N) (h' : IsB w b' D) (hD : D ≠ 0) (k : Bd N 400000) (k' : Bd D 400000) :
    Calls Try.prog 97 #[.agg #[.bool b.g, .slice b.a b.n b.c], .agg #[.bool b'.g, .slice b'.a b'.n b'.c]] w (OutQ w (lowN N D) (lowD N D)) := by
  by_cases hD0 : D < 0
  · have HI := hide h
    have HI' := hide h'
    obtain ⟨xs, hx, _, hl, nx, sx⟩ := h.num k (by omega)
    obtain ⟨ys, hy, _, hl', ny, sy⟩ := h'.num k' (by omega)
    have hm : 1 ≤ b'.n := by have := h'.zero_iff; omega
    have HX := hide hx.arg
    have HY := hide hy.arg
    have EN : Hid ((val xs).toNat = N.natAbs ∧ (val ys).toNat = D.natAbs) := hide ⟨by rw [nx.v]; simp, by rw [ny.v]; simp⟩
    have KD := hide k'
    have KN := hide k
    have NX := hide nx
    have NY := hide ny
    have HD := hide hD
    have HD0 := hide hD0
    clear hD0
    have KG : Hid (Bd ((Nat.gcd N.natAbs D.natAbs : Nat) : Int) 400000 ∧ ((Nat.gcd N.natAbs D.natAbs : Nat) : Int) ≠ 0) := hide ⟨k'.le (by have := Nat.le_of_dvd (show 0 < D.natAbs by omega) (Nat.gcd_dvd_right N.natAbs D.natAbs); simp; omega), by have := gcd_pos_right (N := N) hD; omega⟩
    clear h h' hx hy nx ny sx sy k k' hD
    have B0 := hide (show Below w.heap.size w (((w.alloc (.cells #[.bool b.g, .slice b.a b.n b.c] 29)).alloc (.cells #[.bool b'.g, .slice b'.a b'.n b'.c] 29)).alloc (.cells #[.bool false, .slice none 0 0, .bool false, .slice none 0 0] 31)) from ((((Below.refl _ _).alloc (by simp) _).alloc (by simp) _).alloc (by simp <;> omega) _))
    go_enter Try.func97, Try.ntmps97
    go_wp2_with fail
    refine (gcdS_any b.a b'.a b.n b'.n b.c b'.c xs ys _ ((unhide HX).later (unhide B0)) ((unhide HY).later (unhide B0)) (unhide NX).ok (unhide NX).tr (unhide NY).ok (unhide NY).tr (by omega) (by omega)).mono ?_
    rintro e w1 ⟨a1, n1, c1, gs, rfl, hb, ho1, ha1, hn1⟩
    rw [(unhide EN).1, (unhide EN).2] at hn1
    obtain ⟨g1, g2⟩ := gcd_len hn1 ha1.len (unhide HD) (unhide KD)
    have N1 := hide hn1
    have s1 : w.heap.size + 3 ≤ w1.heap.size := by have := hb.size; simp at this; omega
    have k0_0 : w1.cell? ⟨w.heap.size, 0, none⟩ = some (.bool b.g) := cell_later hb (by simp [go_sem])
    have k1_0 : w1.cell? ⟨w.heap.size + 1, 0, none⟩ = some (.bool b'.g) := cell_later hb (by simp [go_sem])
    have k0_1 : w1.cell? ⟨w.heap.size, 1, none⟩ = some (.slice b.a b.n b.c) := cell_later hb (by simp [go_sem])
    have k1_1 : w1.cell? ⟨w.heap.size + 1, 1, none⟩ = some (.slice b'.a b'.n b'.c) := cell_later hb (by simp [go_sem])
    have k2_0 : w1.cell? ⟨w.heap.size + 1 + 1, 0, none⟩ = some (.bool false) := cell_later hb (by simp [go_sem])
    have k2_1 : w1.cell? ⟨w.heap.size + 1 + 1, 1, none⟩ = some (.slice none 0 0) := cell_later hb (by simp [go_sem])
    have k2_2 : w1.cell? ⟨w.heap.size + 1 + 1, 2, none⟩ = some (.bool false) := cell_later hb (by simp [go_sem])
    have k2_3 : w1.cell? ⟨w.heap.size + 1 + 1, 3, none⟩ = some (.slice none 0 0) := cell_later hb (by simp [go_sem])
    have z2 : ∀ o, w1.frozen? ⟨w.heap.size + 1 + 1, o, none⟩ = false := fun o => frozen_later hb (by simp) (by simp [go_sem])
    have A1 := hide (ha1)
    have HB := hide (below_on (unhide B0) hb)
    clear hb
    clear ho1 ha1 hn1
    go_wp2_with fail
    refine (makeS_v false a1 n1 c1 gs _ _ (unhide A1) (unhide N1) (by omega)).mono ?_
    rintro e w2 ⟨x1, rfl, hb, ow, ar⟩
    have s2 := hb.size
    replace z2 := fun o => frozen_later hb (World.block_lt_of_cell? _ _ k2_0) (z2 o)
    replace k0_0 := cell_later hb k0_0
    replace k1_0 := cell_later hb k1_0
    replace k0_1 := cell_later hb k0_1
    replace k1_1 := cell_later hb k1_1
    replace k2_0 := cell_later hb k2_0
    replace k2_1 := cell_later hb k2_1
    replace k2_2 := cell_later hb k2_2
    replace k2_3 := cell_later hb k2_3
    replace A1 := hide ((unhide A1).later hb)
    have G1 := hide (isB_of_out (V := ((Nat.gcd N.natAbs D.natAbs : Nat) : Int)) ar (by rw [Int.natAbs_natCast]; exact unhide N1))
    replace HB := hide (below_on (unhide HB) hb)
    clear hb
    clear ow ar
    clear A1
    have k0_0u : (w2.alloc (.cells #[.bool x1.g, .slice x1.a x1.n x1.c] 29)).cell? ⟨w.heap.size, 0, none⟩ = some (.bool b.g) := (ca_other k0_0)
    have k1_0u : (w2.alloc (.cells #[.bool x1.g, .slice x1.a x1.n x1.c] 29)).cell? ⟨w.heap.size + 1, 0, none⟩ = some (.bool b'.g) := (ca_other k1_0)
    have k0_1u : (w2.alloc (.cells #[.bool x1.g, .slice x1.a x1.n x1.c] 29)).cell? ⟨w.heap.size, 1, none⟩ = some (.slice b.a b.n b.c) := (ca_other k0_1)
    have k1_1u : (w2.alloc (.cells #[.bool x1.g, .slice x1.a x1.n x1.c] 29)).cell? ⟨w.heap.size + 1, 1, none⟩ = some (.slice b'.a b'.n b'.c) := (ca_other k1_1)
    have k2_0u : (w2.alloc (.cells #[.bool x1.g, .slice x1.a x1.n x1.c] 29)).cell? ⟨w.heap.size + 1 + 1, 0, none⟩ = some (.bool false) := (ca_other k2_0)
    have k2_1u : (w2.alloc (.cells #[.bool x1.g, .slice x1.a x1.n x1.c] 29)).cell? ⟨w.heap.size + 1 + 1, 1, none⟩ = some (.slice none 0 0) := (ca_other k2_1)
    have k2_2u : (w2.alloc (.cells #[.bool x1.g, .slice x1.a x1.n x1.c] 29)).cell? ⟨w.heap.size + 1 + 1, 2, none⟩ = some (.bool false) := (ca_other k2_2)
    have k2_3u : (w2.alloc (.cells #[.bool x1.g, .slice x1.a x1.n x1.c] 29)).cell? ⟨w.heap.size + 1 + 1, 3, none⟩ = some (.slice none 0 0) := (ca_other k2_3)
    go_wp2_with fail
    refine (divS_v b x1 N _ _ ((unhide HI).later (below_on (unhide HB) ((Below.refl _ _).alloc (by simp) _))) ((unhide G1).later ((Below.refl _ _).alloc (by simp) _)) (unhide KG).2 (unhide KN) (unhide KG).1).mono ?_
    rintro e w3 ⟨y1, y2, rfl, hb, i1, i2⟩
    clear k0_0u k1_0u k0_1u k1_1u k2_0u k2_1u k2_2u k2_3u
    rw [quot_g N D N (unhide HD)] at i1
    have s3 : w2.heap.size ≤ w3.heap.size := by have := hb.size; simp at this; omega
    replace i1 : Ow w2.heap.size w3.heap.size w3 y1 (sU (decide (N < 0)) (lowU N D)) := i1.wide (by simp) (Nat.le_refl _)
    have hbx := ba (hb)
    replace z2 := fun o => frozen_later hbx (World.block_lt_of_cell? _ _ k2_0) (z2 o)
    replace k1_0 := cell_later hbx k1_0
    replace k1_1 := cell_later hbx k1_1
    replace k2_0 := cell_later hbx k2_0
    replace k2_1 := cell_later hbx k2_1
    replace k2_2 := cell_later hbx k2_2
    replace k2_3 := cell_later hbx k2_3
    have k3_0 : w3.cell? ⟨w2.heap.size, 0, none⟩ = some (.bool x1.g) := cell_later hb (by simp [go_sem])
    have k3_1 : w3.cell? ⟨w2.heap.size, 1, none⟩ = some (.slice x1.a x1.n x1.c) := cell_later hb (by simp [go_sem])
    clear k0_0 k0_1
    replace G1 := hide ((unhide G1).later hbx)
    have I1 := hide (i1)
    replace HB := hide (below_on (unhide HB) hbx)
    clear hbx hb
    clear i1 i2
    have k1_0u : ((w3.alloc (.cells #[.bool y1.g, .slice y1.a y1.n y1.c] 29)).alloc (.cells #[.bool y2.g, .slice y2.a y2.n y2.c] 29)).cell? ⟨w.heap.size + 1, 0, none⟩ = some (.bool b'.g) := (ca_other (ca_other k1_0))
    have k1_1u : ((w3.alloc (.cells #[.bool y1.g, .slice y1.a y1.n y1.c] 29)).alloc (.cells #[.bool y2.g, .slice y2.a y2.n y2.c] 29)).cell? ⟨w.heap.size + 1, 1, none⟩ = some (.slice b'.a b'.n b'.c) := (ca_other (ca_other k1_1))
    have k2_0u : ((w3.alloc (.cells #[.bool y1.g, .slice y1.a y1.n y1.c] 29)).alloc (.cells #[.bool y2.g, .slice y2.a y2.n y2.c] 29)).cell? ⟨w.heap.size + 1 + 1, 0, none⟩ = some (.bool false) := (ca_other (ca_other k2_0))
    have k2_1u : ((w3.alloc (.cells #[.bool y1.g, .slice y1.a y1.n y1.c] 29)).alloc (.cells #[.bool y2.g, .slice y2.a y2.n y2.c] 29)).cell? ⟨w.heap.size + 1 + 1, 1, none⟩ = some (.slice none 0 0) := (ca_other (ca_other k2_1))
    have k2_2u : ((w3.alloc (.cells #[.bool y1.g, .slice y1.a y1.n y1.c] 29)).alloc (.cells #[.bool y2.g, .slice y2.a y2.n y2.c] 29)).cell? ⟨w.heap.size + 1 + 1, 2, none⟩ = some (.bool false) := (ca_other (ca_other k2_2))
    have k2_3u : ((w3.alloc (.cells #[.bool y1.g, .slice y1.a y1.n y1.c] 29)).alloc (.cells #[.bool y2.g, .slice y2.a y2.n y2.c] 29)).cell? ⟨w.heap.size + 1 + 1, 3, none⟩ = some (.slice none 0 0) := (ca_other (ca_other k2_3))
    have k3_0u : ((w3.alloc (.cells #[.bool y1.g, .slice y1.a y1.n y1.c] 29)).alloc (.cells #[.bool y2.g, .slice y2.a y2.n y2.c] 29)).cell? ⟨w2.heap.size, 0, none⟩ = some (.bool x1.g) := (ca_other (ca_other k3_0))
    have k3_1u : ((w3.alloc (.cells #[.bool y1.g, .slice y1.a y1.n y1.c] 29)).alloc (.cells #[.bool y2.g, .slice y2.a y2.n y2.c] 29)).cell? ⟨w2.heap.size, 1, none⟩ = some (.slice x1.a x1.n x1.c) := (ca_other (ca_other k3_1))
    go_wp2_with fail
    refine (divS_v b' x1 D _ _ ((unhide HI').later (below_on (unhide HB) (((Below.refl _ _).alloc (by simp) _).alloc (by simp) _))) ((unhide G1).later (((Below.refl _ _).alloc (by simp) _).alloc (by simp) _)) (unhide KG).2 (unhide KD) (unhide KG).1).mono ?_
    rintro e w4 ⟨z1, zr, rfl, hb, i3, i4⟩
    clear k1_0u k1_1u k2_0u k2_1u k2_2u k2_3u k3_0u k3_1u
    rw [quot_g N D D (unhide HD)] at i3
    have s4 : w3.heap.size + 1 ≤ w4.heap.size := by have := hb.size; simp at this; omega
    replace i3 : Ow w3.heap.size w4.heap.size w4 z1 (sU (decide (D < 0)) (lowD N D)) := i3.wide (by simp <;> omega) (Nat.le_refl _)
    have hbx := ba (ba (hb))
    replace z2 := fun o => frozen_later hbx (World.block_lt_of_cell? _ _ k2_0) (z2 o)
    replace k2_0 := cell_later hbx k2_0
    replace k2_1 := cell_later hbx k2_1
    replace k2_2 := cell_later hbx k2_2
    replace k2_3 := cell_later hbx k2_3
    have k4_0 : w4.cell? ⟨w3.heap.size, 0, none⟩ = some (.bool y1.g) := cell_later hb (by simp [go_sem])
    have k4_1 : w4.cell? ⟨w3.heap.size, 1, none⟩ = some (.slice y1.a y1.n y1.c) := cell_later hb (by simp [go_sem])
    clear k1_0 k1_1 k3_0 k3_1
    replace G1 := hide ((unhide G1).later hbx)
    replace I1 := hide ((unhide I1).later hbx)
    have I3 := hide (i3)
    replace HB := hide (below_on (unhide HB) hbx)
    clear hbx hb
    clear i3 i4
    clear G1
    have hz : z1.g = true := by
      obtain ⟨us, h1, h2⟩ := (unhide I3).is
      have h3 := h1.sg
      rw [h3]
      refine decide_eq_true ?_
      have := lowD_pos (N := N) (unhide HD)
      rw [← (low_neg (unhide HD0)).2] at this
      show sU (decide (D < 0)) (lowD N D) < 0
      omega
    have BD : Hid (Bd (sU (decide (N < 0)) (lowU N D)) 400000 ∧ Bd (sU (decide (D < 0)) (lowD N D)) 400000) := hide ⟨(unhide KN).le (by have := sU_abs (g := decide (N < 0)) (lowU_nonneg N D); have := lowU_le N D; omega), (unhide KD).le (by have := sU_abs (g := decide (D < 0)) (lowD_nonneg N D); have := lowD_le N D; omega)⟩
    have LN := hide (low_neg (N := N) (unhide HD0))
    obtain ⟨zg, za, zn, zc⟩ := z1
    obtain rfl : zg = true := hz
    go_upto_region 5 with fail
    have hb : Below w4.heap.size w4 ((w4.alloc (.cells #[.bool true, .slice za zn zc] 29)).alloc (.cells #[.bool zr.g, .slice zr.a zr.n zr.c] 29)) := (((Below.refl _ _).alloc (by simp) _).alloc (by simp) _)
    replace k4_0 : ((w4.alloc (.cells #[.bool true, .slice za zn zc] 29)).alloc (.cells #[.bool zr.g, .slice zr.a zr.n zr.c] 29)).cell? ⟨w3.heap.size, 0, none⟩ = some (.bool y1.g) := (ca_other (ca_other k4_0))
    replace k4_1 : ((w4.alloc (.cells #[.bool true, .slice za zn zc] 29)).alloc (.cells #[.bool zr.g, .slice zr.a zr.n zr.c] 29)).cell? ⟨w3.heap.size, 1, none⟩ = some (.slice y1.a y1.n y1.c) := (ca_other (ca_other k4_1))
    have k6_0 : ((w4.alloc (.cells #[.bool true, .slice za zn zc] 29)).alloc (.cells #[.bool zr.g, .slice zr.a zr.n zr.c] 29)).cell? ⟨w4.heap.size, 0, none⟩ = some (.bool true) := by simp [go_sem]
    have k6_1 : ((w4.alloc (.cells #[.bool true, .slice za zn zc] 29)).alloc (.cells #[.bool zr.g, .slice zr.a zr.n zr.c] 29)).cell? ⟨w4.heap.size, 1, none⟩ = some (.slice za zn zc) := by simp [go_sem]
    replace k2_0 : ((w4.alloc (.cells #[.bool true, .slice za zn zc] 29)).alloc (.cells #[.bool zr.g, .slice zr.a zr.n zr.c] 29)).cell? ⟨w.heap.size + 1 + 1, 0, none⟩ = some (.bool false) := (ca_other (ca_other k2_0))
    replace k2_1 : ((w4.alloc (.cells #[.bool true, .slice za zn zc] 29)).alloc (.cells #[.bool zr.g, .slice zr.a zr.n zr.c] 29)).cell? ⟨w.heap.size + 1 + 1, 1, none⟩ = some (.slice none 0 0) := (ca_other (ca_other k2_1))
    replace k2_2 : ((w4.alloc (.cells #[.bool true, .slice za zn zc] 29)).alloc (.cells #[.bool zr.g, .slice zr.a zr.n zr.c] 29)).cell? ⟨w.heap.size + 1 + 1, 2, none⟩ = some (.bool false) := (ca_other (ca_other k2_2))
    replace k2_3 : ((w4.alloc (.cells #[.bool true, .slice za zn zc] 29)).alloc (.cells #[.bool zr.g, .slice zr.a zr.n zr.c] 29)).cell? ⟨w.heap.size + 1 + 1, 3, none⟩ = some (.slice none 0 0) := (ca_other (ca_other k2_3))
    replace z2 : ∀ o, ((w4.alloc (.cells #[.bool true, .slice za zn zc] 29)).alloc (.cells #[.bool zr.g, .slice zr.a zr.n zr.c] 29)).frozen? ⟨w.heap.size + 1 + 1, o, none⟩ = false := fun o => frozen_later hb (by omega) (z2 o)
    replace I1 := hide ((unhide I1).later hb)
    replace I3 := hide ((unhide I3).later hb)
    replace HB := hide (below_on (unhide HB) hb)
    have szw5 := hb.size
    clear hb
    generalize ((w4.alloc (.cells #[.bool true, .slice za zn zc] 29)).alloc (.cells #[.bool zr.g, .slice zr.a zr.n zr.c] 29)) = w5 at *
    have ne4_2 : w3.heap.size ≠ w.heap.size + 1 + 1 := by omega
    have ne6_2 : w4.heap.size ≠ w.heap.size + 1 + 1 := by omega
    go_region_held3 (fun w' => w'.cell? ⟨w3.heap.size, 0, none⟩ = some (.bool y1.g) ∧ w'.cell? ⟨w3.heap.size, 1, none⟩ = some (.slice y1.a y1.n y1.c) ∧ w'.cell? ⟨w4.heap.size, 0, none⟩ = some (.bool true) ∧ w'.cell? ⟨w4.heap.size, 1, none⟩ = some (.slice za zn zc)) (with_reducible (first | exact ⟨k4_0, k4_1, k6_0, k6_1⟩ | exact ⟨cd_other k4_0, cd_other k4_1, cd_other k6_0, cd_other k6_1⟩ | exact ⟨cs_other (cs_other (cs_other (cs_other (k4_0) ne4_2) ne4_2) ne4_2) ne4_2, cs_other (cs_other (cs_other (cs_other (k4_1) ne4_2) ne4_2) ne4_2) ne4_2, cs_other (cs_other (cs_other (cs_other (k6_0) ne6_2) ne6_2) ne6_2) ne6_2, cs_other (cs_other (cs_other (cs_other (k6_1) ne6_2) ne6_2) ne6_2) ne6_2⟩ | fail))
      (first
      | (go_at_call_of 165 (Value.agg #[Value.bool y1.g, Value.slice y1.a y1.n y1.c]); refine (negS_v y1 _ _ ?_ (unhide BD).1).mono ?_; exact (unhide I1).is.later (Below.refl _ _).drew; rintro e w6 ⟨u1, as1, rfl, hb, ow1, ar1, nn1⟩; have hbx : Below w5.heap.size w5 w6 := below_of_drew hb; have szw6 := hbx.size; replace z2 := fun o => frozen_later hbx (World.block_lt_of_cell? _ _ k2_0) (z2 o); replace k2_0 := cell_later hbx k2_0; replace k2_1 := cell_later hbx k2_1; replace k2_2 := cell_later hbx k2_2; replace k2_3 := cell_later hbx k2_3; replace k4_0 := cell_later hbx k4_0; replace k4_1 := cell_later hbx k4_1; replace k6_0 := cell_later hbx k6_0; replace k6_1 := cell_later hbx k6_1; replace I1 := hide ((unhide I1).later hbx); replace I3 := hide ((unhide I3).later hbx); have P1 := hide (outN_ow ow1 ar1 nn1); have HBr := hide hbx; clear hbx hb ow1 ar1 nn1)
      | (go_at_call_of 165 (Value.agg #[Value.bool true, Value.slice za zn zc]); refine (negS_v ⟨true, za, zn, zc⟩ _ _ ?_ (unhide BD).2).mono ?_; exact (unhide I3).is.later (Below.refl _ _); rintro e w7 ⟨u2, bs1, rfl, hb, ow2, ar2, nn2⟩; have hbx : Below w6.heap.size w6 w7 := hb; have szw7 := hbx.size; replace z2 := fun o => frozen_later hbx (World.block_lt_of_cell? _ _ k2_0) (z2 o); replace k2_0 := cell_later hbx k2_0; replace k2_1 := cell_later hbx k2_1; replace k2_2 := cell_later hbx k2_2; replace k2_3 := cell_later hbx k2_3; replace k4_0 := cell_later hbx k4_0; replace k4_1 := cell_later hbx k4_1; replace k6_0 := cell_later hbx k6_0; replace k6_1 := cell_later hbx k6_1; replace I1 := hide ((unhide I1).later hbx); replace I3 := hide ((unhide I3).later hbx); replace P1 := hide ((unhide P1).later hbx); have P2 := hide (outN_ow ow2 ar2 nn2); have HBr := hide (below_on (unhide HBr) hbx); clear hbx hb ow2 ar2 nn2))
    replace HB := hide (below_on (unhide HB) (unhide HBr))
    clear HBr
    have P3 : Hid (∃ zs us, AllOwn (w.heap.size + 1 + 1 + 1) w7.heap.size w7 [(u1, ⟨decide (lowN N D < 0), zs⟩), (u2, ⟨decide (lowD N D < 0), us⟩)] ∧ AllAr w7 [(u1, ⟨decide (lowN N D < 0), zs⟩), (u2, ⟨decide (lowD N D < 0), us⟩)] ∧ Nm zs (lowN N D).natAbs ∧ Nm us (lowD N D).natAbs) := hide (by
      have a : Ow w5.heap.size w6.heap.size w7 u1 (lowN N D) := by rw [← (unhide LN).1]; exact unhide P1
      have b : Ow w6.heap.size w7.heap.size w7 u2 (lowD N D) := by rw [← (unhide LN).2]; exact unhide P2
      obtain ⟨zs, us, o1, o2, o3, o4⟩ := a.two b (by omega) (by omega)
      exact ⟨zs, us, o1.wide (by omega) (by omega), o2, o3, o4⟩)
    go_wp2
    refine bodyPost_ret (v := .agg #[.bool u1.g, .slice u1.a u1.n u1.c, .bool u2.g, .slice u2.a u2.n u2.c]) (by simp [results, Try.results97, go_sem, k2_0, k2_1, k2_2, k2_3]) rfl ?_
    obtain ⟨zs, us, o1, o2, o3, o4⟩ := unhide P3
    exact outQ_fin (q := ⟨u1, u2⟩) (R := w.heap.size + 1 + 1) (by omega) (unhide HB) (metQ_but (w5 := w7) (v := ⟨u1, u2⟩) (G := w.heap.size + 1 + 1)) o1 o2 o3 o4
  · have HI := hide h
    have HI' := hide h'
    obtain ⟨xs, hx, _, hl, nx, sx⟩ := h.num k (by omega)
    obtain ⟨ys, hy, _, hl', ny, sy⟩ := h'.num k' (by omega)
    have hm : 1 ≤ b'.n := by have := h'.zero_iff; omega
    have HX := hide hx.arg
    have HY := hide hy.arg
    have EN : Hid ((val xs).toNat = N.natAbs ∧ (val ys).toNat = D.natAbs) := hide ⟨by rw [nx.v]; simp, by rw [ny.v]; simp⟩
    have KD := hide k'
    have KN := hide k
    have NX := hide nx
    have NY := hide ny
    have HD := hide hD
    have HD0 := hide (show 0 ≤ D by omega)
    clear hD0
    have KG : Hid (Bd ((Nat.gcd N.natAbs D.natAbs : Nat) : Int) 400000 ∧ ((Nat.gcd N.natAbs D.natAbs : Nat) : Int) ≠ 0) := hide ⟨k'.le (by have := Nat.le_of_dvd (show 0 < D.natAbs by omega) (Nat.gcd_dvd_right N.natAbs D.natAbs); simp; omega), by have := gcd_pos_right (N := N) hD; omega⟩
    clear h h' hx hy nx ny sx sy k k' hD
    have B0 := hide (show Below w.heap.size w (((w.alloc (.cells #[.bool b.g, .slice b.a b.n b.c] 29)).alloc (.cells #[.bool b'.g, .slice b'.a b'.n b'.c] 29)).alloc (.cells #[.bool false, .slice none 0 0, .bool false, .slice none 0 0] 31)) from ((((Below.refl _ _).alloc (by simp) _).alloc (by simp) _).alloc (by simp <;> omega) _))
    go_enter Try.func97, Try.ntmps97
    go_wp2_with fail
    refine (gcdS_any b.a b'.a b.n b'.n b.c b'.c xs ys _ ((unhide HX).later (unhide B0)) ((unhide HY).later (unhide B0)) (unhide NX).ok (unhide NX).tr (unhide NY).ok (unhide NY).tr (by omega) (by omega)).mono ?_
    rintro e w1 ⟨a1, n1, c1, gs, rfl, hb, ho1, ha1, hn1⟩
    rw [(unhide EN).1, (unhide EN).2] at hn1
    obtain ⟨g1, g2⟩ := gcd_len hn1 ha1.len (unhide HD) (unhide KD)
    have N1 := hide hn1
    have s1 : w.heap.size + 3 ≤ w1.heap.size := by have := hb.size; simp at this; omega
    have k0_0 : w1.cell? ⟨w.heap.size, 0, none⟩ = some (.bool b.g) := cell_later hb (by simp [go_sem])
    have k1_0 : w1.cell? ⟨w.heap.size + 1, 0, none⟩ = some (.bool b'.g) := cell_later hb (by simp [go_sem])
    have k0_1 : w1.cell? ⟨w.heap.size, 1, none⟩ = some (.slice b.a b.n b.c) := cell_later hb (by simp [go_sem])
    have k1_1 : w1.cell? ⟨w.heap.size + 1, 1, none⟩ = some (.slice b'.a b'.n b'.c) := cell_later hb (by simp [go_sem])
    have k2_0 : w1.cell? ⟨w.heap.size + 1 + 1, 0, none⟩ = some (.bool false) := cell_later hb (by simp [go_sem])
    have k2_1 : w1.cell? ⟨w.heap.size + 1 + 1, 1, none⟩ = some (.slice none 0 0) := cell_later hb (by simp [go_sem])
    have k2_2 : w1.cell? ⟨w.heap.size + 1 + 1, 2, none⟩ = some (.bool false) := cell_later hb (by simp [go_sem])
    have k2_3 : w1.cell? ⟨w.heap.size + 1 + 1, 3, none⟩ = some (.slice none 0 0) := cell_later hb (by simp [go_sem])
    have z2 : ∀ o, w1.frozen? ⟨w.heap.size + 1 + 1, o, none⟩ = false := fun o => frozen_later hb (by simp) (by simp [go_sem])
    have A1 := hide (ha1)
    have HB := hide (below_on (unhide B0) hb)
    clear hb
    clear ho1 ha1 hn1
    go_wp2_with fail
    refine (makeS_v false a1 n1 c1 gs _ _ (unhide A1) (unhide N1) (by omega)).mono ?_
    rintro e w2 ⟨x1, rfl, hb, ow, ar⟩
    have s2 := hb.size
    replace z2 := fun o => frozen_later hb (World.block_lt_of_cell? _ _ k2_0) (z2 o)
    replace k0_0 := cell_later hb k0_0
    replace k1_0 := cell_later hb k1_0
    replace k0_1 := cell_later hb k0_1
    replace k1_1 := cell_later hb k1_1
    replace k2_0 := cell_later hb k2_0
    replace k2_1 := cell_later hb k2_1
    replace k2_2 := cell_later hb k2_2
    replace k2_3 := cell_later hb k2_3
    replace A1 := hide ((unhide A1).later hb)
    have G1 := hide (isB_of_out (V := ((Nat.gcd N.natAbs D.natAbs : Nat) : Int)) ar (by rw [Int.natAbs_natCast]; exact unhide N1))
    replace HB := hide (below_on (unhide HB) hb)
    clear hb
    clear ow ar
    clear A1
    have k0_0u : (w2.alloc (.cells #[.bool x1.g, .slice x1.a x1.n x1.c] 29)).cell? ⟨w.heap.size, 0, none⟩ = some (.bool b.g) := (ca_other k0_0)
    have k1_0u : (w2.alloc (.cells #[.bool x1.g, .slice x1.a x1.n x1.c] 29)).cell? ⟨w.heap.size + 1, 0, none⟩ = some (.bool b'.g) := (ca_other k1_0)
    have k0_1u : (w2.alloc (.cells #[.bool x1.g, .slice x1.a x1.n x1.c] 29)).cell? ⟨w.heap.size, 1, none⟩ = some (.slice b.a b.n b.c) := (ca_other k0_1)
    have k1_1u : (w2.alloc (.cells #[.bool x1.g, .slice x1.a x1.n x1.c] 29)).cell? ⟨w.heap.size + 1, 1, none⟩ = some (.slice b'.a b'.n b'.c) := (ca_other k1_1)
    have k2_0u : (w2.alloc (.cells #[.bool x1.g, .slice x1.a x1.n x1.c] 29)).cell? ⟨w.heap.size + 1 + 1, 0, none⟩ = some (.bool false) := (ca_other k2_0)
    have k2_1u : (w2.alloc (.cells #[.bool x1.g, .slice x1.a x1.n x1.c] 29)).cell? ⟨w.heap.size + 1 + 1, 1, none⟩ = some (.slice none 0 0) := (ca_other k2_1)
    have k2_2u : (w2.alloc (.cells #[.bool x1.g, .slice x1.a x1.n x1.c] 29)).cell? ⟨w.heap.size + 1 + 1, 2, none⟩ = some (.bool false) := (ca_other k2_2)
    have k2_3u : (w2.alloc (.cells #[.bool x1.g, .slice x1.a x1.n x1.c] 29)).cell? ⟨w.heap.size + 1 + 1, 3, none⟩ = some (.slice none 0 0) := (ca_other k2_3)
    go_wp2_with fail
    refine (divS_v b x1 N _ _ ((unhide HI).later (below_on (unhide HB) ((Below.refl _ _).alloc (by simp) _))) ((unhide G1).later ((Below.refl _ _).alloc (by simp) _)) (unhide KG).2 (unhide KN) (unhide KG).1).mono ?_
    rintro e w3 ⟨y1, y2, rfl, hb, i1, i2⟩
    clear k0_0u k1_0u k0_1u k1_1u k2_0u k2_1u k2_2u k2_3u
    rw [quot_g N D N (unhide HD)] at i1
    have s3 : w2.heap.size ≤ w3.heap.size := by have := hb.size; simp at this; omega
    replace i1 : Ow w2.heap.size w3.heap.size w3 y1 (sU (decide (N < 0)) (lowU N D)) := i1.wide (by simp) (Nat.le_refl _)
    have hbx := ba (hb)
    replace z2 := fun o => frozen_later hbx (World.block_lt_of_cell? _ _ k2_0) (z2 o)
    replace k1_0 := cell_later hbx k1_0
    replace k1_1 := cell_later hbx k1_1
    replace k2_0 := cell_later hbx k2_0
    replace k2_1 := cell_later hbx k2_1
    replace k2_2 := cell_later hbx k2_2
    replace k2_3 := cell_later hbx k2_3
    have k3_0 : w3.cell? ⟨w2.heap.size, 0, none⟩ = some (.bool x1.g) := cell_later hb (by simp [go_sem])
    have k3_1 : w3.cell? ⟨w2.heap.size, 1, none⟩ = some (.slice x1.a x1.n x1.c) := cell_later hb (by simp [go_sem])
    clear k0_0 k0_1
    replace G1 := hide ((unhide G1).later hbx)
    have I1 := hide (i1)
    replace HB := hide (below_on (unhide HB) hbx)
    clear hbx hb
    clear i1 i2
    have k1_0u : ((w3.alloc (.cells #[.bool y1.g, .slice y1.a y1.n y1.c] 29)).alloc (.cells #[.bool y2.g, .slice y2.a y2.n y2.c] 29)).cell? ⟨w.heap.size + 1, 0, none⟩ = some (.bool b'.g) := (ca_other (ca_other k1_0))
    have k1_1u : ((w3.alloc (.cells #[.bool y1.g, .slice y1.a y1.n y1.c] 29)).alloc (.cells #[.bool y2.g, .slice y2.a y2.n y2.c] 29)).cell? ⟨w.heap.size + 1, 1, none⟩ = some (.slice b'.a b'.n b'.c) := (ca_other (ca_other k1_1))
    have k2_0u : ((w3.alloc (.cells #[.bool y1.g, .slice y1.a y1.n y1.c] 29)).alloc (.cells #[.bool y2.g, .slice y2.a y2.n y2.c] 29)).cell? ⟨w.heap.size + 1 + 1, 0, none⟩ = some (.bool false) := (ca_other (ca_other k2_0))
    have k2_1u : ((w3.alloc (.cells #[.bool y1.g, .slice y1.a y1.n y1.c] 29)).alloc (.cells #[.bool y2.g, .slice y2.a y2.n y2.c] 29)).cell? ⟨w.heap.size + 1 + 1, 1, none⟩ = some (.slice none 0 0) := (ca_other (ca_other k2_1))
    have k2_2u : ((w3.alloc (.cells #[.bool y1.g, .slice y1.a y1.n y1.c] 29)).alloc (.cells #[.bool y2.g, .slice y2.a y2.n y2.c] 29)).cell? ⟨w.heap.size + 1 + 1, 2, none⟩ = some (.bool false) := (ca_other (ca_other k2_2))
    have k2_3u : ((w3.alloc (.cells #[.bool y1.g, .slice y1.a y1.n y1.c] 29)).alloc (.cells #[.bool y2.g, .slice y2.a y2.n y2.c] 29)).cell? ⟨w.heap.size + 1 + 1, 3, none⟩ = some (.slice none 0 0) := (ca_other (ca_other k2_3))
    have k3_0u : ((w3.alloc (.cells #[.bool y1.g, .slice y1.a y1.n y1.c] 29)).alloc (.cells #[.bool y2.g, .slice y2.a y2.n y2.c] 29)).cell? ⟨w2.heap.size, 0, none⟩ = some (.bool x1.g) := (ca_other (ca_other k3_0))
    have k3_1u : ((w3.alloc (.cells #[.bool y1.g, .slice y1.a y1.n y1.c] 29)).alloc (.cells #[.bool y2.g, .slice y2.a y2.n y2.c] 29)).cell? ⟨w2.heap.size, 1, none⟩ = some (.slice x1.a x1.n x1.c) := (ca_other (ca_other k3_1))
    go_wp2_with fail
    refine (divS_v b' x1 D _ _ ((unhide HI').later (below_on (unhide HB) (((Below.refl _ _).alloc (by simp) _).alloc (by simp) _))) ((unhide G1).later (((Below.refl _ _).alloc (by simp) _).alloc (by simp) _)) (unhide KG).2 (unhide KD) (unhide KG).1).mono ?_
    rintro e w4 ⟨z1, zr, rfl, hb, i3, i4⟩
    clear k1_0u k1_1u k2_0u k2_1u k2_2u k2_3u k3_0u k3_1u
    rw [quot_g N D D (unhide HD)] at i3
    have s4 : w3.heap.size + 1 ≤ w4.heap.size := by have := hb.size; simp at this; omega
    replace i3 : Ow w3.heap.size w4.heap.size w4 z1 (sU (decide (D < 0)) (lowD N D)) := i3.wide (by simp <;> omega) (Nat.le_refl _)
    have hbx := ba (ba (hb))
    replace z2 := fun o => frozen_later hbx (World.block_lt_of_cell? _ _ k2_0) (z2 o)
    replace k2_0 := cell_later hbx k2_0
    replace k2_1 := cell_later hbx k2_1
    replace k2_2 := cell_later hbx k2_2
    replace k2_3 := cell_later hbx k2_3
    have k4_0 : w4.cell? ⟨w3.heap.size, 0, none⟩ = some (.bool y1.g) := cell_later hb (by simp [go_sem])
    have k4_1 : w4.cell? ⟨w3.heap.size, 1, none⟩ = some (.slice y1.a y1.n y1.c) := cell_later hb (by simp [go_sem])
    clear k1_0 k1_1 k3_0 k3_1
    replace G1 := hide ((unhide G1).later hbx)
    replace I1 := hide ((unhide I1).later hbx)
    have I3 := hide (i3)
    replace HB := hide (below_on (unhide HB) hbx)
    clear hbx hb
    clear i3 i4
    clear G1
    have hz : z1.g = false := by
      obtain ⟨us, h1, h2⟩ := (unhide I3).is
      have h3 := h1.sg
      rw [h3]
      refine decide_eq_false ?_
      have := lowD_pos (N := N) (unhide HD)
      rw [← (low_pos (unhide HD0)).2] at this
      show ¬ sU (decide (D < 0)) (lowD N D) < 0
      omega
    have LN := hide (low_pos (N := N) (unhide HD0))
    obtain ⟨zg, za, zn, zc⟩ := z1
    obtain rfl : zg = false := hz
    go_upto_region 6 with fail
    have hb : Below w4.heap.size w4 ((w4.alloc (.cells #[.bool false, .slice za zn zc] 29)).alloc (.cells #[.bool zr.g, .slice zr.a zr.n zr.c] 29)) := (((Below.refl _ _).alloc (by simp) _).alloc (by simp) _)
    replace k4_0 : ((w4.alloc (.cells #[.bool false, .slice za zn zc] 29)).alloc (.cells #[.bool zr.g, .slice zr.a zr.n zr.c] 29)).cell? ⟨w3.heap.size, 0, none⟩ = some (.bool y1.g) := (ca_other (ca_other k4_0))
    replace k4_1 : ((w4.alloc (.cells #[.bool false, .slice za zn zc] 29)).alloc (.cells #[.bool zr.g, .slice zr.a zr.n zr.c] 29)).cell? ⟨w3.heap.size, 1, none⟩ = some (.slice y1.a y1.n y1.c) := (ca_other (ca_other k4_1))
    have k6_0 : ((w4.alloc (.cells #[.bool false, .slice za zn zc] 29)).alloc (.cells #[.bool zr.g, .slice zr.a zr.n zr.c] 29)).cell? ⟨w4.heap.size, 0, none⟩ = some (.bool false) := by simp [go_sem]
    have k6_1 : ((w4.alloc (.cells #[.bool false, .slice za zn zc] 29)).alloc (.cells #[.bool zr.g, .slice zr.a zr.n zr.c] 29)).cell? ⟨w4.heap.size, 1, none⟩ = some (.slice za zn zc) := by simp [go_sem]
    replace k2_0 : ((w4.alloc (.cells #[.bool false, .slice za zn zc] 29)).alloc (.cells #[.bool zr.g, .slice zr.a zr.n zr.c] 29)).cell? ⟨w.heap.size + 1 + 1, 0, none⟩ = some (.bool false) := (ca_other (ca_other k2_0))
    replace k2_1 : ((w4.alloc (.cells #[.bool false, .slice za zn zc] 29)).alloc (.cells #[.bool zr.g, .slice zr.a zr.n zr.c] 29)).cell? ⟨w.heap.size + 1 + 1, 1, none⟩ = some (.slice none 0 0) := (ca_other (ca_other k2_1))
    replace k2_2 : ((w4.alloc (.cells #[.bool false, .slice za zn zc] 29)).alloc (.cells #[.bool zr.g, .slice zr.a zr.n zr.c] 29)).cell? ⟨w.heap.size + 1 + 1, 2, none⟩ = some (.bool false) := (ca_other (ca_other k2_2))
    replace k2_3 : ((w4.alloc (.cells #[.bool false, .slice za zn zc] 29)).alloc (.cells #[.bool zr.g, .slice zr.a zr.n zr.c] 29)).cell? ⟨w.heap.size + 1 + 1, 3, none⟩ = some (.slice none 0 0) := (ca_other (ca_other k2_3))
    replace z2 : ∀ o, ((w4.alloc (.cells #[.bool false, .slice za zn zc] 29)).alloc (.cells #[.bool zr.g, .slice zr.a zr.n zr.c] 29)).frozen? ⟨w.heap.size + 1 + 1, o, none⟩ = false := fun o => frozen_later hb (by omega) (z2 o)
    replace I1 := hide ((unhide I1).later hb)
    replace I3 := hide ((unhide I3).later hb)
    replace HB := hide (below_on (unhide HB) hb)
    have szw5 := hb.size
    clear hb
    generalize ((w4.alloc (.cells #[.bool false, .slice za zn zc] 29)).alloc (.cells #[.bool zr.g, .slice zr.a zr.n zr.c] 29)) = w5 at *
    have P3 : Hid (∃ zs us, AllOwn (w.heap.size + 1 + 1 + 1) w5.heap.size w5 [(y1, ⟨decide (lowN N D < 0), zs⟩), (⟨false, za, zn, zc⟩, ⟨decide (lowD N D < 0), us⟩)] ∧ AllAr w5 [(y1, ⟨decide (lowN N D < 0), zs⟩), (⟨false, za, zn, zc⟩, ⟨decide (lowD N D < 0), us⟩)] ∧ Nm zs (lowN N D).natAbs ∧ Nm us (lowD N D).natAbs) := hide (by
      have a : Ow w2.heap.size w3.heap.size w5 y1 (lowN N D) := by rw [← (unhide LN).1]; exact unhide I1
      have b : Ow w3.heap.size w4.heap.size w5 ⟨false, za, zn, zc⟩ (lowD N D) := by rw [← (unhide LN).2]; exact unhide I3
      obtain ⟨zs, us, o1, o2, o3, o4⟩ := a.two b (by omega) (by omega)
      exact ⟨zs, us, o1.wide (by omega) (by omega), o2, o3, o4⟩)
    go_wp2
    refine bodyPost_ret (v := .agg #[.bool y1.g, .slice y1.a y1.n y1.c, .bool false, .slice za zn zc]) (by simp [results, Try.results97, go_sem, k2_0, k2_1, k2_2, k2_3]) rfl ?_
    obtain ⟨zs, us, o1, o2, o3, o4⟩ := unhide P3
    exact outQ_fin (q := ⟨y1, ⟨false, za, zn, zc⟩⟩) (R := w.heap.size + 1 + 1) (by omega) (unhide HB) (metQ_but (w5 := w5) (v := ⟨y1, ⟨false, za, zn, zc⟩⟩) (G := w.heap.size + 1 + 1)) o1 o2 o3 o4
end Go.Proofs.Ytgekkmibddfakaa
namespace Go.Proofs.Ytgekkmibddfakaa
open Go.RowKit
set_option linter.unusedVariables false
set_option maxRecDepth 100000
set_option linter.unusedSimpArgs false

theorem beyond_any (n : Int) (w : World) (b : Bool) (h : b = decide (n < -4611686018427387904 ∨ 4611686018427387904 < n)) : Calls Try.prog 99 #[.int .i64 n] w fun e w' => e = .returned (.bool b) ∧ w' = w := by
  subst h
  by_cases h1 : n < -4611686018427387904
  · rw [show decide (n < -4611686018427387904 ∨ 4611686018427387904 < n) = true from decide_eq_true (.inl h1)]
    go_enter Try.func99, Try.ntmps99
    go_wp2
    go_ret
    exact ⟨rfl, rfl⟩
  · have h1' : ¬ (n < -4611686018427387904) := h1
    by_cases h2 : 4611686018427387904 < n
    · rw [show decide (n < -4611686018427387904 ∨ 4611686018427387904 < n) = true from decide_eq_true (.inr h2)]
      go_enter Try.func99, Try.ntmps99
      go_wp2
      go_ret
      exact ⟨rfl, rfl⟩
    · rw [show decide (n < -4611686018427387904 ∨ 4611686018427387904 < n) = false from decide_eq_false (fun h => h.elim h1 h2)]
      go_enter Try.func99, Try.ntmps99
      go_wp2
      go_ret
      exact ⟨rfl, rfl⟩
theorem in_any (n lo hi : Int) (w : World) (b : Bool) (h : b = decide (lo ≤ n ∧ n ≤ hi)) : Calls Try.prog 96 #[.int .i64 n, .int .i64 lo, .int .i64 hi] w fun e w' => e = .returned (.bool b) ∧ w' = w := by
  subst h
  by_cases h1 : lo ≤ n
  · by_cases h2 : n ≤ hi
    · rw [show decide (lo ≤ n ∧ n ≤ hi) = true from decide_eq_true ⟨h1, h2⟩]
      go_enter Try.func96, Try.ntmps96
      go_wp2
      go_ret
      exact ⟨rfl, rfl⟩
    · rw [show decide (lo ≤ n ∧ n ≤ hi) = false from decide_eq_false (fun h => h2 h.2)]
      go_enter Try.func96, Try.ntmps96
      go_wp2
      go_ret
      exact ⟨rfl, rfl⟩
  · rw [show decide (lo ≤ n ∧ n ≤ hi) = false from decide_eq_false (fun h => h1 h.1)]
    go_enter Try.func96, Try.ntmps96
    go_wp2
    go_ret
    exact ⟨rfl, rfl⟩
theorem Bd.int {n : Int} (h0 : -9223372036854775808 ≤ n) (h1 : n ≤ 9223372036854775807) : Bd n 4 := ⟨by omega⟩

set_option maxHeartbeats 4000000 in
theorem RatOfRI (x y : Int) (w : World) (wx : -9223372036854775808 ≤ x ∧ x ≤ 9223372036854775807) (wy : -9223372036854775808 ≤ y ∧ y ≤ 9223372036854775807) :
    Calls Try.prog 31 #[.int .i64 x, .int .i64 y] w (RetQ w (AnsQ ((decide (-4611686018427387904 ≤ x ∧ x ≤ 4611686018427387904) && decide (-4611686018427387904 ≤ y ∧ y ≤ 4611686018427387904)) && decide (y ≠ 0)) (lowN x y) (lowD x y))) := by
  by_cases h0 : y = 0
  · rw [show ((decide (-4611686018427387904 ≤ x ∧ x ≤ 4611686018427387904) && decide (-4611686018427387904 ≤ y ∧ y ≤ 4611686018427387904)) && decide (y ≠ 0)) = false from by simp; omega]
    have t0 : (y == 0) = true := by simp; omega
    clear h0
    have HB := hide (show Below w.heap.size w (w.alloc (.cells #[.bool false, .slice none 0 0, .bool false, .slice none 0 0] 31)) from ((Below.refl _ _).alloc (by simp) _))
    go_enter Try.func31, Try.ntmps31
    go_wp2
    refine bodyPost_ret (v := .tuple #[.agg #[.bool false, .slice none 0 0, .bool false, .slice none 0 0], .bool false]) (by simp [results, Try.results31, go_sem]) rfl ?_
    exact ⟨(⟨⟨false, none, 0, 0⟩, ⟨false, none, 0, 0⟩⟩ : QV), (⟨⟨false, []⟩, ⟨false, []⟩⟩ : QD), false, rfl, unhide HB, zeroQ _ _ _, ansQ_none _ _⟩
  by_cases h1 : x < -4611686018427387904 ∨ 4611686018427387904 < x
  · rw [show ((decide (-4611686018427387904 ≤ x ∧ x ≤ 4611686018427387904) && decide (-4611686018427387904 ≤ y ∧ y ≤ 4611686018427387904)) && decide (y ≠ 0)) = false from by simp; omega]
    have t0 : (y == 0) = false := by simp; omega
    have HB := hide (show Below w.heap.size w (w.alloc (.cells #[.bool false, .slice none 0 0, .bool false, .slice none 0 0] 31)) from ((Below.refl _ _).alloc (by simp) _))
    go_enter Try.func31, Try.ntmps31
    go_wp2_with fail
    refine (beyond_any x _ true (by exact (decide_eq_true (by omega)).symm)).mono ?_
    rintro e w1 ⟨rfl, rfl⟩
    go_wp2
    refine bodyPost_ret (v := .tuple #[.agg #[.bool false, .slice none 0 0, .bool false, .slice none 0 0], .bool false]) (by simp [results, Try.results31, go_sem]) rfl ?_
    exact ⟨(⟨⟨false, none, 0, 0⟩, ⟨false, none, 0, 0⟩⟩ : QV), (⟨⟨false, []⟩, ⟨false, []⟩⟩ : QD), false, rfl, unhide HB, zeroQ _ _ _, ansQ_none _ _⟩
  by_cases h2 : y < -4611686018427387904 ∨ 4611686018427387904 < y
  · rw [show ((decide (-4611686018427387904 ≤ x ∧ x ≤ 4611686018427387904) && decide (-4611686018427387904 ≤ y ∧ y ≤ 4611686018427387904)) && decide (y ≠ 0)) = false from by simp; omega]
    have t0 : (y == 0) = false := by simp; omega
    have HB := hide (show Below w.heap.size w (w.alloc (.cells #[.bool false, .slice none 0 0, .bool false, .slice none 0 0] 31)) from ((Below.refl _ _).alloc (by simp) _))
    go_enter Try.func31, Try.ntmps31
    go_wp2_with fail
    refine (beyond_any x _ false (by exact (decide_eq_false (by omega)).symm)).mono ?_
    rintro e w1 ⟨rfl, rfl⟩
    go_wp2_with fail
    refine (beyond_any y _ true (by exact (decide_eq_true (by omega)).symm)).mono ?_
    rintro e w2 ⟨rfl, rfl⟩
    go_wp2
    refine bodyPost_ret (v := .tuple #[.agg #[.bool false, .slice none 0 0, .bool false, .slice none 0 0], .bool false]) (by simp [results, Try.results31, go_sem]) rfl ?_
    exact ⟨(⟨⟨false, none, 0, 0⟩, ⟨false, none, 0, 0⟩⟩ : QV), (⟨⟨false, []⟩, ⟨false, []⟩⟩ : QD), false, rfl, unhide HB, zeroQ _ _ _, ansQ_none _ _⟩
  rw [show ((decide (-4611686018427387904 ≤ x ∧ x ≤ 4611686018427387904) && decide (-4611686018427387904 ≤ y ∧ y ≤ 4611686018427387904)) && decide (y ≠ 0)) = true from by simp; omega]
  have HZ := hide (show y ≠ 0 by omega)
  have t0 : (y == 0) = false := by simp; omega
  have B0 := hide (show Below w.heap.size w (w.alloc (.cells #[.bool false, .slice none 0 0, .bool false, .slice none 0 0] 31)) from ((Below.refl _ _).alloc (by simp) _))
  go_enter Try.func31, Try.ntmps31
  go_wp2_with fail
  refine (beyond_any x _ false (by exact (decide_eq_false (by omega)).symm)).mono ?_
  rintro e w1 ⟨rfl, rfl⟩
  go_wp2_with fail
  refine (beyond_any y _ false (by exact (decide_eq_false (by omega)).symm)).mono ?_
  rintro e w2 ⟨rfl, rfl⟩
  go_wp2_with fail
  refine (ofI_v x _ (by omega) (by omega)).mono ?_
  rintro e w3 ⟨x1, l1, rfl, hb, o1, a1, n1⟩
  have s3 : w.heap.size < w3.heap.size := by have := hb.size; simp at this; omega
  have k0_0 : w3.cell? ⟨w.heap.size, 0, none⟩ = some (.bool false) := cell_later hb (by simp [go_sem])
  have k0_1 : w3.cell? ⟨w.heap.size, 1, none⟩ = some (.slice none 0 0) := cell_later hb (by simp [go_sem])
  have k0_2 : w3.cell? ⟨w.heap.size, 2, none⟩ = some (.bool false) := cell_later hb (by simp [go_sem])
  have k0_3 : w3.cell? ⟨w.heap.size, 3, none⟩ = some (.slice none 0 0) := cell_later hb (by simp [go_sem])
  have z0 : ∀ o, w3.frozen? ⟨w.heap.size, o, none⟩ = false := fun o => frozen_later hb (by simp) (by simp [go_sem])
  have P1 := hide (outN_ow o1 a1 n1)
  have HB := hide (below_on (unhide B0) hb)
  clear hb
  clear o1 a1 n1
  go_wp2_with fail
  refine (ofI_v y _ (by omega) (by omega)).mono ?_
  rintro e w4 ⟨x2, l2, rfl, hb, o2, a2, n2⟩
  have s4 := hb.size
  replace z0 := fun o => frozen_later hb (World.block_lt_of_cell? _ _ k0_0) (z0 o)
  replace k0_0 := cell_later hb k0_0
  replace k0_1 := cell_later hb k0_1
  replace k0_2 := cell_later hb k0_2
  replace k0_3 := cell_later hb k0_3
  replace P1 := hide ((unhide P1).later hb)
  have P2 := hide (outN_ow o2 a2 n2)
  replace HB := hide (below_on (unhide HB) hb)
  clear hb
  clear o2 a2 n2
  go_wp2_with fail
  refine (lowI x1 x2 x y _ (unhide P1).is (unhide P2).is (unhide HZ) ((Bd.int wx.1 wx.2).mono (by omega)) ((Bd.int wy.1 wy.2).mono (by omega))).mono ?_
  rintro e w5 ⟨r, zs, us, rfl, hb, or, ar, nz, nu⟩
  have s5 := hb.size
  have NN := hide (And.intro nz nu)
  replace z0 := fun o => frozen_later hb (World.block_lt_of_cell? _ _ k0_0) (z0 o)
  replace k0_0 := cell_later hb k0_0
  replace k0_1 := cell_later hb k0_1
  replace k0_2 := cell_later hb k0_2
  replace k0_3 := cell_later hb k0_3
  replace P1 := hide ((unhide P1).later hb)
  replace P2 := hide ((unhide P2).later hb)
  have OR := hide (or)
  replace HB := hide (below_on (unhide HB) hb)
  clear hb
  clear or ar nz nu
  go_wp2
  refine bodyPost_ret (v := .tuple #[.agg #[.bool r.num.g, .slice r.num.a r.num.n r.num.c, .bool r.den.g, .slice r.den.a r.den.n r.den.c], .bool true]) (by simp [results, Try.results31, go_sem, k0_0, k0_1, k0_2, k0_3]) rfl ?_
  exact retQ_fin (v := r) (d := ⟨⟨decide (lowN x y < 0), zs⟩, ⟨decide (lowD x y < 0), us⟩⟩) (R := w.heap.size) (Nat.le_refl _) (unhide HB) (metQ_but (w5 := w5) (v := r) (G := w.heap.size)) ((unhide OR).wide (by omega) (Nat.le_refl _)) (.inl ⟨rfl, zs, us, (unhide NN).1, (unhide NN).2, .inl ⟨Nat.le_trans ((unhide NN).1.len_le (lowN_bd (Bd.int wx.1 wx.2))) (by omega), Nat.le_trans ((unhide NN).2.len_le (lowD_bd (Bd.int wy.1 wy.2))) (by omega), rfl, rfl⟩⟩)

set_option maxHeartbeats 4000000 in
theorem RatOfRS (x y : Int) (w : World) (wx : -9223372036854775808 ≤ x ∧ x ≤ 9223372036854775807) (wy : -9223372036854775808 ≤ y ∧ y ≤ 9223372036854775807) :
    Calls Try.prog 30 #[.int .i64 x, .int .i64 y] w (RetQ w (AnsQ ((decide (-4611686018427387904 ≤ x ∧ x ≤ 4611686018427387904) && decide (-4611686018427387904 ≤ y ∧ y ≤ 4611686018427387904)) && decide (y ≠ 0)) (lowN x y) (lowD x y))) := by
  by_cases h0 : x < -4611686018427387904 ∨ 4611686018427387904 < x
  · rw [show ((decide (-4611686018427387904 ≤ x ∧ x ≤ 4611686018427387904) && decide (-4611686018427387904 ≤ y ∧ y ≤ 4611686018427387904)) && decide (y ≠ 0)) = false from by simp; omega]
    have HB := hide (show Below w.heap.size w (w.alloc (.cells #[.bool false, .slice none 0 0, .bool false, .slice none 0 0] 31)) from ((Below.refl _ _).alloc (by simp) _))
    go_enter Try.func30, Try.ntmps30
    go_wp2_with fail
    refine (in_any x _ _ _ false (by exact (decide_eq_false (by omega)).symm)).mono ?_
    rintro e w1 ⟨rfl, rfl⟩
    go_wp2
    refine bodyPost_ret (v := .tuple #[.agg #[.bool false, .slice none 0 0, .bool false, .slice none 0 0], .bool false]) (by simp [results, Try.results30, go_sem]) rfl ?_
    exact ⟨(⟨⟨false, none, 0, 0⟩, ⟨false, none, 0, 0⟩⟩ : QV), (⟨⟨false, []⟩, ⟨false, []⟩⟩ : QD), false, rfl, unhide HB, zeroQ _ _ _, ansQ_none _ _⟩
  by_cases h1 : y < -4611686018427387904 ∨ 4611686018427387904 < y
  · rw [show ((decide (-4611686018427387904 ≤ x ∧ x ≤ 4611686018427387904) && decide (-4611686018427387904 ≤ y ∧ y ≤ 4611686018427387904)) && decide (y ≠ 0)) = false from by simp; omega]
    have HB := hide (show Below w.heap.size w (w.alloc (.cells #[.bool false, .slice none 0 0, .bool false, .slice none 0 0] 31)) from ((Below.refl _ _).alloc (by simp) _))
    go_enter Try.func30, Try.ntmps30
    go_wp2_with fail
    refine (in_any x _ _ _ true (by exact (decide_eq_true (by omega)).symm)).mono ?_
    rintro e w1 ⟨rfl, rfl⟩
    go_wp2_with fail
    refine (in_any y _ _ _ false (by exact (decide_eq_false (by omega)).symm)).mono ?_
    rintro e w2 ⟨rfl, rfl⟩
    go_wp2
    refine bodyPost_ret (v := .tuple #[.agg #[.bool false, .slice none 0 0, .bool false, .slice none 0 0], .bool false]) (by simp [results, Try.results30, go_sem]) rfl ?_
    exact ⟨(⟨⟨false, none, 0, 0⟩, ⟨false, none, 0, 0⟩⟩ : QV), (⟨⟨false, []⟩, ⟨false, []⟩⟩ : QD), false, rfl, unhide HB, zeroQ _ _ _, ansQ_none _ _⟩
  by_cases h2 : y = 0
  · rw [show ((decide (-4611686018427387904 ≤ x ∧ x ≤ 4611686018427387904) && decide (-4611686018427387904 ≤ y ∧ y ≤ 4611686018427387904)) && decide (y ≠ 0)) = false from by simp; omega]
    have t0 : (y == 0) = true := by simp; omega
    clear h2
    have HB := hide (show Below w.heap.size w (w.alloc (.cells #[.bool false, .slice none 0 0, .bool false, .slice none 0 0] 31)) from ((Below.refl _ _).alloc (by simp) _))
    go_enter Try.func30, Try.ntmps30
    go_wp2_with fail
    refine (in_any x _ _ _ true (by exact (decide_eq_true (by omega)).symm)).mono ?_
    rintro e w1 ⟨rfl, rfl⟩
    go_wp2_with fail
    refine (in_any y _ _ _ true (by exact (decide_eq_true (by omega)).symm)).mono ?_
    rintro e w2 ⟨rfl, rfl⟩
    go_wp2
    refine bodyPost_ret (v := .tuple #[.agg #[.bool false, .slice none 0 0, .bool false, .slice none 0 0], .bool false]) (by simp [results, Try.results30, go_sem]) rfl ?_
    exact ⟨(⟨⟨false, none, 0, 0⟩, ⟨false, none, 0, 0⟩⟩ : QV), (⟨⟨false, []⟩, ⟨false, []⟩⟩ : QD), false, rfl, unhide HB, zeroQ _ _ _, ansQ_none _ _⟩
  rw [show ((decide (-4611686018427387904 ≤ x ∧ x ≤ 4611686018427387904) && decide (-4611686018427387904 ≤ y ∧ y ≤ 4611686018427387904)) && decide (y ≠ 0)) = true from by simp; omega]
  have HZ := hide (show y ≠ 0 by omega)
  have t0 : (y == 0) = false := by simp; omega
  have B0 := hide (show Below w.heap.size w (w.alloc (.cells #[.bool false, .slice none 0 0, .bool false, .slice none 0 0] 31)) from ((Below.refl _ _).alloc (by simp) _))
  go_enter Try.func30, Try.ntmps30
  go_wp2_with fail
  refine (in_any x _ _ _ true (by exact (decide_eq_true (by omega)).symm)).mono ?_
  rintro e w1 ⟨rfl, rfl⟩
  go_wp2_with fail
  refine (in_any y _ _ _ true (by exact (decide_eq_true (by omega)).symm)).mono ?_
  rintro e w2 ⟨rfl, rfl⟩
  go_wp2_with fail
  refine (ofS_v x _ (by omega) (by omega)).mono ?_
  rintro e w3 ⟨x1, l1, rfl, hb, o1, a1, n1⟩
  have s3 : w.heap.size < w3.heap.size := by have := hb.size; simp at this; omega
  have k0_0 : w3.cell? ⟨w.heap.size, 0, none⟩ = some (.bool false) := cell_later hb (by simp [go_sem])
  have k0_1 : w3.cell? ⟨w.heap.size, 1, none⟩ = some (.slice none 0 0) := cell_later hb (by simp [go_sem])
  have k0_2 : w3.cell? ⟨w.heap.size, 2, none⟩ = some (.bool false) := cell_later hb (by simp [go_sem])
  have k0_3 : w3.cell? ⟨w.heap.size, 3, none⟩ = some (.slice none 0 0) := cell_later hb (by simp [go_sem])
  have z0 : ∀ o, w3.frozen? ⟨w.heap.size, o, none⟩ = false := fun o => frozen_later hb (by simp) (by simp [go_sem])
  have P1 := hide (outN_ow o1 a1 n1)
  have HB := hide (below_on (unhide B0) hb)
  clear hb
  clear o1 a1 n1
  go_wp2_with fail
  refine (ofS_v y _ (by omega) (by omega)).mono ?_
  rintro e w4 ⟨x2, l2, rfl, hb, o2, a2, n2⟩
  have s4 := hb.size
  replace z0 := fun o => frozen_later hb (World.block_lt_of_cell? _ _ k0_0) (z0 o)
  replace k0_0 := cell_later hb k0_0
  replace k0_1 := cell_later hb k0_1
  replace k0_2 := cell_later hb k0_2
  replace k0_3 := cell_later hb k0_3
  replace P1 := hide ((unhide P1).later hb)
  have P2 := hide (outN_ow o2 a2 n2)
  replace HB := hide (below_on (unhide HB) hb)
  clear hb
  clear o2 a2 n2
  go_wp2_with fail
  refine (lowS2 x1 x2 x y _ (unhide P1).is (unhide P2).is (unhide HZ) ((Bd.int wx.1 wx.2).mono (by omega)) ((Bd.int wy.1 wy.2).mono (by omega))).mono ?_
  rintro e w5 ⟨r, zs, us, rfl, hb, or, ar, nz, nu⟩
  have s5 := hb.size
  have NN := hide (And.intro nz nu)
  replace z0 := fun o => frozen_later hb (World.block_lt_of_cell? _ _ k0_0) (z0 o)
  replace k0_0 := cell_later hb k0_0
  replace k0_1 := cell_later hb k0_1
  replace k0_2 := cell_later hb k0_2
  replace k0_3 := cell_later hb k0_3
  replace P1 := hide ((unhide P1).later hb)
  replace P2 := hide ((unhide P2).later hb)
  have OR := hide (or)
  replace HB := hide (below_on (unhide HB) hb)
  clear hb
  clear or ar nz nu
  go_wp2
  refine bodyPost_ret (v := .tuple #[.agg #[.bool r.num.g, .slice r.num.a r.num.n r.num.c, .bool r.den.g, .slice r.den.a r.den.n r.den.c], .bool true]) (by simp [results, Try.results30, go_sem, k0_0, k0_1, k0_2, k0_3]) rfl ?_
  exact retQ_fin (v := r) (d := ⟨⟨decide (lowN x y < 0), zs⟩, ⟨decide (lowD x y < 0), us⟩⟩) (R := w.heap.size) (Nat.le_refl _) (unhide HB) (metQ_but (w5 := w5) (v := r) (G := w.heap.size)) ((unhide OR).wide (by omega) (Nat.le_refl _)) (.inl ⟨rfl, zs, us, (unhide NN).1, (unhide NN).2, .inl ⟨Nat.le_trans ((unhide NN).1.len_le (lowN_bd (Bd.int wx.1 wx.2))) (by omega), Nat.le_trans ((unhide NN).2.len_le (lowD_bd (Bd.int wy.1 wy.2))) (by omega), rfl, rfl⟩⟩)
end Go.Proofs.Ytgekkmibddfakaa
namespace Go.Proofs.Ytgekkmibddfakaa
open Go.RowKit
set_option linter.unusedVariables false
set_option maxRecDepth 100000

theorem open_wf {n : Int} (h : (Lit.int .i64 n).wf = true) : -9223372036854775808 ≤ n ∧ n ≤ 9223372036854775807 := by
  simp [Lit.wf, IntKind.min, IntKind.max, IntKind.signed, IntKind.bits] at h
  omega
end Go.Proofs.Ytgekkmibddfakaa
namespace Go.Proofs.Ytgekkmibddfakaa
open Go.RowKit
set_option linter.unusedVariables false
set_option maxRecDepth 100000
set_option linter.unusedSimpArgs false


set_option maxRecDepth 100000 in
set_option maxHeartbeats 16000000 in
theorem lawRatOf_in (x0 : Int) (x1 : Int)  (w : World)  (wf0 : -9223372036854775808 ≤ x0 ∧ x0 ≤ 9223372036854775807) (wf1 : -9223372036854775808 ≤ x1 ∧ x1 ≤ 9223372036854775807) (h : 0 ≤ 1048576) :
    Calls Try.prog 4 #[.int .i64 x0, .int .i64 x1] w fun e w' => e = .returned (.bool true) ∧ Below w.heap.size w w' := by
  obtain ⟨U, HU⟩ : ∃ U : QD → Bool → Prop, Hid (U = AnsQ ((decide (-4611686018427387904 ≤ x0 ∧ x0 ≤ 4611686018427387904) && decide (-4611686018427387904 ≤ x1 ∧ x1 ≤ 4611686018427387904)) && decide (x1 ≠ 0)) (lowN x0 x1) (lowD x0 x1)) := ⟨_, hide rfl⟩
  have US : Hid (∀ d ok d' ok', U d ok → U d' ok' → d = d' ∧ ok = ok') := hide (by rw [unhide HU]; exact fun d ok d' ok' h k => h.same k)
  have UL : Hid (∀ d ok, U d ok → d.num.xs.length ≤ 40 ∧ d.den.xs.length ≤ 40) := hide (by rw [unhide HU]; exact fun d ok h => h.lens)
  have CS : Hid (∀  (w : World), Calls Try.prog 30 #[.int .i64 x0, .int .i64 x1] w (RetQ w U)) := hide (by rw [unhide HU]; exact fun w => RatOfRS x0 x1 w wf0 wf1)
  have CI : Hid (∀  (w : World), Calls Try.prog 31 #[.int .i64 x0, .int .i64 x1] w (RetQ w U)) := hide (by rw [unhide HU]; exact fun w => RatOfRI x0 x1 w wf0 wf1)
  clear HU
  go_enter Try.func4, Try.ntmps4
  go_wp2_with fail
  refine (unhide CS  _ ).mono ?_
  rintro e ws ⟨vr, dr, okr, rfl, hb, hown, hu⟩
  have V0 := hide (VarQ.start 31 hown)
  have UR := hide hu
  have ss := hb.size
  have HW := hide (show Below w.heap.size w (ws.alloc (.cells #[.bool vr.num.g, .slice vr.num.a vr.num.n vr.num.c, .bool vr.den.g, .slice vr.den.a vr.den.n vr.den.c] 31)) from hb.alloc hb.size _)
  clear hb hown hu
  have zG1 : w.heap.size + 0 ≤ ws.heap.size := by omega
  have r0 : vr.num.n ≤ 40 := by rw [← ((unhide V0).own.own (vr.num, dr.num) (by simp)).len]; exact (unhide UL _ _ (unhide UR)).1
  have rm0 : vr.num.n ≤ maxLen := by unfold maxLen; omega
  have rl0 : vr.num.n ≤ 1048576 := by omega
  have r1 : vr.den.n ≤ 40 := by rw [← ((unhide V0).own.own (vr.den, dr.den) (by simp)).len]; exact (unhide UL _ _ (unhide UR)).2
  have rm1 : vr.den.n ≤ maxLen := by unfold maxLen; omega
  have rl1 : vr.den.n ≤ 1048576 := by omega
  go_wp2_with fail
  refine (unhide CI  _ ).mono ?_
  rintro e w5 ⟨vg, dg, okg, rfl, hb, hown, hu⟩
  obtain ⟨e1, e2⟩ := unhide US _ _ _ _ (unhide UR) hu
  subst e1 e2
  have VG := hide (VarQ.start 31 (hown.wide (lo' := ws.heap.size + 1) (by simp) (Nat.le_refl _)))
  have sg : ws.heap.size + 1 ≤ w5.heap.size := by have := hb.size; simp at this; omega
  have en0 : vg.num.n = vr.num.n := by rw [← ((unhide VG).own.own (vg.num, dr.num) (by simp)).len, ← ((unhide V0).own.own (vr.num, dr.num) (by simp)).len]
  have q0 : vg.num.n ≤ 40 := by omega
  have qm0 : vg.num.n ≤ maxLen := by omega
  have ql0 : vg.num.n ≤ 1048576 := by omega
  have en1 : vg.den.n = vr.den.n := by rw [← ((unhide VG).own.own (vg.den, dr.den) (by simp)).len, ← ((unhide V0).own.own (vr.den, dr.den) (by simp)).len]
  have q1 : vg.den.n ≤ 40 := by omega
  have qm1 : vg.den.n ≤ maxLen := by omega
  have ql1 : vg.den.n ≤ 1048576 := by omega
  replace V0 := hide ((unhide V0).later hb)
  replace HW := hide (below_on (unhide HW) hb)
  clear hb hown hu
  replace V0 := hide ((unhide V0).later ((Below.refl _ _).alloc (Nat.le_refl _) (.cells #[.bool vg.num.g, .slice vg.num.a vg.num.n vg.num.c, .bool vg.den.g, .slice vg.den.a vg.den.n vg.den.c] 31)))
  replace HW := hide ((unhide HW).alloc (unhide HW).size (.cells #[.bool vg.num.g, .slice vg.num.a vg.num.n vg.num.c, .bool vg.den.g, .slice vg.den.a vg.den.n vg.den.c] 31))
  have enh0 := hide en0
  clear en0
  have enh1 := hide en1
  clear en1
  have p0 := (unhide V0).c0
  have p1 := (unhide V0).c1
  have p2 := (unhide V0).c2
  have p3 := (unhide V0).c3
  go_wp2_with fail
  refine (eqQ_at vg vr dr _ (unhide VG).own.sl (unhide V0).own.sl qm0 qm1).mono ?_
  rintro e w6 ⟨rfl, hb⟩
  clear p0 p1 p2 p3
  replace V0 := hide ((unhide V0).later hb)
  replace HW := hide (below_on (unhide HW) hb)
  replace VG := hide ((unhide VG).later hb)
  clear hb
  generalize w5.heap.size = GG at *
  generalize ws.heap.size = GC at *
  have p0 := (unhide VG).c0
  have p1 := (unhide VG).c1
  have p2 := (unhide VG).c2
  have p3 := (unhide VG).c3
  go_wp2_with fail
  refine (markQ_at vg dr [] [] 1 (GC + 1) GG _ (unhide VG).own ql0 ql1 (by have := (unhide VG).gt; omega) (by omega) (by omega)).mono ?_
  rintro e w21 ⟨rfl, hbt, hmk⟩
  replace HW := hide (hbt.below (unhide HW) (by omega) (unhide HW).size)
  replace V0 := hide ((unhide V0).but hbt (by omega) (by omega))
  replace VG := hide ((unhide VG).mark (d' := ⟨⟨dr.num.g, marks (1) vg.num.n⟩, ⟨dr.den.g, marks (1 + vg.num.n) vg.den.n⟩⟩) hbt (by omega) hmk)
  clear p0 p1 p2 p3 hbt hmk
  have p0 := (unhide VG).c0
  have p1 := (unhide VG).c1
  have p2 := (unhide VG).c2
  have p3 := (unhide VG).c3
  go_wp2_with fail
  refine (heldQ_at vg 1 _ ((unhide VG).own.sl (vg.num, ⟨dr.num.g, marks (1) vg.num.n⟩) (by simp)).sl ((unhide VG).own.sl (vg.den, ⟨dr.den.g, marks (1 + (vg.num.n : Int)) vg.den.n⟩) (by simp)).sl ql0 ql1 (by omega) (by omega)).mono ?_
  rintro e wk ⟨rfl, hb⟩
  replace V0 := hide ((unhide V0).later hb)
  replace HW := hide (below_on (unhide HW) hb)
  replace VG := hide ((unhide VG).later hb)
  have hr0 : ¬ ((1 : Int) + (vg.num.n : Int) + (vg.den.n : Int) < 0) := by omega
  have zk : w.heap.size ≤ wk.heap.size := by have h1 := (unhide VG).gt; omega
  clear p0 p1 p2 p3 hb
  go_wp2_with fail
  refine (unhide CI  _ ).mono ?_
  rintro e wh ⟨vh, dh, okh, rfl, hb, hown, hu⟩
  obtain ⟨e1, e2⟩ := unhide US _ _ _ _ (unhide UR) hu
  subst e1 e2
  have VH := hide (VarQ.start 31 hown)
  replace HW := hide (below_on (unhide HW) hb)
  replace V0 := hide ((unhide V0).later hb)
  replace VG := hide ((unhide VG).later hb)
  replace HW := hide ((unhide HW).alloc (unhide HW).size (.cells #[.bool vh.num.g, .slice vh.num.a vh.num.n vh.num.c, .bool vh.den.g, .slice vh.den.a vh.den.n vh.den.c] 31))
  replace V0 := hide ((unhide V0).later ((Below.refl _ _).alloc (Nat.le_refl _) (.cells #[.bool vh.num.g, .slice vh.num.a vh.num.n vh.num.c, .bool vh.den.g, .slice vh.den.a vh.den.n vh.den.c] 31)))
  replace VG := hide ((unhide VG).later ((Below.refl _ _).alloc (Nat.le_refl _) (.cells #[.bool vh.num.g, .slice vh.num.a vh.num.n vh.num.c, .bool vh.den.g, .slice vh.den.a vh.den.n vh.den.c] 31)))
  clear hb hown hu
  have hm0 : vh.num.n ≤ maxLen := by rw [← ((unhide VH).own.own (vh.num, dr.num) (by simp)).len, ((unhide V0).own.own (vr.num, dr.num) (by simp)).len]; exact rm0
  have hm1 : vh.den.n ≤ maxLen := by rw [← ((unhide VH).own.own (vh.den, dr.den) (by simp)).len, ((unhide V0).own.own (vr.den, dr.den) (by simp)).len]; exact rm1
  have p0 := (unhide VH).c0
  have pq0 := (unhide V0).c0
  have p1 := (unhide VH).c1
  have pq1 := (unhide V0).c1
  have p2 := (unhide VH).c2
  have pq2 := (unhide V0).c2
  have p3 := (unhide VH).c3
  have pq3 := (unhide V0).c3
  go_wp2_with fail
  refine (eqQ_at vh vr dr _ (unhide VH).own.sl (unhide V0).own.sl hm0 hm1).mono ?_
  rintro e w30 ⟨rfl, hb⟩
  clear p0 pq0 p1 pq1 p2 pq2 p3 pq3
  replace HW := hide (below_on (unhide HW) hb)
  replace VG := hide ((unhide VG).later hb)
  clear hb VH V0
  have p0 := (unhide VG).c0
  have p1 := (unhide VG).c1
  have p2 := (unhide VG).c2
  have p3 := (unhide VG).c3
  go_wp2_with fail
  refine (heldQ_at vg 1 _ ((unhide VG).own.sl (vg.num, ⟨dr.num.g, marks (1) vg.num.n⟩) (by simp)).sl ((unhide VG).own.sl (vg.den, ⟨dr.den.g, marks (1 + (vg.num.n : Int)) vg.den.n⟩) (by simp)).sl ql0 ql1 (by omega) (by omega)).mono ?_
  rintro e w31 ⟨rfl, hb⟩
  replace HW := hide (below_on (unhide HW) hb)
  clear p0 p1 p2 p3 hb
  go_wp2
  go_ret
  exact ⟨rfl, unhide HW⟩

theorem lawRatOf_walk (x0 : Int) (x1 : Int)  (w : World)  (wf0 : -9223372036854775808 ≤ x0 ∧ x0 ≤ 9223372036854775807) (wf1 : -9223372036854775808 ≤ x1 ∧ x1 ≤ 9223372036854775807)  :
    Calls Try.prog 4 #[.int .i64 x0, .int .i64 x1] w fun e w' => e = .returned (.bool true) ∧ Below w.heap.size w w' := by
  exact lawRatOf_in x0 x1  w  wf0 wf1 (by omega)
end Go.Proofs.Ytgekkmibddfakaa
namespace Go.Proofs.Ytgekkmibddfakaa
open Go.ChangeShapes Go.WideShapes Go.ChangeAt Go.RowKit Go.Joins
set_option linter.unusedVariables false
set_option maxRecDepth 100000
set_option linter.unusedSimpArgs false

set_option maxRecDepth 100000 in
theorem ratOf_holds_lifted (os : Os) (started : os.Started) (H : Type) (enc : TypeId × Value → H) :
    ReturnsInHanded {} Try.checked os 4 .any (Rows.fnExactRatOfSpec.pre6 enc Try.prog Try.f4 Rows.fnExactRatOfRow.domain false) (Rows.fnExactRatOfSpec.post enc Try.prog Try.f4 false true false false) := by
  refine returnsInHanded_of_change (C := Try.checked) own started (by kernel_rfl) Try.func4
    (ChangeSpec.witness6 (enc := enc) (C := Try.checked) false ⟨#[], #[.int .i64 0, .int .i64 0], []⟩ 8 (by kernel_rfl) (by kernel_rfl) (by kernel_rfl) (by kernel_rfl)) ?_
  intro W base args ds gs before hval0 hW hcnd _
  have hval : ∀ (j : Nat) t v, Try.f4.params[j]? = some t → args[j]? = some v → Value.okWide Try.prog W .any base t v := hval0
  have hW' := hW
  obtain ⟨p, q, hA0, hV, rfl, hfz, hnd⟩ := hW
  have hA : DataW.TrodAll enc Try.prog W 0 (fun _ => true) true Try.f4.params.toList args.toList ds p := hA0
  rw [Try.params4] at hA hval
  obtain ⟨v0, vs0, d0, ds0, p0, q0, hargs, rfl, rfl, h0, r0⟩ := trodAll_cons hA
  obtain ⟨v1, vs1, d1, ds1, p1, q1, rfl, rfl, rfl, h1, r1⟩ := trodAll_cons r0
  obtain ⟨rfl, rfl, rfl⟩ := trodAll_nil r1
  obtain rfl : args = #[v0, v1] := by cases args; simp_all
  obtain ⟨rfl, rfl⟩ := trodVars_none hV
  obtain ⟨x0, rfl, rfl, rfl, w0⟩ := open_int Try.underlying3 (hval 0 3 v0 rfl rfl) h0
  obtain ⟨x1, rfl, rfl, rfl, w1⟩ := open_int Try.underlying3 (hval 1 3 v1 rfl rfl) h1
  clear hA0 hval0
  refine (lawRatOf_walk x0 x1 W (open_wf w0) (open_wf w1)).mono fun e W' ⟨he, bel⟩ => ?_
  subst he
  exact ⟨_, rfl, _, _, _, [], _, [], hW', trodAll_mk1 (shut_bool Try.underlying4 _), (trodAll_cons_mk (shut_int Try.underlying3 w0) (trodAll_cons_mk (shut_int Try.underlying3 w1) trodAll_mk0)), rfl, bel.frame _, fun h => by cases h⟩

theorem ratOf_holds_c0 : (Rows.fnExactRatOfRow.wf (OpenSpec.ofChange Rows.fnExactRatOfSpec)) = true := by kernel_rfl
theorem ratOf_holds_c1 : (laidOutB Try.pinned.checked.prog) = true := by kernel_rfl
theorem ratOf_holds_c2 : (mapsRowed Try.pinned.checked.prog) = true := by kernel_rfl
theorem ratOf_holds_c3 : (Try.f4.params.all (Try.pinned.checked.prog.readableRec ·)) = true := by kernel_rfl
theorem ratOf_holds_c4 : (namedTie Try.pinned.checked.prog Rows.fnExactRatOfRow.named Rows.fnExactRatOfSpec.vars) = true := by kernel_rfl
theorem ratOf_holds_c5 : (Rows.fnExactRatOfRow.stops == []) = true := by kernel_rfl
theorem ratOf_holds_c6 : (Try.pinned.checked.prog.stops == []) = true := by kernel_rfl
theorem ratOf_holds_c7 : (Rows.fnExactRatOfRow.knobs == []) = true := by kernel_rfl
theorem ratOf_holds_c8 : (Try.pinned.checked.prog.stopKnobs == []) = true := by kernel_rfl
theorem ratOf_holds_c9 : (Rows.fnExactRatOfRow.inPlace == Try.pinned.checked.prog.inPlace 4) = true := by kernel_rfl
theorem ratOf_holds_c10 : (Rows.fnExactRatOfRow.unfollowed == Try.pinned.checked.prog.unfollowed 4) = true := by kernel_rfl
theorem ratOf_holds_c11 : (Rows.fnExactRatOfRow.recurses == Try.pinned.checked.prog.recurses 4) = true := by kernel_rfl
theorem ratOf_holds_c12 : (Rows.fnExactRatOfRow.named == Try.pinned.checked.prog.varsNamed 4) = true := by kernel_rfl
theorem ratOf_holds_c13 : (Rows.fnExactRatOfRow.maps == (Try.f4.params.toList ++ Rows.fnExactRatOfSpec.plain.varTypes Try.pinned.checked.prog).any (Try.pinned.checked.prog.mapsRec ·)) = true := by kernel_rfl
theorem ratOf_holds_c14 : (Rows.fnExactRatOfRow.ifaces == (Try.f4.params.toList ++ Rows.fnExactRatOfSpec.plain.varTypes Try.pinned.checked.prog).any (Try.pinned.checked.prog.ifacesRec ·)) = true := by kernel_rfl
theorem ratOf_holds_c15 : (Rows.fnExactRatOfRow.mapsOut == Try.pinned.checked.prog.mapsAmong Try.f4.resultTypes.toList) = true := by kernel_rfl
theorem ratOf_holds_c16 : (Rows.fnExactRatOfRow.loops == (Try.f4.params.toList ++ Rows.fnExactRatOfSpec.plain.varTypes Try.pinned.checked.prog).any (Try.pinned.checked.prog.loopsFrom ·)) = true := by kernel_rfl
theorem ratOf_holds_c17 : (Rows.fnExactRatOfRow.wideKeys == (Try.f4.params.toList ++ Rows.fnExactRatOfSpec.plain.varTypes Try.pinned.checked.prog ++ Try.f4.resultTypes.toList).any (Try.pinned.checked.prog.wideKeysFrom ·)) = true := by kernel_rfl
theorem ratOf_holds_c18 : (Rows.fnExactRatOfSpec.vars.all (Try.pinned.checked.prog.varReadable ·)) = true := by kernel_rfl
theorem ratOf_holds_c19 : (Try.f4.resultTypes.all (fun t => Try.pinned.checked.prog.readableRec t && decide (t < Try.pinned.checked.prog.types.size))) = true := by kernel_rfl
theorem ratOf_holds_c20 : (Rows.fnExactRatOfRow.ifacesOut == Try.f4.resultTypes.toList.any (Try.pinned.checked.prog.ifacesRec ·)) = true := by kernel_rfl
theorem ratOf_holds_c21 : (Rows.fnExactRatOfRow.loopsOut == Try.f4.resultTypes.toList.any (Try.pinned.checked.prog.loopsFrom ·)) = true := by kernel_rfl
theorem ratOf_holds_c22 : (Rows.fnExactRatOfRow.plainKeys == Try.pinned.checked.prog.plainKeys) = true := by kernel_rfl
theorem ratOf_holds_c23 : (Rows.fnExactRatOfRow.shortTexts.isNone) = true := by kernel_rfl
theorem ratOf_holds_c24 : (Try.pinned.checked.prog.stopsHeard) = true := by kernel_rfl
theorem ratOf_holds_c25 : (Try.pinned.checked.prog.mayEnter) = true := io_enter
theorem ratOf_holds_c26 : (Rows.fnExactRatOfRow.lifted == Try.pinned.checked.prog.liftsFinal) = true := by rw [io_lifts]; kernel_rfl
theorem ratOf_holds_c27 : (Try.pinned.checked.prog.make == some Rows.fnExactRatOfRow.make) = true := by rw [io_make]; kernel_rfl
theorem ratOf_holds_c28 : (Rows.fnExactRatOfRow.kinds == (if Rows.fnExactRatOfRow.domain.isEmpty then [] else Try.f4.params.toList.map fun t => match Try.pinned.checked.prog.underlying t with | some (.int k) => some k | _ => none)) = true := by kernel_rfl
theorem ratOf_holds_c29 : (Rows.fnExactRatOfRow.pinned == Rows.fnExactRatOfRow.pinnedBy) = true := by kernel_rfl
theorem ratOf_holds_c30 : (Rows.fnExactRatOfRow.veiled == (Try.f4.params.toList ++ Rows.fnExactRatOfSpec.plain.varTypes Try.pinned.checked.prog ++ Try.f4.resultTypes.toList).any (Try.pinned.checked.prog.veiledRec ·)) = true := by kernel_rfl
theorem ratOf_holds_c31 : (Rows.fnExactRatOfRow.veiledFits Try.pinned.checked.prog Try.f4.params.toList (Try.f4.params.toList ++ Rows.fnExactRatOfSpec.plain.varTypes Try.pinned.checked.prog ++ Try.f4.resultTypes.toList)) = true := by kernel_rfl
theorem ratOf_holds_and {a b : Bool} (h : a = true) (k : b = true) : (a && b) = true := by rw [h, k]; rfl
theorem ratOf_holds_closed : joinedFacts Try.pinned.checked.prog 4 Try.f4 Rows.fnExactRatOfSpec Rows.fnExactRatOfRow = true := (ratOf_holds_and (ratOf_holds_and (ratOf_holds_and (ratOf_holds_and (ratOf_holds_and (ratOf_holds_and (ratOf_holds_and (ratOf_holds_and (ratOf_holds_and (ratOf_holds_and (ratOf_holds_and (ratOf_holds_and (ratOf_holds_and (ratOf_holds_and (ratOf_holds_and (ratOf_holds_and (ratOf_holds_and (ratOf_holds_and (ratOf_holds_and (ratOf_holds_and (ratOf_holds_and (ratOf_holds_and (ratOf_holds_and (ratOf_holds_and (ratOf_holds_and (ratOf_holds_and (ratOf_holds_and (ratOf_holds_and (ratOf_holds_and (ratOf_holds_and (ratOf_holds_and ratOf_holds_c0 ratOf_holds_c1) ratOf_holds_c2) ratOf_holds_c3) ratOf_holds_c4) ratOf_holds_c5) ratOf_holds_c6) ratOf_holds_c7) ratOf_holds_c8) ratOf_holds_c9) ratOf_holds_c10) ratOf_holds_c11) ratOf_holds_c12) ratOf_holds_c13) ratOf_holds_c14) ratOf_holds_c15) ratOf_holds_c16) ratOf_holds_c17) ratOf_holds_c18) ratOf_holds_c19) ratOf_holds_c20) ratOf_holds_c21) ratOf_holds_c22) ratOf_holds_c23) ratOf_holds_c24) ratOf_holds_c25) ratOf_holds_c26) ratOf_holds_c27) ratOf_holds_c28) ratOf_holds_c29) ratOf_holds_c30) ratOf_holds_c31)
theorem ratOf_holds_named : Try.pinned.checked.prog.funcNamed Rows.fnExactRatOfRow.func = some 4 := by kernel_rfl
theorem ratOf_holds_inst : Try.f4.isInstance Try.pinned.checked.prog Rows.fnExactRatOfRow.origin Rows.fnExactRatOfRow.targs := of_decide_eq_true (by kernel_rfl)
theorem ratOf_holds_wrap : Try.f4.isWrapper Try.pinned.checked.prog Rows.fnExactRatOfRow.wrapper Rows.fnExactRatOfRow.mainSum := by unfold Func.isWrapper; first | (rw [if_pos (by decide +kernel)]; kernel_rfl) | (rw [if_neg (by decide +kernel)]; exact ⟨rfl, rfl⟩)
theorem ratOf_holds : Rows.FnExactRatOfSaid :=
  OpenClaim.holds_of_wide 4 Try.f4 rfl rfl rfl rfl rfl rfl rfl ⟨rfl, rfl, rfl, rfl, rfl⟩ rfl rfl rfl rfl rfl ratOf_holds_named Try.func4 ratOf_holds_closed ratOf_holds_inst ratOf_holds_wrap
    (fun os started H enc _ => ratOf_holds_lifted os started H enc)
#print axioms ratOf_holds
end Go.Proofs.Ytgekkmibddfakaa
