/- The law FnExactSweepOf returns true for every argument and leaves it as it was: the given statement FnExactSweepOfSaid. No condition. -/
import Derived.Test.YtikllcoekcglcaaGreatPkR7
import Derived.Test.YtikllcoekcglcaaGreatPkR6
import Derived.Test.YtikllcoekcglcaaGreatPkR9
import Derived.Test.YtikllcoekcglcaaGreatPkR5
import Derived.Test.YtikllcoekcglcaaGreatPkR4
namespace Go.Proofs.YtikllcoekcglcaaGreat
open Go.RowKit
set_option linter.unusedVariables false
set_option maxRecDepth 100000
set_option linter.unusedSimpArgs false


set_option maxHeartbeats 8000000 in
theorem SwpI (a : Option Addr) (n c : Nat) (l : List (SV × SD)) (w : World) (h : PArS w a n c l) :
    Calls Tryz.prog 35 #[.slice a n c] w (RetQ w (AnsQ (gCv (l.map Prod.snd)) (nR (outI (pwL (vC l)) (vC l).length)) (dR (outI (pwL (vC l)) (vC l).length)))) := by
  have HS := hide h
  have HN := hide h.len
  clear h
  have CG := hide (fun w1 (k : PArS w1 a n c l) => GoodCI a n c l w1 k)
  cases hp : gCv (l.map Prod.snd)
  · rw [hp] at CG
    have B0 := hide (show Below w.heap.size w (w.alloc (.cells #[.bool false, .slice none 0 0, .bool false, .slice none 0 0] 28)) from ((Below.refl _ _).alloc (by simp) _))
    go_enter Tryz.func35, Tryz.ntmps35
    go_wp2_with fail
    refine (unhide CG _ ((unhide HS).later (unhide B0))).mono ?_
    rintro e w1 ⟨rfl, hb⟩
    have s1 := hb.size
    simp at s1
    have k0_0 : w1.cell? ⟨w.heap.size, 0, none⟩ = some (.bool false) := cell_later hb (by simp [go_sem])
    have k0_1 : w1.cell? ⟨w.heap.size, 1, none⟩ = some (.slice none 0 0) := cell_later hb (by simp [go_sem])
    have k0_2 : w1.cell? ⟨w.heap.size, 2, none⟩ = some (.bool false) := cell_later hb (by simp [go_sem])
    have k0_3 : w1.cell? ⟨w.heap.size, 3, none⟩ = some (.slice none 0 0) := cell_later hb (by simp [go_sem])
    have z0 : ∀ o, w1.frozen? ⟨w.heap.size, o, none⟩ = false := fun o => frozen_later hb (by simp) (by simp [go_sem])
    have HB := hide (below_on (unhide B0) hb)
    clear hb
    go_wp2
    refine bodyPost_ret (v := .tuple #[.agg #[.bool false, .slice none 0 0, .bool false, .slice none 0 0], .bool false]) (by simp [results, Tryz.results35, go_sem, k0_0, k0_1, k0_2, k0_3]) rfl ?_
    exact retQ_fin (v := (⟨⟨false, none, 0, 0⟩, ⟨false, none, 0, 0⟩⟩ : QV)) (d := (⟨⟨false, []⟩, ⟨false, []⟩⟩ : QD)) (R := w.heap.size) (by omega) (unhide HB) (metQ_but (w5 := w1) (v := (⟨⟨false, none, 0, 0⟩, ⟨false, none, 0, 0⟩⟩ : QV)) (G := w.heap.size)) (zeroQ _ _ _) (ansQ_none _ _)
  · rw [hp] at CG
    have n5 : 1 ≤ n ∧ n ≤ 5 := by have := (gCv_mem hp).1; rw [List.length_map, unhide HN] at this; exact this
    have RD := hide (rdC_good (unhide HS) hp)
    have BD := hide (bdC_good hp)
    have B2 := hide (bdC_two hp)
    have LP : Hid ((vC l).length = n) := hide (unhide RD).len
    have B0 := hide (show Below w.heap.size w (w.alloc (.cells #[.bool false, .slice none 0 0, .bool false, .slice none 0 0] 28)) from ((Below.refl _ _).alloc (by simp) _))
    go_enter Tryz.func35, Tryz.ntmps35
    go_wp2_with fail
    refine (unhide CG _ ((unhide HS).later (unhide B0))).mono ?_
    rintro e w1 ⟨rfl, hb⟩
    have s1 := hb.size
    simp at s1
    have k0_0 : w1.cell? ⟨w.heap.size, 0, none⟩ = some (.bool false) := cell_later hb (by simp [go_sem])
    have k0_1 : w1.cell? ⟨w.heap.size, 1, none⟩ = some (.slice none 0 0) := cell_later hb (by simp [go_sem])
    have k0_2 : w1.cell? ⟨w.heap.size, 2, none⟩ = some (.bool false) := cell_later hb (by simp [go_sem])
    have k0_3 : w1.cell? ⟨w.heap.size, 3, none⟩ = some (.slice none 0 0) := cell_later hb (by simp [go_sem])
    have z0 : ∀ o, w1.frozen? ⟨w.heap.size, o, none⟩ = false := fun o => frozen_later hb (by simp) (by simp [go_sem])
    have HB := hide (below_on (unhide B0) hb)
    clear hb
    go_wp2_with fail
    refine (powI a n c l (vC l) _ ((unhide RD).later (unhide HB)) (unhide BD) n5.1 n5.2).mono ?_
    rintro e w2 ⟨a2, n2, c2, l2, rfl, hb, ro2, rd2⟩
    have s2 := hb.size
    have RD2 := hide rd2
    obtain rfl : n2 = n := by have := rd2.len; rw [pwL_len, unhide LP] at this; exact this.symm
    clear ro2 rd2
    replace z0 := fun o => frozen_later hb (World.block_lt_of_cell? _ _ k0_0) (z0 o)
    replace k0_0 := cell_later hb k0_0
    replace k0_1 := cell_later hb k0_1
    replace k0_2 := cell_later hb k0_2
    replace k0_3 := cell_later hb k0_3
    replace HB := hide (below_on (unhide HB) hb)
    clear hb
    go_wp2_with fail
    refine (swpI a2 n2 c2 l2 (pwL (vC l)) _ (unhide RD2) (pwL_bd2 (unhide B2) (by rw [unhide LP]; omega)) n5.1 n5.2).mono ?_
    rintro e w3 ⟨r, xs, us, rfl, hb, ho, ha, n1, n2'⟩
    have s3 := hb.size
    have HO := hide ho
    have m1 : r.den.n ≤ maxLen := Nat.le_trans ha.tail.head.ar.cap ha.tail.head.ar.top
    have NN := hide (And.intro n1 n2')
    clear ho ha n1 n2'
    replace z0 := fun o => frozen_later hb (World.block_lt_of_cell? _ _ k0_0) (z0 o)
    replace k0_0 := cell_later hb k0_0
    replace k0_1 := cell_later hb k0_1
    replace k0_2 := cell_later hb k0_2
    replace k0_3 := cell_later hb k0_3
    replace HB := hide (below_on (unhide HB) hb)
    clear hb
    go_wp2_with fail
    refine (whereQ r _ _ xs us w2.heap.size w3.heap.size _ (unhide HO) (Nat.le_refl _) m1 (unhide NN).1 (unhide NN).2 (dR_ne _)).mono ?_
    rintro e w4 ⟨r2, d2, ok, rfl, hb, ov, hu⟩
    have s4 := hb.size
    have OV := hide ov
    have UU : Hid (AnsQ true (nR (outI (pwL (vC l)) (vC l).length)) (dR (outI (pwL (vC l)) (vC l).length)) d2 ok) := hide (by rw [unhide LP]; exact hu)
    clear ov hu
    replace z0 := fun o => frozen_later hb (World.block_lt_of_cell? _ _ k0_0) (z0 o)
    replace k0_0 := cell_later hb k0_0
    replace k0_1 := cell_later hb k0_1
    replace k0_2 := cell_later hb k0_2
    replace k0_3 := cell_later hb k0_3
    replace HB := hide (below_on (unhide HB) hb)
    clear hb
    go_wp2
    refine bodyPost_ret (v := .tuple #[.agg #[.bool r2.num.g, .slice r2.num.a r2.num.n r2.num.c, .bool r2.den.g, .slice r2.den.a r2.den.n r2.den.c], .bool ok]) (by simp [results, Tryz.results35, go_sem, k0_0, k0_1, k0_2, k0_3]) rfl ?_
    exact retQ_fin (v := r2) (d := d2) (R := w.heap.size) (by omega) (unhide HB) (metQ_but (w5 := w4) (v := r2) (G := w.heap.size)) ((unhide OV).wide (by omega) (by omega)) (unhide UU)
end Go.Proofs.YtikllcoekcglcaaGreat
namespace Go.Proofs.YtikllcoekcglcaaGreat
open Go.RowKit
set_option linter.unusedVariables false
set_option maxRecDepth 100000
set_option linter.unusedSimpArgs false


set_option maxHeartbeats 8000000 in
theorem SwpS (a : Option Addr) (n c : Nat) (l : List (SV × SD)) (w : World) (h : PArS w a n c l) (ht : TypZ w (zipPS l)) :
    Calls Tryz.prog 36 #[.slice a n c] w (RetQ w (AnsQ (gCv (l.map Prod.snd)) (nR (outI (pwL (vC l)) (vC l).length)) (dR (outI (pwL (vC l)) (vC l).length)))) := by
  have HS := hide h
  have HN := hide h.len
  have HT := hide ht
  clear h ht
  have CG := hide (fun w1 (k : PArS w1 a n c l) => GoodCS a n c l w1 k)
  cases hp : gCv (l.map Prod.snd)
  · rw [hp] at CG
    have B0 := hide (show Below w.heap.size w (w.alloc (.cells #[.bool false, .slice none 0 0, .bool false, .slice none 0 0] 28)) from ((Below.refl _ _).alloc (by simp) _))
    go_enter Tryz.func36, Tryz.ntmps36
    go_wp2_with fail
    refine (unhide CG _ ((unhide HS).later (unhide B0))).mono ?_
    rintro e w1 ⟨rfl, hb⟩
    have s1 := hb.size
    simp at s1
    have k0_0 : w1.cell? ⟨w.heap.size, 0, none⟩ = some (.bool false) := cell_later hb (by simp [go_sem])
    have k0_1 : w1.cell? ⟨w.heap.size, 1, none⟩ = some (.slice none 0 0) := cell_later hb (by simp [go_sem])
    have k0_2 : w1.cell? ⟨w.heap.size, 2, none⟩ = some (.bool false) := cell_later hb (by simp [go_sem])
    have k0_3 : w1.cell? ⟨w.heap.size, 3, none⟩ = some (.slice none 0 0) := cell_later hb (by simp [go_sem])
    have z0 : ∀ o, w1.frozen? ⟨w.heap.size, o, none⟩ = false := fun o => frozen_later hb (by simp) (by simp [go_sem])
    have HB := hide (below_on (unhide B0) hb)
    clear hb
    go_wp2
    refine bodyPost_ret (v := .tuple #[.agg #[.bool false, .slice none 0 0, .bool false, .slice none 0 0], .bool false]) (by simp [results, Tryz.results36, go_sem, k0_0, k0_1, k0_2, k0_3]) rfl ?_
    exact retQ_fin (v := (⟨⟨false, none, 0, 0⟩, ⟨false, none, 0, 0⟩⟩ : QV)) (d := (⟨⟨false, []⟩, ⟨false, []⟩⟩ : QD)) (R := w.heap.size) (by omega) (unhide HB) (metQ_but (w5 := w1) (v := (⟨⟨false, none, 0, 0⟩, ⟨false, none, 0, 0⟩⟩ : QV)) (G := w.heap.size)) (zeroQ _ _ _) (ansQ_none _ _)
  · rw [hp] at CG
    have n5 : 1 ≤ n ∧ n ≤ 5 := by have := (gCv_mem hp).1; rw [List.length_map, unhide HN] at this; exact this
    have RD := hide (rdC_good (unhide HS) hp)
    have BD := hide (bdC_good hp)
    have B2 := hide (bdC_two hp)
    have LP : Hid ((vC l).length = n) := hide (unhide RD).len
    have B0 := hide (show Below w.heap.size w (w.alloc (.cells #[.bool false, .slice none 0 0, .bool false, .slice none 0 0] 28)) from ((Below.refl _ _).alloc (by simp) _))
    go_enter Tryz.func36, Tryz.ntmps36
    go_wp2_with fail
    refine (unhide CG _ ((unhide HS).later (unhide B0))).mono ?_
    rintro e w1 ⟨rfl, hb⟩
    have s1 := hb.size
    simp at s1
    have k0_0 : w1.cell? ⟨w.heap.size, 0, none⟩ = some (.bool false) := cell_later hb (by simp [go_sem])
    have k0_1 : w1.cell? ⟨w.heap.size, 1, none⟩ = some (.slice none 0 0) := cell_later hb (by simp [go_sem])
    have k0_2 : w1.cell? ⟨w.heap.size, 2, none⟩ = some (.bool false) := cell_later hb (by simp [go_sem])
    have k0_3 : w1.cell? ⟨w.heap.size, 3, none⟩ = some (.slice none 0 0) := cell_later hb (by simp [go_sem])
    have z0 : ∀ o, w1.frozen? ⟨w.heap.size, o, none⟩ = false := fun o => frozen_later hb (by simp) (by simp [go_sem])
    have HB := hide (below_on (unhide B0) hb)
    clear hb
    go_wp2_with fail
    refine (swpS a n c l (vC l) _ ((unhide RD).later (unhide HB)) (unhide B2) n5.1 n5.2 ((unhide HT).later (unhide HB)) _ rfl).mono ?_
    rintro e w2 ⟨r, rfl, hb, on, od⟩
    have s2 := hb.size
    have IR := hide (OwV.mk on od).is
    clear on od
    replace z0 := fun o => frozen_later hb (World.block_lt_of_cell? _ _ k0_0) (z0 o)
    replace k0_0 := cell_later hb k0_0
    replace k0_1 := cell_later hb k0_1
    replace k0_2 := cell_later hb k0_2
    replace k0_3 := cell_later hb k0_3
    replace HB := hide (below_on (unhide HB) hb)
    clear hb
    go_wp2_with fail
    refine (fitsQS r _ _ _ (unhide IR) (dR_pos _)).mono ?_
    rintro e w3 ⟨r2, d2, ok, rfl, hb, ov, hu⟩
    have s3 := hb.size
    have OV := hide ov
    have UU : Hid (AnsQ true (nR (outI (pwL (vC l)) (vC l).length)) (dR (outI (pwL (vC l)) (vC l).length)) d2 ok) := hide (by rw [unhide LP, ← sums_eq _ n5.1 n5.2]; exact hu)
    clear ov hu
    replace z0 := fun o => frozen_later hb (World.block_lt_of_cell? _ _ k0_0) (z0 o)
    replace k0_0 := cell_later hb k0_0
    replace k0_1 := cell_later hb k0_1
    replace k0_2 := cell_later hb k0_2
    replace k0_3 := cell_later hb k0_3
    replace HB := hide (below_on (unhide HB) hb)
    clear hb
    go_wp2
    refine bodyPost_ret (v := .tuple #[.agg #[.bool r2.num.g, .slice r2.num.a r2.num.n r2.num.c, .bool r2.den.g, .slice r2.den.a r2.den.n r2.den.c], .bool ok]) (by simp [results, Tryz.results36, go_sem, k0_0, k0_1, k0_2, k0_3]) rfl ?_
    exact retQ_fin (v := r2) (d := d2) (R := w.heap.size) (by omega) (unhide HB) (metQ_but (w5 := w3) (v := r2) (G := w.heap.size)) ((unhide OV).wide (by omega) (by omega)) (unhide UU)
end Go.Proofs.YtikllcoekcglcaaGreat
namespace Go.Proofs.YtikllcoekcglcaaGreat
open Go.RowKit
set_option linter.unusedVariables false
set_option maxRecDepth 100000
set_option linter.unusedSimpArgs false

set_option maxRecDepth 100000 in
set_option maxHeartbeats 16000000 in
theorem lawSwp_walk (a0 : Option Addr) (n0 c0 : Nat) (l0 : List (SV × SD))   (w : World) (h0 : PSlS w a0 l0) (hn0 : l0.length = n0)  (hm0 : n0 ≤ maxLen) (ml0 : ∀ p ∈ l0, p.1.lo.num.n ≤ maxLen ∧ p.1.lo.den.n ≤ maxLen ∧ p.1.hi.num.n ≤ maxLen ∧ p.1.hi.den.n ≤ maxLen)  :
    Calls Tryz.prog 11 #[.slice a0 n0 c0] w fun e w' => e = .returned (.bool true) ∧ Below w.heap.size w w' := by
  obtain ⟨U, HU⟩ : ∃ U : QD → Bool → Prop, Hid (U = AnsQ (gCv (l0.map Prod.snd)) (nR (outI (pwL (vC l0)) (vC l0).length)) (dR (outI (pwL (vC l0)) (vC l0).length))) := ⟨_, hide rfl⟩
  have US : Hid (∀ d ok d' ok', U d ok → U d' ok' → d = d' ∧ ok = ok') := hide (by rw [unhide HU]; exact fun d ok d' ok' h k => h.same k)
  have UL : Hid (∀ d ok, U d ok → d.num.xs.length ≤ 40 ∧ d.den.xs.length ≤ 40) := hide (by rw [unhide HU]; exact fun d ok h => h.lens)
  have CS : Hid (∀ (a : Option Addr) (n c : Nat) (k : List (SV × SD))  (w : World), PArT w a n c k → k.map Prod.snd = l0.map Prod.snd → Calls Tryz.prog 36 #[.slice a n c] w (RetQ w U)) := hide (by rw [unhide HU]; exact fun a n c k w h e => by have := SwpS a n c k w h.ar h.typ; rw [vC_eq e, e] at this; exact this)
  have CI : Hid (∀ (a : Option Addr) (n c : Nat) (k : List (SV × SD))  (w : World), PArS w a n c k → k.map Prod.snd = l0.map Prod.snd → Calls Tryz.prog 35 #[.slice a n c] w (RetQ w U)) := hide (by rw [unhide HU]; exact fun a n c k w h e => by have := SwpI a n c k w h; rw [vC_eq e, e] at this; exact this)
  clear HU
  have SZ0 := hide (fun w1 (left : Int) (b0 : 0 ≤ left) (b1 : left ≤ 1048576) (k : PSlS w1 a0 l0) => szPS a0 n0 c0 l0 left w1 k hn0 hm0 ml0 b0 b1)
  have HS0 := hide h0
  have HN0 := hide hn0
  clear h0 hn0 hm0 ml0 
  have HB := hide (Below.refl w.heap.size w)
  go_enter Tryz.func11, Tryz.ntmps11
  go_wp2_with fail
  refine (unhide SZ0 _ 1048576 (by omega) (by omega) ((unhide HS0).later (unhide HB))).mono ?_
  rintro e ws0 ⟨r0, rfl, hb, hr⟩
  have z := hb.size
  replace HB := hide (below_on (unhide HB) hb)
  clear hb SZ0
  replace z : w.heap.size ≤ ws0.heap.size := z
  by_cases hneg : r0 < 0
  · clear hr
    go_wp2
    go_ret
    exact ⟨rfl, (unhide HB)⟩
  have e0 : Hid (r0 = 1048576 - (n0 : Int) - (lenPS l0 : Int)) := hide (by
    rcases hr with e | e
    · exact absurd (show r0 < 0 by omega) hneg
    · exact e.2)
  clear hr
  have b0 : r0 ≤ 1048576 := by have := unhide e0; omega
  have pp0 : 0 ≤ r0 := by omega
  have M0 : Hid (∀ p ∈ l0, p.1.lo.num.n ≤ 1048576 ∧ p.1.lo.den.n ≤ 1048576 ∧ p.1.hi.num.n ≤ 1048576 ∧ p.1.hi.den.n ≤ 1048576) := hide (fun p hp => by have h1 := lenPS_mem hp; have h2 : lenS p = p.1.lo.num.n + p.1.lo.den.n + p.1.hi.num.n + p.1.hi.den.n := rfl; have := unhide e0; omega)
  have Z0 : Hid (4 * n0 + lenPS l0 ≤ 4200000) := hide (by have := unhide e0; omega)
  have TT0 := hide (fun w1 (k : PSlS w1 a0 l0) => toPS a0 n0 c0 l0 w1 k (unhide HN0) (by have := unhide e0; omega) (unhide M0))
  go_wp2_with fail
  refine (unhide TT0 _ ((unhide HS0).later (unhide HB))).mono ?_
  rintro e ws ⟨ls, rfl, hb, zs, ds, os⟩
  have szs := hb.size
  replace HB := hide (below_on (unhide HB) hb)
  have Ds := hide ds
  have Os := hide os
  clear hb ds os
  go_wp2_with fail
  refine (unhide CS _ _ _ ls _ (unhide Os).argT (unhide Ds)).mono ?_
  rintro e wc ⟨vr, dr, okr, rfl, hb, hown, hu⟩
  have V0 := hide (VarQ.start 28 hown)
  have UR := hide hu
  have ss := hb.size
  replace HB := hide (below_on (unhide HB) hb)
  replace HB := hide ((unhide HB).alloc (unhide HB).size (.cells #[.bool vr.num.g, .slice vr.num.a vr.num.n vr.num.c, .bool vr.den.g, .slice vr.den.a vr.den.n vr.den.c] 28))
  clear hb hown hu Os Ds
  have zG1 : w.heap.size ≤ wc.heap.size := by omega
  have r_0 : vr.num.n ≤ 40 := by rw [← ((unhide V0).own.own (vr.num, dr.num) (by simp)).len]; exact (unhide UL _ _ (unhide UR)).1
  have rm0 : vr.num.n ≤ maxLen := by unfold maxLen; omega
  have rl0 : vr.num.n ≤ 1048576 := by omega
  have r_1 : vr.den.n ≤ 40 := by rw [← ((unhide V0).own.own (vr.den, dr.den) (by simp)).len]; exact (unhide UL _ _ (unhide UR)).2
  have rm1 : vr.den.n ≤ maxLen := by unfold maxLen; omega
  have rl1 : vr.den.n ≤ 1048576 := by omega
  go_wp2_with fail
  refine (unhide TT0 _ ((unhide HS0).later (unhide HB))).mono ?_
  rintro e wx ⟨lx, rfl, hb, zx, dx, ox⟩
  have szx := hb.size
  simp only [World.size_alloc] at ox szx zx
  replace V0 := hide ((unhide V0).later hb)
  replace HB := hide (below_on (unhide HB) hb)
  have Dx := hide dx
  have Ox := hide ox
  clear hb dx ox
  go_wp2_with fail
  refine (unhide CI _ _ _ lx  _ (unhide Ox).arg (unhide Dx) ).mono ?_
  rintro e w5 ⟨vg, dg, okg, rfl, hb, hown, hu⟩
  obtain ⟨e1, e2⟩ := unhide US _ _ _ _ (unhide UR) hu
  subst e1 e2
  have VG := hide (VarQ.start 28 hown)
  have sg : wx.heap.size ≤ w5.heap.size := by have := hb.size; exact this
  have en0 : vg.num.n = vr.num.n := by rw [← ((unhide VG).own.own (vg.num, dr.num) (by simp)).len, ← ((unhide V0).own.own (vr.num, dr.num) (by simp)).len]
  have q0 : vg.num.n ≤ 40 := by omega
  have qm0 : vg.num.n ≤ maxLen := by omega
  have ql0 : vg.num.n ≤ 1048576 := by omega
  have en1 : vg.den.n = vr.den.n := by rw [← ((unhide VG).own.own (vg.den, dr.den) (by simp)).len, ← ((unhide V0).own.own (vr.den, dr.den) (by simp)).len]
  have q1 : vg.den.n ≤ 40 := by omega
  have qm1 : vg.den.n ≤ maxLen := by omega
  have ql1 : vg.den.n ≤ 1048576 := by omega
  replace V0 := hide ((unhide V0).later hb)
  replace Ox := hide ((unhide Ox).later hb)
  replace HB := hide (below_on (unhide HB) hb)
  clear hb hown hu
  replace V0 := hide ((unhide V0).later ((Below.refl _ _).alloc (Nat.le_refl _) (.cells #[.bool vg.num.g, .slice vg.num.a vg.num.n vg.num.c, .bool vg.den.g, .slice vg.den.a vg.den.n vg.den.c] 28)))
  replace Ox := hide ((unhide Ox).later ((Below.refl _ _).alloc (Nat.le_refl _) (.cells #[.bool vg.num.g, .slice vg.num.a vg.num.n vg.num.c, .bool vg.den.g, .slice vg.den.a vg.den.n vg.den.c] 28)))
  replace HB := hide ((unhide HB).alloc (unhide HB).size (.cells #[.bool vg.num.g, .slice vg.num.a vg.num.n vg.num.c, .bool vg.den.g, .slice vg.den.a vg.den.n vg.den.c] 28))
  have enh0 := hide en0
  clear en0
  have enh1 := hide en1
  clear en1
  have PX : Hid (PRoZ (wc.heap.size + 1) wx.heap.size (w5.alloc (.cells #[.bool vg.num.g, .slice vg.num.a vg.num.n vg.num.c, .bool vg.den.g, .slice vg.den.a vg.den.n vg.den.c] 28)) (some ⟨wc.heap.size + 1, 0, none⟩) n0 n0 lx) := hide ((unhide Ox).ro (Nat.lt_succ_self _) (by omega) (by rw [lenPS_sndZ (unhide Ox).arg.sl (unhide HS0) (unhide Dx)]; exact unhide Z0) (ml_sndZ (unhide Ox).arg.sl (unhide HS0) (unhide Dx) (unhide M0)))
  have KL : Hid (lenPS lx = lenPS l0 ∧ lx.length = n0) := hide ⟨lenPS_sndZ (unhide Ox).arg.sl (unhide HS0) (unhide Dx), (unhide Ox).len⟩
  clear Ox
  have p0 := (unhide V0).c0
  have p1 := (unhide V0).c1
  have p2 := (unhide V0).c2
  have p3 := (unhide V0).c3
  have okk : (okr == okr) = true := by simp
  go_wp2_with fail
  refine (eqQ_at vg vr dr _ (unhide VG).own.sl (unhide V0).own.sl qm0 qm1).mono ?_
  rintro e w6 ⟨rfl, hb⟩
  have sz6 := hb.size
  clear p0 p1 p2 p3
  replace V0 := hide ((unhide V0).later hb)
  replace VG := hide ((unhide VG).later hb)
  replace PX := hide ((unhide PX).later hb)
  replace HB := hide (below_on (unhide HB) hb)
  clear hb
  go_wp2_with fail
  refine (unhide TT0 _ ((unhide HS0).later (unhide HB))).mono ?_
  rintro e wy ⟨ly, rfl, hb, zy, dy, oy⟩
  have szy := hb.size
  replace V0 := hide ((unhide V0).later hb)
  replace VG := hide ((unhide VG).later hb)
  replace PX := hide ((unhide PX).later hb)
  replace HB := hide (below_on (unhide HB) hb)
  have Dy := hide dy
  have Oy := hide oy
  clear hb dy oy
  go_wp2_with fail
  refine (eqPS _ _ n0 _ _ lx ly _ (unhide PX).sl (unhide Oy).arg.sl (unhide PX).len ((unhide Dx).trans (unhide Dy).symm) (unhide PX).max (unhide PX).lens).mono ?_
  rintro e wy1 ⟨rfl, hb⟩
  have szy1 := hb.size
  replace V0 := hide ((unhide V0).later hb)
  replace VG := hide ((unhide VG).later hb)
  replace PX := hide ((unhide PX).later hb)
  replace HB := hide (below_on (unhide HB) hb)
  clear hb Oy Dy zy
  have WW : w5.heap.size + 1 ≤ wy1.heap.size := by simp at sz6; omega
  clear sz6 szy szy1
  generalize w5.heap.size = GG at *
  generalize wx.heap.size = GX0 at *
  generalize wc.heap.size = GC at *
  go_wp2_with fail
  refine (markRZ _ _ _ n0 n0 lx _ (unhide PX) (by omega)).mono ?_
  rintro e wm0 ⟨rfl, hbt, _⟩
  have kb : 0 ≤ enZ 1 lx ∧ enZ 1 lx = 1 + 4 * (n0 : Int) + (lenPS l0 : Int) := by rw [enZ_eq, (unhide KL).1, (unhide KL).2]; omega
  have kb2 : enZ 1 lx + 0 ≤ 4400000 := by have := unhide e0; omega
  generalize enZ 1 lx = kk at *
  replace HB := hide (hbt.below (unhide HB) (by omega) (unhide HB).size)
  replace V0 := hide ((unhide V0).but hbt (by omega) (by omega))
  replace VG := hide ((unhide VG).but hbt (by omega) (by omega))
  replace WW : GG + 1 ≤ wm0.heap.size := Nat.le_trans WW hbt.size
  clear hbt PX KL
  have kb0 := hide kb.2
  replace kb := kb.1
  have hk0 : decide (kk < 0) = false := decide_eq_false (by omega)
  have p0 := (unhide VG).c0
  have pq0 := (unhide V0).c0
  have p1 := (unhide VG).c1
  have pq1 := (unhide V0).c1
  have p2 := (unhide VG).c2
  have pq2 := (unhide V0).c2
  have p3 := (unhide VG).c3
  have pq3 := (unhide V0).c3
  go_wp2_with fail
  refine (eqQ_at vg vr dr _ (unhide VG).own.sl (unhide V0).own.sl qm0 qm1).mono ?_
  rintro e w20 ⟨rfl, hb⟩
  clear p0 pq0 p1 pq1 p2 pq2 p3 pq3 hk0
  replace WW : GG + 1 ≤ w20.heap.size := Nat.le_trans WW hb.size
  replace V0 := hide ((unhide V0).later hb)
  replace VG := hide ((unhide VG).later hb)
  replace HB := hide (below_on (unhide HB) hb)
  clear hb
  have p0 := (unhide VG).c0
  have p1 := (unhide VG).c1
  have p2 := (unhide VG).c2
  have p3 := (unhide VG).c3
  go_wp2_with fail
  refine (markQ_at vg dr [] [] 1 (GX0) GG _ (unhide VG).own ql0 ql1 (by have := (unhide VG).gt; omega) (by omega) (by omega)).mono ?_
  rintro e w21 ⟨rfl, hbt, hmk⟩
  replace HB := hide (hbt.below (unhide HB) (by omega) (unhide HB).size)
  replace V0 := hide ((unhide V0).but hbt (by omega) (by omega))
  replace VG := hide ((unhide VG).mark (d' := ⟨⟨dr.num.g, marks 1 vg.num.n⟩, ⟨dr.den.g, marks (1 + vg.num.n) vg.den.n⟩⟩) hbt (by omega) hmk)
  clear p0 p1 p2 p3 hbt hmk
  have p0 := (unhide VG).c0
  have p1 := (unhide VG).c1
  have p2 := (unhide VG).c2
  have p3 := (unhide VG).c3
  go_wp2_with fail
  refine (heldQ_at vg 1 _ ((unhide VG).own.sl (vg.num, ⟨dr.num.g, marks 1 vg.num.n⟩) (by simp)).sl ((unhide VG).own.sl (vg.den, ⟨dr.den.g, marks (1 + vg.num.n) vg.den.n⟩) (by simp)).sl ql0 ql1 (by omega) (by omega)).mono ?_
  rintro e wk ⟨rfl, hb⟩
  replace V0 := hide ((unhide V0).later hb)
  replace VG := hide ((unhide VG).later hb)
  replace HB := hide (below_on (unhide HB) hb)
  have hr0 : ¬ ((1 : Int) + (vg.num.n : Int) + (vg.den.n : Int) < 0) := by omega
  have zk : w.heap.size + 0 ≤ wk.heap.size := by have h1 := (unhide VG).gt; omega
  clear p0 p1 p2 p3 hb
  go_wp2_with fail
  refine (unhide TT0 _ ((unhide HS0).later (unhide HB))).mono ?_
  rintro e wh ⟨lh, rfl, hb, zh, dh, oh⟩
  have szh := hb.size
  replace V0 := hide ((unhide V0).later hb)
  replace VG := hide ((unhide VG).later hb)
  replace HB := hide (below_on (unhide HB) hb)
  have Dh := hide dh
  have Oh := hide oh
  clear hb dh oh
  go_wp2_with fail
  refine (unhide CI _ _ _ lh _ (unhide Oh).arg (unhide Dh)).mono ?_
  rintro e wh9 ⟨vh, dh, okh, rfl, hb, hown, hu⟩
  obtain ⟨e1, e2⟩ := unhide US _ _ _ _ (unhide UR) hu
  subst e1 e2
  have VH := hide (VarQ.start 28 hown)
  replace V0 := hide ((unhide V0).later hb)
  replace VG := hide ((unhide VG).later hb)
  replace HB := hide (below_on (unhide HB) hb)
  replace HB := hide ((unhide HB).alloc (unhide HB).size (.cells #[.bool vh.num.g, .slice vh.num.a vh.num.n vh.num.c, .bool vh.den.g, .slice vh.den.a vh.den.n vh.den.c] 28))
  replace V0 := hide ((unhide V0).later ((Below.refl _ _).alloc (Nat.le_refl _) (.cells #[.bool vh.num.g, .slice vh.num.a vh.num.n vh.num.c, .bool vh.den.g, .slice vh.den.a vh.den.n vh.den.c] 28)))
  replace VG := hide ((unhide VG).later ((Below.refl _ _).alloc (Nat.le_refl _) (.cells #[.bool vh.num.g, .slice vh.num.a vh.num.n vh.num.c, .bool vh.den.g, .slice vh.den.a vh.den.n vh.den.c] 28)))
  clear hb hown hu Oh Dh
  have hm0 : vh.num.n ≤ maxLen := by rw [← ((unhide VH).own.own (vh.num, dr.num) (by simp)).len, ((unhide V0).own.own (vr.num, dr.num) (by simp)).len]; exact rm0
  have hm1 : vh.den.n ≤ maxLen := by rw [← ((unhide VH).own.own (vh.den, dr.den) (by simp)).len, ((unhide V0).own.own (vr.den, dr.den) (by simp)).len]; exact rm1
  have p0 := (unhide VH).c0
  have pq0 := (unhide V0).c0
  have p1 := (unhide VH).c1
  have pq1 := (unhide V0).c1
  have p2 := (unhide VH).c2
  have pq2 := (unhide V0).c2
  have p3 := (unhide VH).c3
  have pq3 := (unhide V0).c3
  go_wp2_with fail
  refine (eqQ_at vh vr dr _ (unhide VH).own.sl (unhide V0).own.sl hm0 hm1).mono ?_
  rintro e w30 ⟨rfl, hb⟩
  clear p0 pq0 p1 pq1 p2 pq2 p3 pq3
  replace HB := hide (below_on (unhide HB) hb)
  replace VG := hide ((unhide VG).later hb)
  clear hb VH V0
  have p0 := (unhide VG).c0
  have p1 := (unhide VG).c1
  have p2 := (unhide VG).c2
  have p3 := (unhide VG).c3
  go_wp2_with fail
  refine (heldQ_at vg 1 _ ((unhide VG).own.sl (vg.num, ⟨dr.num.g, marks 1 vg.num.n⟩) (by simp)).sl ((unhide VG).own.sl (vg.den, ⟨dr.den.g, marks (1 + vg.num.n) vg.den.n⟩) (by simp)).sl ql0 ql1 (by omega) (by omega)).mono ?_
  rintro e w31 ⟨rfl, hb⟩
  replace HB := hide (below_on (unhide HB) hb)
  clear p0 p1 p2 p3 hb
  go_wp2
  go_ret
  exact ⟨rfl, (unhide HB)⟩
end Go.Proofs.YtikllcoekcglcaaGreat
namespace Go.Proofs.YtikllcoekcglcaaGreat
open Go.ChangeShapes Go.WideShapes Go.ChangeAt Go.RowKit Go.Joins
set_option linter.unusedVariables false
set_option maxRecDepth 100000
set_option linter.unusedSimpArgs false

set_option maxRecDepth 100000 in
theorem swp_holds_lifted (os : Os) (started : os.Started) (H : Type) (enc : TypeId × Value → H) :
    ReturnsInHanded {} Tryz.checked os 11 .any (Rows.fnExactSweepOfSpec.pre6 enc Tryz.prog Tryz.f11 Rows.fnExactSweepOfRow.domain false) (Rows.fnExactSweepOfSpec.post enc Tryz.prog Tryz.f11 false true false false) := by
  refine returnsInHanded_of_change (C := Tryz.checked) own started (by kernel_rfl) Tryz.func11
    (ChangeSpec.witness6 (enc := enc) (C := Tryz.checked) false ⟨#[], #[.slice none 0 0], []⟩ 8 (by kernel_rfl) (by kernel_rfl) (by kernel_rfl) (by kernel_rfl)) ?_
  intro W base args ds gs before hval0 hW hcnd _
  have hval : ∀ (j : Nat) t v, Tryz.f11.params[j]? = some t → args[j]? = some v → Value.okWide Tryz.prog W .any base t v := hval0
  have hW' := hW
  obtain ⟨p, q, hA0, hV, rfl, hfz, hnd⟩ := hW
  have hA : DataW.TrodAll enc Tryz.prog W 0 (fun _ => true) true Tryz.f11.params.toList args.toList ds p := hA0
  rw [Tryz.params11] at hA hval
  obtain ⟨v0, vs0, d0, ds0, p0, q0, hargs, rfl, rfl, h0, r0⟩ := trodAll_cons hA
  obtain ⟨rfl, rfl, rfl⟩ := trodAll_nil r0
  obtain rfl : args = #[v0] := by cases args; simp_all
  obtain ⟨rfl, rfl⟩ := trodVars_none hV
  have lt0 : ∀ x ∈ p0, x.block < W.heap.size := by obtain ⟨m, hm⟩ := h0; exact DataW.trod_lt m _ _ _ hm
  obtain ⟨a0, n0, c0, l0, rfl, sl0, hn0, hm0, ml0⟩ := open_PS (hval 0 66 v0 rfl rfl) h0
  clear hA0 hval0
  refine (lawSwp_walk a0 n0 c0 l0 W sl0 hn0 hm0 ml0).mono fun e W' ⟨he, bel⟩ => ?_
  subst he
  exact ⟨_, rfl, _, _, _, [], _, [], hW', trodAll_mk1 (shut_bool Tryz.underlying4 _), (trodAll_cons_mk (Below.trod laidOut (by kernel_rfl) (of_decide_eq_true (by kernel_rfl)) h0 bel lt0) trodAll_mk0), rfl, bel.frame _, fun h => by cases h⟩

theorem swp_holds_c0 : (Rows.fnExactSweepOfRow.wf (OpenSpec.ofChange Rows.fnExactSweepOfSpec)) = true := by kernel_rfl
theorem swp_holds_c1 : (laidOutB Tryz.pinned.checked.prog) = true := by kernel_rfl
theorem swp_holds_c2 : (mapsRowed Tryz.pinned.checked.prog) = true := by kernel_rfl
theorem swp_holds_c3 : (Tryz.f11.params.all (Tryz.pinned.checked.prog.readableRec ·)) = true := by kernel_rfl
theorem swp_holds_c4 : (namedTie Tryz.pinned.checked.prog Rows.fnExactSweepOfRow.named Rows.fnExactSweepOfSpec.vars) = true := by kernel_rfl
theorem swp_holds_c5 : (Rows.fnExactSweepOfRow.stops == []) = true := by kernel_rfl
theorem swp_holds_c6 : (Tryz.pinned.checked.prog.stops == []) = true := by kernel_rfl
theorem swp_holds_c7 : (Rows.fnExactSweepOfRow.knobs == []) = true := by kernel_rfl
theorem swp_holds_c8 : (Tryz.pinned.checked.prog.stopKnobs == []) = true := by kernel_rfl
theorem swp_holds_c9 : (Rows.fnExactSweepOfRow.inPlace == Tryz.pinned.checked.prog.inPlace 11) = true := by kernel_rfl
theorem swp_holds_c10 : (Rows.fnExactSweepOfRow.unfollowed == Tryz.pinned.checked.prog.unfollowed 11) = true := by kernel_rfl
theorem swp_holds_c11 : (Rows.fnExactSweepOfRow.recurses == Tryz.pinned.checked.prog.recurses 11) = true := by kernel_rfl
theorem swp_holds_c12 : (Rows.fnExactSweepOfRow.named == Tryz.pinned.checked.prog.varsNamed 11) = true := by kernel_rfl
theorem swp_holds_c13 : (Rows.fnExactSweepOfRow.maps == (Tryz.f11.params.toList ++ Rows.fnExactSweepOfSpec.plain.varTypes Tryz.pinned.checked.prog).any (Tryz.pinned.checked.prog.mapsRec ·)) = true := by kernel_rfl
theorem swp_holds_c14 : (Rows.fnExactSweepOfRow.ifaces == (Tryz.f11.params.toList ++ Rows.fnExactSweepOfSpec.plain.varTypes Tryz.pinned.checked.prog).any (Tryz.pinned.checked.prog.ifacesRec ·)) = true := by kernel_rfl
theorem swp_holds_c15 : (Rows.fnExactSweepOfRow.mapsOut == Tryz.pinned.checked.prog.mapsAmong Tryz.f11.resultTypes.toList) = true := by kernel_rfl
theorem swp_holds_c16 : (Rows.fnExactSweepOfRow.loops == (Tryz.f11.params.toList ++ Rows.fnExactSweepOfSpec.plain.varTypes Tryz.pinned.checked.prog).any (Tryz.pinned.checked.prog.loopsFrom ·)) = true := by kernel_rfl
theorem swp_holds_c17 : (Rows.fnExactSweepOfRow.wideKeys == (Tryz.f11.params.toList ++ Rows.fnExactSweepOfSpec.plain.varTypes Tryz.pinned.checked.prog ++ Tryz.f11.resultTypes.toList).any (Tryz.pinned.checked.prog.wideKeysFrom ·)) = true := by kernel_rfl
theorem swp_holds_c18 : (Rows.fnExactSweepOfSpec.vars.all (Tryz.pinned.checked.prog.varReadable ·)) = true := by kernel_rfl
theorem swp_holds_c19 : (Tryz.f11.resultTypes.all (fun t => Tryz.pinned.checked.prog.readableRec t && decide (t < Tryz.pinned.checked.prog.types.size))) = true := by kernel_rfl
theorem swp_holds_c20 : (Rows.fnExactSweepOfRow.ifacesOut == Tryz.f11.resultTypes.toList.any (Tryz.pinned.checked.prog.ifacesRec ·)) = true := by kernel_rfl
theorem swp_holds_c21 : (Rows.fnExactSweepOfRow.loopsOut == Tryz.f11.resultTypes.toList.any (Tryz.pinned.checked.prog.loopsFrom ·)) = true := by kernel_rfl
theorem swp_holds_c22 : (Rows.fnExactSweepOfRow.plainKeys == Tryz.pinned.checked.prog.plainKeys) = true := by kernel_rfl
theorem swp_holds_c23 : (Rows.fnExactSweepOfRow.shortTexts.isNone) = true := by kernel_rfl
theorem swp_holds_c24 : (Tryz.pinned.checked.prog.stopsHeard) = true := by kernel_rfl
theorem swp_holds_c25 : (Tryz.pinned.checked.prog.mayEnter) = true := io_enter
theorem swp_holds_c26 : (Rows.fnExactSweepOfRow.lifted == Tryz.pinned.checked.prog.liftsFinal) = true := by rw [io_lifts]; kernel_rfl
theorem swp_holds_c27 : (Tryz.pinned.checked.prog.make == some Rows.fnExactSweepOfRow.make) = true := by rw [io_make]; kernel_rfl
theorem swp_holds_c28 : (Rows.fnExactSweepOfRow.kinds == (if Rows.fnExactSweepOfRow.domain.isEmpty then [] else Tryz.f11.params.toList.map fun t => match Tryz.pinned.checked.prog.underlying t with | some (.int k) => some k | _ => none)) = true := by kernel_rfl
theorem swp_holds_c29 : (Rows.fnExactSweepOfRow.pinned == Rows.fnExactSweepOfRow.pinnedBy) = true := by kernel_rfl
theorem swp_holds_c30 : (Rows.fnExactSweepOfRow.veiled == (Tryz.f11.params.toList ++ Rows.fnExactSweepOfSpec.plain.varTypes Tryz.pinned.checked.prog ++ Tryz.f11.resultTypes.toList).any (Tryz.pinned.checked.prog.veiledRec ·)) = true := by kernel_rfl
theorem swp_holds_c31 : (Rows.fnExactSweepOfRow.veiledFits Tryz.pinned.checked.prog Tryz.f11.params.toList (Tryz.f11.params.toList ++ Rows.fnExactSweepOfSpec.plain.varTypes Tryz.pinned.checked.prog ++ Tryz.f11.resultTypes.toList)) = true := by kernel_rfl
theorem swp_holds_and {a b : Bool} (h : a = true) (k : b = true) : (a && b) = true := by rw [h, k]; rfl
theorem swp_holds_closed : joinedFacts Tryz.pinned.checked.prog 11 Tryz.f11 Rows.fnExactSweepOfSpec Rows.fnExactSweepOfRow = true := (swp_holds_and (swp_holds_and (swp_holds_and (swp_holds_and (swp_holds_and (swp_holds_and (swp_holds_and (swp_holds_and (swp_holds_and (swp_holds_and (swp_holds_and (swp_holds_and (swp_holds_and (swp_holds_and (swp_holds_and (swp_holds_and (swp_holds_and (swp_holds_and (swp_holds_and (swp_holds_and (swp_holds_and (swp_holds_and (swp_holds_and (swp_holds_and (swp_holds_and (swp_holds_and (swp_holds_and (swp_holds_and (swp_holds_and (swp_holds_and (swp_holds_and swp_holds_c0 swp_holds_c1) swp_holds_c2) swp_holds_c3) swp_holds_c4) swp_holds_c5) swp_holds_c6) swp_holds_c7) swp_holds_c8) swp_holds_c9) swp_holds_c10) swp_holds_c11) swp_holds_c12) swp_holds_c13) swp_holds_c14) swp_holds_c15) swp_holds_c16) swp_holds_c17) swp_holds_c18) swp_holds_c19) swp_holds_c20) swp_holds_c21) swp_holds_c22) swp_holds_c23) swp_holds_c24) swp_holds_c25) swp_holds_c26) swp_holds_c27) swp_holds_c28) swp_holds_c29) swp_holds_c30) swp_holds_c31)
theorem swp_holds_named : Tryz.pinned.checked.prog.funcNamed Rows.fnExactSweepOfRow.func = some 11 := by kernel_rfl
theorem swp_holds_inst : Tryz.f11.isInstance Tryz.pinned.checked.prog Rows.fnExactSweepOfRow.origin Rows.fnExactSweepOfRow.targs := of_decide_eq_true (by kernel_rfl)
theorem swp_holds_wrap : Tryz.f11.isWrapper Tryz.pinned.checked.prog Rows.fnExactSweepOfRow.wrapper Rows.fnExactSweepOfRow.mainSum := by unfold Func.isWrapper; first | (rw [if_pos (by decide +kernel)]; kernel_rfl) | (rw [if_neg (by decide +kernel)]; exact ⟨rfl, rfl⟩)
theorem swp_holds : Rows.FnExactSweepOfSaid :=
  OpenClaim.holds_of_wide 11 Tryz.f11 rfl rfl rfl rfl rfl rfl rfl ⟨rfl, rfl, rfl, rfl, rfl⟩ rfl rfl rfl rfl rfl swp_holds_named Tryz.func11 swp_holds_closed swp_holds_inst swp_holds_wrap
    (fun os started H enc _ => swp_holds_lifted os started H enc)
#print axioms swp_holds
end Go.Proofs.YtikllcoekcglcaaGreat
