/- SweepOf of the specification, at every list of points. No condition beyond those typed. Written by mksw14.py. -/
import Derived.Test.YtikllcoekcglcaaGreatPkR7
import Derived.Test.YtikllcoekcglcaaGreatPkR6
import Derived.Test.YtikllcoekcglcaaGreatPkR9
namespace Go.Proofs.YtikllcoekcglcaaGreat
open Go.RowKit
set_option linter.unusedVariables false
set_option maxRecDepth 100000
set_option linter.unusedSimpArgs false


set_option maxHeartbeats 8000000 in
theorem SwpI (a : Option Addr) (n c : Nat) (l : List (SV × SD)) (w : World) (h : PArS w a n c l) :
    Calls Tryz.prog 35 #[.slice a n c] w (RetQ w (AnsQ (gCv (l.map Prod.snd)) (nR (outI (pwL (vC l)) (vC l).length)) (dR (outI (pwL (vC l)) (vC l).length)))) := by
  have HS := hide h
  have HN := hide h.len
  clear h
  have CG := hide (fun w1 (k : PArS w1 a n c l) => GoodCI a n c l w1 k)
  cases hp : gCv (l.map Prod.snd)
  · rw [hp] at CG
    have B0 := hide (show Below w.heap.size w (w.alloc (.cells #[.bool false, .slice none 0 0, .bool false, .slice none 0 0] 28)) from ((Below.refl _ _).alloc (by simp) _))
    go_enter Tryz.func35, Tryz.ntmps35
    go_wp2_with fail
    refine (unhide CG _ ((unhide HS).later (unhide B0))).mono ?_
    rintro e w1 ⟨rfl, hb⟩
    have s1 := hb.size
    simp at s1
    have k0_0 : w1.cell? ⟨w.heap.size, 0, none⟩ = some (.bool false) := cell_later hb (by simp [go_sem])
    have k0_1 : w1.cell? ⟨w.heap.size, 1, none⟩ = some (.slice none 0 0) := cell_later hb (by simp [go_sem])
    have k0_2 : w1.cell? ⟨w.heap.size, 2, none⟩ = some (.bool false) := cell_later hb (by simp [go_sem])
    have k0_3 : w1.cell? ⟨w.heap.size, 3, none⟩ = some (.slice none 0 0) := cell_later hb (by simp [go_sem])
    have z0 : ∀ o, w1.frozen? ⟨w.heap.size, o, none⟩ = false := fun o => frozen_later hb (by simp) (by simp [go_sem])
    have HB := hide (below_on (unhide B0) hb)
    clear hb
    go_wp2
    refine bodyPost_ret (v := .tuple #[.agg #[.bool false, .slice none 0 0, .bool false, .slice none 0 0], .bool false]) (by simp [results, Tryz.results35, go_sem, k0_0, k0_1, k0_2, k0_3]) rfl ?_
    exact retQ_fin (v := (⟨⟨false, none, 0, 0⟩, ⟨false, none, 0, 0⟩⟩ : QV)) (d := (⟨⟨false, []⟩, ⟨false, []⟩⟩ : QD)) (R := w.heap.size) (by omega) (unhide HB) (metQ_but (w5 := w1) (v := (⟨⟨false, none, 0, 0⟩, ⟨false, none, 0, 0⟩⟩ : QV)) (G := w.heap.size)) (zeroQ _ _ _) (ansQ_none _ _)
  · rw [hp] at CG
    have n5 : 1 ≤ n ∧ n ≤ 5 := by have := (gCv_mem hp).1; rw [List.length_map, unhide HN] at this; exact this
    have RD := hide (rdC_good (unhide HS) hp)
    have BD := hide (bdC_good hp)
    have B2 := hide (bdC_two hp)
    have LP : Hid ((vC l).length = n) := hide (unhide RD).len
    have B0 := hide (show Below w.heap.size w (w.alloc (.cells #[.bool false, .slice none 0 0, .bool false, .slice none 0 0] 28)) from ((Below.refl _ _).alloc (by simp) _))
    go_enter Tryz.func35, Tryz.ntmps35
    go_wp2_with fail
    refine (unhide CG _ ((unhide HS).later (unhide B0))).mono ?_
    rintro e w1 ⟨rfl, hb⟩
    have s1 := hb.size
    simp at s1
    have k0_0 : w1.cell? ⟨w.heap.size, 0, none⟩ = some (.bool false) := cell_later hb (by simp [go_sem])
    have k0_1 : w1.cell? ⟨w.heap.size, 1, none⟩ = some (.slice none 0 0) := cell_later hb (by simp [go_sem])
    have k0_2 : w1.cell? ⟨w.heap.size, 2, none⟩ = some (.bool false) := cell_later hb (by simp [go_sem])
    have k0_3 : w1.cell? ⟨w.heap.size, 3, none⟩ = some (.slice none 0 0) := cell_later hb (by simp [go_sem])
    have z0 : ∀ o, w1.frozen? ⟨w.heap.size, o, none⟩ = false := fun o => frozen_later hb (by simp) (by simp [go_sem])
    have HB := hide (below_on (unhide B0) hb)
    clear hb
    go_wp2_with fail
    refine (powI a n c l (vC l) _ ((unhide RD).later (unhide HB)) (unhide BD) n5.1 n5.2).mono ?_
    rintro e w2 ⟨a2, n2, c2, l2, rfl, hb, ro2, rd2⟩
    have s2 := hb.size
    have RD2 := hide rd2
    obtain rfl : n2 = n := by have := rd2.len; rw [pwL_len, unhide LP] at this; exact this.symm
    clear ro2 rd2
    replace z0 := fun o => frozen_later hb (World.block_lt_of_cell? _ _ k0_0) (z0 o)
    replace k0_0 := cell_later hb k0_0
    replace k0_1 := cell_later hb k0_1
    replace k0_2 := cell_later hb k0_2
    replace k0_3 := cell_later hb k0_3
    replace HB := hide (below_on (unhide HB) hb)
    clear hb
    go_wp2_with fail
    refine (swpI a2 n2 c2 l2 (pwL (vC l)) _ (unhide RD2) (pwL_bd2 (unhide B2) (by rw [unhide LP]; omega)) n5.1 n5.2).mono ?_
    rintro e w3 ⟨r, xs, us, rfl, hb, ho, ha, n1, n2'⟩
    have s3 := hb.size
    have HO := hide ho
    have m1 : r.den.n ≤ maxLen := Nat.le_trans ha.tail.head.ar.cap ha.tail.head.ar.top
    have NN := hide (And.intro n1 n2')
    clear ho ha n1 n2'
    replace z0 := fun o => frozen_later hb (World.block_lt_of_cell? _ _ k0_0) (z0 o)
    replace k0_0 := cell_later hb k0_0
    replace k0_1 := cell_later hb k0_1
    replace k0_2 := cell_later hb k0_2
    replace k0_3 := cell_later hb k0_3
    replace HB := hide (below_on (unhide HB) hb)
    clear hb
    go_wp2_with fail
    refine (whereQ r _ _ xs us w2.heap.size w3.heap.size _ (unhide HO) (Nat.le_refl _) m1 (unhide NN).1 (unhide NN).2 (dR_ne _)).mono ?_
    rintro e w4 ⟨r2, d2, ok, rfl, hb, ov, hu⟩
    have s4 := hb.size
    have OV := hide ov
    have UU : Hid (AnsQ true (nR (outI (pwL (vC l)) (vC l).length)) (dR (outI (pwL (vC l)) (vC l).length)) d2 ok) := hide (by rw [unhide LP]; exact hu)
    clear ov hu
    replace z0 := fun o => frozen_later hb (World.block_lt_of_cell? _ _ k0_0) (z0 o)
    replace k0_0 := cell_later hb k0_0
    replace k0_1 := cell_later hb k0_1
    replace k0_2 := cell_later hb k0_2
    replace k0_3 := cell_later hb k0_3
    replace HB := hide (below_on (unhide HB) hb)
    clear hb
    go_wp2
    refine bodyPost_ret (v := .tuple #[.agg #[.bool r2.num.g, .slice r2.num.a r2.num.n r2.num.c, .bool r2.den.g, .slice r2.den.a r2.den.n r2.den.c], .bool ok]) (by simp [results, Tryz.results35, go_sem, k0_0, k0_1, k0_2, k0_3]) rfl ?_
    exact retQ_fin (v := r2) (d := d2) (R := w.heap.size) (by omega) (unhide HB) (metQ_but (w5 := w4) (v := r2) (G := w.heap.size)) ((unhide OV).wide (by omega) (by omega)) (unhide UU)
end Go.Proofs.YtikllcoekcglcaaGreat
namespace Go.Proofs.YtikllcoekcglcaaGreat
open Go.RowKit
set_option linter.unusedVariables false
set_option maxRecDepth 100000
set_option linter.unusedSimpArgs false


set_option maxHeartbeats 8000000 in
theorem SwpS (a : Option Addr) (n c : Nat) (l : List (SV × SD)) (w : World) (h : PArS w a n c l) (ht : TypZ w (zipPS l)) :
    Calls Tryz.prog 36 #[.slice a n c] w (RetQ w (AnsQ (gCv (l.map Prod.snd)) (nR (outI (pwL (vC l)) (vC l).length)) (dR (outI (pwL (vC l)) (vC l).length)))) := by
  have HS := hide h
  have HN := hide h.len
  have HT := hide ht
  clear h ht
  have CG := hide (fun w1 (k : PArS w1 a n c l) => GoodCS a n c l w1 k)
  cases hp : gCv (l.map Prod.snd)
  · rw [hp] at CG
    have B0 := hide (show Below w.heap.size w (w.alloc (.cells #[.bool false, .slice none 0 0, .bool false, .slice none 0 0] 28)) from ((Below.refl _ _).alloc (by simp) _))
    go_enter Tryz.func36, Tryz.ntmps36
    go_wp2_with fail
    refine (unhide CG _ ((unhide HS).later (unhide B0))).mono ?_
    rintro e w1 ⟨rfl, hb⟩
    have s1 := hb.size
    simp at s1
    have k0_0 : w1.cell? ⟨w.heap.size, 0, none⟩ = some (.bool false) := cell_later hb (by simp [go_sem])
    have k0_1 : w1.cell? ⟨w.heap.size, 1, none⟩ = some (.slice none 0 0) := cell_later hb (by simp [go_sem])
    have k0_2 : w1.cell? ⟨w.heap.size, 2, none⟩ = some (.bool false) := cell_later hb (by simp [go_sem])
    have k0_3 : w1.cell? ⟨w.heap.size, 3, none⟩ = some (.slice none 0 0) := cell_later hb (by simp [go_sem])
    have z0 : ∀ o, w1.frozen? ⟨w.heap.size, o, none⟩ = false := fun o => frozen_later hb (by simp) (by simp [go_sem])
    have HB := hide (below_on (unhide B0) hb)
    clear hb
    go_wp2
    refine bodyPost_ret (v := .tuple #[.agg #[.bool false, .slice none 0 0, .bool false, .slice none 0 0], .bool false]) (by simp [results, Tryz.results36, go_sem, k0_0, k0_1, k0_2, k0_3]) rfl ?_
    exact retQ_fin (v := (⟨⟨false, none, 0, 0⟩, ⟨false, none, 0, 0⟩⟩ : QV)) (d := (⟨⟨false, []⟩, ⟨false, []⟩⟩ : QD)) (R := w.heap.size) (by omega) (unhide HB) (metQ_but (w5 := w1) (v := (⟨⟨false, none, 0, 0⟩, ⟨false, none, 0, 0⟩⟩ : QV)) (G := w.heap.size)) (zeroQ _ _ _) (ansQ_none _ _)
  · rw [hp] at CG
    have n5 : 1 ≤ n ∧ n ≤ 5 := by have := (gCv_mem hp).1; rw [List.length_map, unhide HN] at this; exact this
    have RD := hide (rdC_good (unhide HS) hp)
    have BD := hide (bdC_good hp)
    have B2 := hide (bdC_two hp)
    have LP : Hid ((vC l).length = n) := hide (unhide RD).len
    have B0 := hide (show Below w.heap.size w (w.alloc (.cells #[.bool false, .slice none 0 0, .bool false, .slice none 0 0] 28)) from ((Below.refl _ _).alloc (by simp) _))
    go_enter Tryz.func36, Tryz.ntmps36
    go_wp2_with fail
    refine (unhide CG _ ((unhide HS).later (unhide B0))).mono ?_
    rintro e w1 ⟨rfl, hb⟩
    have s1 := hb.size
    simp at s1
    have k0_0 : w1.cell? ⟨w.heap.size, 0, none⟩ = some (.bool false) := cell_later hb (by simp [go_sem])
    have k0_1 : w1.cell? ⟨w.heap.size, 1, none⟩ = some (.slice none 0 0) := cell_later hb (by simp [go_sem])
    have k0_2 : w1.cell? ⟨w.heap.size, 2, none⟩ = some (.bool false) := cell_later hb (by simp [go_sem])
    have k0_3 : w1.cell? ⟨w.heap.size, 3, none⟩ = some (.slice none 0 0) := cell_later hb (by simp [go_sem])
    have z0 : ∀ o, w1.frozen? ⟨w.heap.size, o, none⟩ = false := fun o => frozen_later hb (by simp) (by simp [go_sem])
    have HB := hide (below_on (unhide B0) hb)
    clear hb
    go_wp2_with fail
    refine (swpS a n c l (vC l) _ ((unhide RD).later (unhide HB)) (unhide B2) n5.1 n5.2 ((unhide HT).later (unhide HB)) _ rfl).mono ?_
    rintro e w2 ⟨r, rfl, hb, on, od⟩
    have s2 := hb.size
    have IR := hide (OwV.mk on od).is
    clear on od
    replace z0 := fun o => frozen_later hb (World.block_lt_of_cell? _ _ k0_0) (z0 o)
    replace k0_0 := cell_later hb k0_0
    replace k0_1 := cell_later hb k0_1
    replace k0_2 := cell_later hb k0_2
    replace k0_3 := cell_later hb k0_3
    replace HB := hide (below_on (unhide HB) hb)
    clear hb
    go_wp2_with fail
    refine (fitsQS r _ _ _ (unhide IR) (dR_pos _)).mono ?_
    rintro e w3 ⟨r2, d2, ok, rfl, hb, ov, hu⟩
    have s3 := hb.size
    have OV := hide ov
    have UU : Hid (AnsQ true (nR (outI (pwL (vC l)) (vC l).length)) (dR (outI (pwL (vC l)) (vC l).length)) d2 ok) := hide (by rw [unhide LP, ← sums_eq _ n5.1 n5.2]; exact hu)
    clear ov hu
    replace z0 := fun o => frozen_later hb (World.block_lt_of_cell? _ _ k0_0) (z0 o)
    replace k0_0 := cell_later hb k0_0
    replace k0_1 := cell_later hb k0_1
    replace k0_2 := cell_later hb k0_2
    replace k0_3 := cell_later hb k0_3
    replace HB := hide (below_on (unhide HB) hb)
    clear hb
    go_wp2
    refine bodyPost_ret (v := .tuple #[.agg #[.bool r2.num.g, .slice r2.num.a r2.num.n r2.num.c, .bool r2.den.g, .slice r2.den.a r2.den.n r2.den.c], .bool ok]) (by simp [results, Tryz.results36, go_sem, k0_0, k0_1, k0_2, k0_3]) rfl ?_
    exact retQ_fin (v := r2) (d := d2) (R := w.heap.size) (by omega) (unhide HB) (metQ_but (w5 := w3) (v := r2) (G := w.heap.size)) ((unhide OV).wide (by omega) (by omega)) (unhide UU)
end Go.Proofs.YtikllcoekcglcaaGreat
