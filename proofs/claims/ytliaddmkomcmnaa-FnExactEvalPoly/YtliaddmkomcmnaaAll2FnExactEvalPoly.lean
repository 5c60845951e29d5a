/- The law FnExactEvalPoly returns true for every argument and leaves it as it was: the given statement FnExactEvalPolySaid. No condition. -/
import Derived.Test.YtliaddmkomcmnaaPackE
import Derived.Test.YtliaddmkomcmnaaPackSW
import Derived.Test.YtliaddmkomcmnaaOpenQ
import Derived.Deep.Slices
import Derived.Test.YtliaddmkomcmnaaIo
namespace Go.Proofs.Ytliaddmkomcmnaa
open Go.RowKit
set_option linter.unusedVariables false
set_option maxRecDepth 100000
set_option linter.unusedSimpArgs false

set_option maxHeartbeats 2000000 in
theorem coefI (x : QV) (d : QD) (w : World) (h : AllAr w [(x.num, d.num), (x.den, d.den)]) : Calls Try.prog 83 #[.agg #[.bool x.num.g, .slice x.num.a x.num.n x.num.c, .bool x.den.g, .slice x.den.a x.den.n x.den.c]] w fun e w' => e = .returned (.bool (gC d)) ∧ Below w.heap.size w w' := by
  have CL := hide (fun w1 (k : AllAr w1 [(x.num, d.num), (x.den, d.den)]) => longI x d w1 k)
  unfold gC
  cases hs : sm d
  · rw [hs] at CL
    rw [Bool.false_and]
    have H1 := hide h
    clear h
    have B0 := hide (show Below w.heap.size w (w.alloc (.cells #[.bool x.num.g, .slice x.num.a x.num.n x.num.c, .bool x.den.g, .slice x.den.a x.den.n x.den.c] 33)) from ((Below.refl _ _).alloc (by simp) _))
    go_enter Try.func83, Try.ntmps83
    go_wp2_with fail
    refine (unhide CL _ ((unhide H1).later (unhide B0))).mono ?_
    rintro e w1 ⟨rfl, hb⟩
    have HB := hide (below_on (unhide B0) hb)
    clear hb
    go_wp2
    go_ret
    exact ⟨rfl, unhide HB⟩
  · rw [hs] at CL
    rw [Bool.true_and]
    have H1 := hide h
    clear h
    have B0 := hide (show Below w.heap.size w (w.alloc (.cells #[.bool x.num.g, .slice x.num.a x.num.n x.num.c, .bool x.den.g, .slice x.den.a x.den.n x.den.c] 33)) from ((Below.refl _ _).alloc (by simp) _))
    go_enter Try.func83, Try.ntmps83
    go_wp2_with fail
    refine (unhide CL _ ((unhide H1).later (unhide B0))).mono ?_
    rintro e w1 ⟨rfl, hb⟩
    have k0_0 : w1.cell? ⟨w.heap.size, 0, none⟩ = some (.bool x.num.g) := cell_later hb (by simp [go_sem])
    have k0_1 : w1.cell? ⟨w.heap.size, 1, none⟩ = some (.slice x.num.a x.num.n x.num.c) := cell_later hb (by simp [go_sem])
    have k0_2 : w1.cell? ⟨w.heap.size, 2, none⟩ = some (.bool x.den.g) := cell_later hb (by simp [go_sem])
    have k0_3 : w1.cell? ⟨w.heap.size, 3, none⟩ = some (.slice x.den.a x.den.n x.den.c) := cell_later hb (by simp [go_sem])
    have HB := hide (below_on (unhide B0) hb)
    clear hb
    go_wp2_with fail
    refine (goodQI x d _ ((unhide H1).later (unhide HB))).mono ?_
    rintro e w2 ⟨rfl, hb⟩
    clear k0_0 k0_1 k0_2 k0_3
    replace HB := hide (below_on (unhide HB) hb)
    clear hb
    go_wp2
    go_ret
    exact ⟨rfl, unhide HB⟩
set_option maxHeartbeats 4000000 in
theorem EvalPI (a : Option Addr) (n c : Nat) (l : List (QV × QD)) (x : QV) (d : QD) (w : World) (h : PArQ w a n c l) (hx : AllAr w [(x.num, d.num), (x.den, d.den)]) :
    Calls Try.prog 35 #[.slice a n c, .agg #[.bool x.num.g, .slice x.num.a x.num.n x.num.c, .bool x.den.g, .slice x.den.a x.den.n x.den.c]] w (RetQ w (AnsQ (gP (l.map Prod.snd) && gC d) (hvd (l.map Prod.snd) d).1 (hvd (l.map Prod.snd) d).2)) := by
  rw [← hvd_eq]
  have CR := hide (fun w1 (k : PArQ w1 a n c l) => GoodPI a n c l w1 k)
  have CP := hide (fun w1 (k : AllAr w1 [(x.num, d.num), (x.den, d.den)]) => coefI x d w1 k)
  cases hr : gP (l.map Prod.snd)
  · rw [hr] at CR
    rw [Bool.false_and]
    have H0 := hide h
    have H1 := hide hx
    clear h hx
    have B0 := hide (show Below w.heap.size w ((w.alloc (.cells #[.bool x.num.g, .slice x.num.a x.num.n x.num.c, .bool x.den.g, .slice x.den.a x.den.n x.den.c] 33)).alloc (.cells #[.bool false, .slice none 0 0, .bool false, .slice none 0 0] 33)) from (((Below.refl _ _).alloc (by simp) _).alloc (by simp) _))
    go_enter Try.func35, Try.ntmps35
    go_wp2_with fail
    refine (unhide CR _ ((unhide H0).later (unhide B0))).mono ?_
    rintro e w1 ⟨rfl, hb⟩
    have s1 : w.heap.size + 1 < w1.heap.size := by have := hb.size; simp at this; omega
    have k1_0 : w1.cell? ⟨w.heap.size + 1, 0, none⟩ = some (.bool false) := cell_later hb (by simp [go_sem])
    have k1_1 : w1.cell? ⟨w.heap.size + 1, 1, none⟩ = some (.slice none 0 0) := cell_later hb (by simp [go_sem])
    have k1_2 : w1.cell? ⟨w.heap.size + 1, 2, none⟩ = some (.bool false) := cell_later hb (by simp [go_sem])
    have k1_3 : w1.cell? ⟨w.heap.size + 1, 3, none⟩ = some (.slice none 0 0) := cell_later hb (by simp [go_sem])
    have z1 : ∀ o, w1.frozen? ⟨w.heap.size + 1, o, none⟩ = false := fun o => frozen_later hb (by simp) (by simp [go_sem])
    have HB := hide (below_on (unhide B0) hb)
    clear hb
    go_wp2
    refine bodyPost_ret (v := .tuple #[.agg #[.bool false, .slice none 0 0, .bool false, .slice none 0 0], .bool false]) (by simp [results, Try.results35, go_sem, k1_0, k1_1, k1_2, k1_3]) rfl ?_
    exact retQ_fin (v := (⟨⟨false, none, 0, 0⟩, ⟨false, none, 0, 0⟩⟩ : QV)) (d := (⟨⟨false, []⟩, ⟨false, []⟩⟩ : QD)) (R := w.heap.size + 1) (by omega) (unhide HB) (metQ_but (w5 := w1) (v := (⟨⟨false, none, 0, 0⟩, ⟨false, none, 0, 0⟩⟩ : QV)) (G := w.heap.size + 1)) (zeroQ _ _ _) (ansQ_none _ _)
  · rw [hr] at CR
    rw [Bool.true_and]
    cases hp : gC d
    · rw [hp] at CP
      have H0 := hide h
      have H1 := hide hx
      clear h hx
      have B0 := hide (show Below w.heap.size w ((w.alloc (.cells #[.bool x.num.g, .slice x.num.a x.num.n x.num.c, .bool x.den.g, .slice x.den.a x.den.n x.den.c] 33)).alloc (.cells #[.bool false, .slice none 0 0, .bool false, .slice none 0 0] 33)) from (((Below.refl _ _).alloc (by simp) _).alloc (by simp) _))
      go_enter Try.func35, Try.ntmps35
      go_wp2_with fail
      refine (unhide CR _ ((unhide H0).later (unhide B0))).mono ?_
      rintro e w1 ⟨rfl, hb⟩
      have s1 : w.heap.size + 1 < w1.heap.size := by have := hb.size; simp at this; omega
      have k0_0 : w1.cell? ⟨w.heap.size, 0, none⟩ = some (.bool x.num.g) := cell_later hb (by simp [go_sem])
      have k0_1 : w1.cell? ⟨w.heap.size, 1, none⟩ = some (.slice x.num.a x.num.n x.num.c) := cell_later hb (by simp [go_sem])
      have k0_2 : w1.cell? ⟨w.heap.size, 2, none⟩ = some (.bool x.den.g) := cell_later hb (by simp [go_sem])
      have k0_3 : w1.cell? ⟨w.heap.size, 3, none⟩ = some (.slice x.den.a x.den.n x.den.c) := cell_later hb (by simp [go_sem])
      have k1_0 : w1.cell? ⟨w.heap.size + 1, 0, none⟩ = some (.bool false) := cell_later hb (by simp [go_sem])
      have k1_1 : w1.cell? ⟨w.heap.size + 1, 1, none⟩ = some (.slice none 0 0) := cell_later hb (by simp [go_sem])
      have k1_2 : w1.cell? ⟨w.heap.size + 1, 2, none⟩ = some (.bool false) := cell_later hb (by simp [go_sem])
      have k1_3 : w1.cell? ⟨w.heap.size + 1, 3, none⟩ = some (.slice none 0 0) := cell_later hb (by simp [go_sem])
      have z1 : ∀ o, w1.frozen? ⟨w.heap.size + 1, o, none⟩ = false := fun o => frozen_later hb (by simp) (by simp [go_sem])
      have HB := hide (below_on (unhide B0) hb)
      clear hb
      go_wp2_with fail
      refine (unhide CP _ ((unhide H1).later (unhide HB))).mono ?_
      rintro e w2 ⟨rfl, hb⟩
      have s2 := hb.size
      replace z1 := fun o => frozen_later hb (World.block_lt_of_cell? _ _ k1_0) (z1 o)
      replace k1_0 := cell_later hb k1_0
      replace k1_1 := cell_later hb k1_1
      replace k1_2 := cell_later hb k1_2
      replace k1_3 := cell_later hb k1_3
      clear k0_0 k0_1 k0_2 k0_3
      replace HB := hide (below_on (unhide HB) hb)
      clear hb
      go_wp2
      refine bodyPost_ret (v := .tuple #[.agg #[.bool false, .slice none 0 0, .bool false, .slice none 0 0], .bool false]) (by simp [results, Try.results35, go_sem, k1_0, k1_1, k1_2, k1_3]) rfl ?_
      exact retQ_fin (v := (⟨⟨false, none, 0, 0⟩, ⟨false, none, 0, 0⟩⟩ : QV)) (d := (⟨⟨false, []⟩, ⟨false, []⟩⟩ : QD)) (R := w.heap.size + 1) (by omega) (unhide HB) (metQ_but (w5 := w2) (v := (⟨⟨false, none, 0, 0⟩, ⟨false, none, 0, 0⟩⟩ : QV)) (G := w.heap.size + 1)) (zeroQ _ _ _) (ansQ_none _ _)
    · rw [hp] at CP
      have hq : gQ d = true := by unfold gC at hp; simp only [Bool.and_eq_true] at hp; exact hp.2
      obtain ⟨hn7, hgs⟩ := goods_of h hr
      have gx : IsGood w x d := isGood_of hx hq
      have HGS := hide hgs
      have GX := hide gx
      have VG := hide (vg_all gx.sm (l.reverse.map fun y => (nQ y.2, dQ y.2)) (fun c hc => by obtain ⟨y, hy, rfl⟩ := List.mem_map.1 hc; exact (hgs y (List.mem_reverse.1 hy)).sm))
      clear hgs gx
      clear hq
      have H0 := hide h
      have H1 := hide hx
      clear h hx
      have B0 := hide (show Below w.heap.size w ((w.alloc (.cells #[.bool x.num.g, .slice x.num.a x.num.n x.num.c, .bool x.den.g, .slice x.den.a x.den.n x.den.c] 33)).alloc (.cells #[.bool false, .slice none 0 0, .bool false, .slice none 0 0] 33)) from (((Below.refl _ _).alloc (by simp) _).alloc (by simp) _))
      go_enter Try.func35, Try.ntmps35
      go_wp2_with fail
      refine (unhide CR _ ((unhide H0).later (unhide B0))).mono ?_
      rintro e w1 ⟨rfl, hb⟩
      have s1 : w.heap.size + 1 < w1.heap.size := by have := hb.size; simp at this; omega
      have k0_0 : w1.cell? ⟨w.heap.size, 0, none⟩ = some (.bool x.num.g) := cell_later hb (by simp [go_sem])
      have k0_1 : w1.cell? ⟨w.heap.size, 1, none⟩ = some (.slice x.num.a x.num.n x.num.c) := cell_later hb (by simp [go_sem])
      have k0_2 : w1.cell? ⟨w.heap.size, 2, none⟩ = some (.bool x.den.g) := cell_later hb (by simp [go_sem])
      have k0_3 : w1.cell? ⟨w.heap.size, 3, none⟩ = some (.slice x.den.a x.den.n x.den.c) := cell_later hb (by simp [go_sem])
      have k1_0 : w1.cell? ⟨w.heap.size + 1, 0, none⟩ = some (.bool false) := cell_later hb (by simp [go_sem])
      have k1_1 : w1.cell? ⟨w.heap.size + 1, 1, none⟩ = some (.slice none 0 0) := cell_later hb (by simp [go_sem])
      have k1_2 : w1.cell? ⟨w.heap.size + 1, 2, none⟩ = some (.bool false) := cell_later hb (by simp [go_sem])
      have k1_3 : w1.cell? ⟨w.heap.size + 1, 3, none⟩ = some (.slice none 0 0) := cell_later hb (by simp [go_sem])
      have z1 : ∀ o, w1.frozen? ⟨w.heap.size + 1, o, none⟩ = false := fun o => frozen_later hb (by simp) (by simp [go_sem])
      have HB := hide (below_on (unhide B0) hb)
      clear hb
      go_wp2_with fail
      refine (unhide CP _ ((unhide H1).later (unhide HB))).mono ?_
      rintro e w2 ⟨rfl, hb⟩
      have s2 := hb.size
      replace z1 := fun o => frozen_later hb (World.block_lt_of_cell? _ _ k1_0) (z1 o)
      replace k0_0 := cell_later hb k0_0
      replace k0_1 := cell_later hb k0_1
      replace k0_2 := cell_later hb k0_2
      replace k0_3 := cell_later hb k0_3
      replace k1_0 := cell_later hb k1_0
      replace k1_1 := cell_later hb k1_1
      replace k1_2 := cell_later hb k1_2
      replace k1_3 := cell_later hb k1_3
      replace HB := hide (below_on (unhide HB) hb)
      clear hb
      go_wp2_with fail
      refine (valueI a n c l x (nQ d, dQ d) _ ((unhide H0).later (unhide HB)) (fun y hy => ((unhide HGS) y hy).later (unhide HB)) hn7 ((unhide GX).is.later (unhide HB)) (unhide GX).sm).mono ?_
      rintro e w3 ⟨r, zs, us, rfl, hb, or, ar, nz, nu⟩
      have s3 := hb.size
      have RM : r.den.n ≤ maxLen := Nat.le_trans ar.tail.head.ar.cap ar.tail.head.ar.top
      have NN := hide (And.intro nz nu)
      replace z1 := fun o => frozen_later hb (World.block_lt_of_cell? _ _ k1_0) (z1 o)
      replace k1_0 := cell_later hb k1_0
      replace k1_1 := cell_later hb k1_1
      replace k1_2 := cell_later hb k1_2
      replace k1_3 := cell_later hb k1_3
      clear k0_0 k0_1 k0_2 k0_3
      have OR := hide (or)
      replace HB := hide (below_on (unhide HB) hb)
      clear hb
      clear or ar nz nu
      go_wp2_with fail
      refine (whereQ r _ _ zs us w2.heap.size w3.heap.size _ (unhide OR) (Nat.le_refl _) RM (unhide NN).1 (unhide NN).2 (by have := (unhide VG).low.pos; omega)).mono ?_
      rintro e w4 ⟨v, dv, ok, rfl, hb, ov, hu⟩
      have s4 := hb.size
      have UU := hide hu
      replace z1 := fun o => frozen_later hb (World.block_lt_of_cell? _ _ k1_0) (z1 o)
      replace k1_0 := cell_later hb k1_0
      replace k1_1 := cell_later hb k1_1
      replace k1_2 := cell_later hb k1_2
      replace k1_3 := cell_later hb k1_3
      replace OR := hide ((unhide OR).later hb)
      have OV := hide (ov)
      replace HB := hide (below_on (unhide HB) hb)
      clear hb
      clear ov hu
      go_wp2
      refine bodyPost_ret (v := .tuple #[.agg #[.bool v.num.g, .slice v.num.a v.num.n v.num.c, .bool v.den.g, .slice v.den.a v.den.n v.den.c], .bool ok]) (by simp [results, Try.results35, go_sem, k1_0, k1_1, k1_2, k1_3]) rfl ?_
      exact retQ_fin (v := v) (d := dv) (R := w.heap.size + 1) (by omega) (unhide HB) (metQ_but (w5 := w4) (v := v) (G := w.heap.size + 1)) ((unhide OV).wide (by omega) (by omega)) (unhide UU)
set_option maxHeartbeats 4000000 in
theorem EvalPS (a : Option Addr) (n c : Nat) (l : List (QV × QD)) (x : QV) (d : QD) (w : World) (h : PArQ w a n c l) (hx : AllAr w [(x.num, d.num), (x.den, d.den)]) :
    Calls Try.prog 33 #[.slice a n c, .agg #[.bool x.num.g, .slice x.num.a x.num.n x.num.c, .bool x.den.g, .slice x.den.a x.den.n x.den.c]] w (RetQ w (AnsQ (gP (l.map Prod.snd) && gC d) (hvd (l.map Prod.snd) d).1 (hvd (l.map Prod.snd) d).2)) := by
  rw [← hvd_eq]
  have CR := hide (fun w1 (k : PArQ w1 a n c l) => GoodPS a n c l w1 k)
  have CL := hide (fun w1 (k : AllAr w1 [(x.num, d.num), (x.den, d.den)]) => smallS x d w1 k)
  have CG := hide (fun w1 (k : AllAr w1 [(x.num, d.num), (x.den, d.den)]) => goodQS x d w1 k)
  unfold gC
  cases hr : gP (l.map Prod.snd)
  · rw [hr] at CR
    rw [Bool.false_and]
    have H0 := hide h
    have H1 := hide hx
    clear h hx
    have B0 := hide (show Below w.heap.size w ((w.alloc (.cells #[.bool x.num.g, .slice x.num.a x.num.n x.num.c, .bool x.den.g, .slice x.den.a x.den.n x.den.c] 33)).alloc (.cells #[.bool false, .slice none 0 0, .bool false, .slice none 0 0] 33)) from (((Below.refl _ _).alloc (by simp) _).alloc (by simp) _))
    go_enter Try.func33, Try.ntmps33
    go_wp2_with fail
    refine (unhide CR _ ((unhide H0).later (unhide B0))).mono ?_
    rintro e w1 ⟨rfl, hb⟩
    have s1 : w.heap.size + 1 < w1.heap.size := by have := hb.size; simp at this; omega
    have k1_0 : w1.cell? ⟨w.heap.size + 1, 0, none⟩ = some (.bool false) := cell_later hb (by simp [go_sem])
    have k1_1 : w1.cell? ⟨w.heap.size + 1, 1, none⟩ = some (.slice none 0 0) := cell_later hb (by simp [go_sem])
    have k1_2 : w1.cell? ⟨w.heap.size + 1, 2, none⟩ = some (.bool false) := cell_later hb (by simp [go_sem])
    have k1_3 : w1.cell? ⟨w.heap.size + 1, 3, none⟩ = some (.slice none 0 0) := cell_later hb (by simp [go_sem])
    have z1 : ∀ o, w1.frozen? ⟨w.heap.size + 1, o, none⟩ = false := fun o => frozen_later hb (by simp) (by simp [go_sem])
    have HB := hide (below_on (unhide B0) hb)
    clear hb
    go_wp2
    refine bodyPost_ret (v := .tuple #[.agg #[.bool false, .slice none 0 0, .bool false, .slice none 0 0], .bool false]) (by simp [results, Try.results33, go_sem, k1_0, k1_1, k1_2, k1_3]) rfl ?_
    exact retQ_fin (v := (⟨⟨false, none, 0, 0⟩, ⟨false, none, 0, 0⟩⟩ : QV)) (d := (⟨⟨false, []⟩, ⟨false, []⟩⟩ : QD)) (R := w.heap.size + 1) (by omega) (unhide HB) (metQ_but (w5 := w1) (v := (⟨⟨false, none, 0, 0⟩, ⟨false, none, 0, 0⟩⟩ : QV)) (G := w.heap.size + 1)) (zeroQ _ _ _) (ansQ_none _ _)
  · rw [hr] at CR
    rw [Bool.true_and]
    cases hp : sm d
    · rw [hp] at CL
      rw [Bool.false_and]
      have H0 := hide h
      have H1 := hide hx
      clear h hx
      have B0 := hide (show Below w.heap.size w ((w.alloc (.cells #[.bool x.num.g, .slice x.num.a x.num.n x.num.c, .bool x.den.g, .slice x.den.a x.den.n x.den.c] 33)).alloc (.cells #[.bool false, .slice none 0 0, .bool false, .slice none 0 0] 33)) from (((Below.refl _ _).alloc (by simp) _).alloc (by simp) _))
      go_enter Try.func33, Try.ntmps33
      go_wp2_with fail
      refine (unhide CR _ ((unhide H0).later (unhide B0))).mono ?_
      rintro e w1 ⟨rfl, hb⟩
      have s1 : w.heap.size + 1 < w1.heap.size := by have := hb.size; simp at this; omega
      have k0_0 : w1.cell? ⟨w.heap.size, 0, none⟩ = some (.bool x.num.g) := cell_later hb (by simp [go_sem])
      have k0_1 : w1.cell? ⟨w.heap.size, 1, none⟩ = some (.slice x.num.a x.num.n x.num.c) := cell_later hb (by simp [go_sem])
      have k0_2 : w1.cell? ⟨w.heap.size, 2, none⟩ = some (.bool x.den.g) := cell_later hb (by simp [go_sem])
      have k0_3 : w1.cell? ⟨w.heap.size, 3, none⟩ = some (.slice x.den.a x.den.n x.den.c) := cell_later hb (by simp [go_sem])
      have k1_0 : w1.cell? ⟨w.heap.size + 1, 0, none⟩ = some (.bool false) := cell_later hb (by simp [go_sem])
      have k1_1 : w1.cell? ⟨w.heap.size + 1, 1, none⟩ = some (.slice none 0 0) := cell_later hb (by simp [go_sem])
      have k1_2 : w1.cell? ⟨w.heap.size + 1, 2, none⟩ = some (.bool false) := cell_later hb (by simp [go_sem])
      have k1_3 : w1.cell? ⟨w.heap.size + 1, 3, none⟩ = some (.slice none 0 0) := cell_later hb (by simp [go_sem])
      have z1 : ∀ o, w1.frozen? ⟨w.heap.size + 1, o, none⟩ = false := fun o => frozen_later hb (by simp) (by simp [go_sem])
      have HB := hide (below_on (unhide B0) hb)
      clear hb
      go_wp2_with fail
      refine (unhide CL _ ((unhide H1).later (unhide HB))).mono ?_
      rintro e w2 ⟨rfl, hb⟩
      have s2 := hb.size
      replace z1 := fun o => frozen_later hb (World.block_lt_of_cell? _ _ k1_0) (z1 o)
      replace k1_0 := cell_later hb k1_0
      replace k1_1 := cell_later hb k1_1
      replace k1_2 := cell_later hb k1_2
      replace k1_3 := cell_later hb k1_3
      clear k0_0 k0_1 k0_2 k0_3
      replace HB := hide (below_on (unhide HB) hb)
      clear hb
      go_wp2
      refine bodyPost_ret (v := .tuple #[.agg #[.bool false, .slice none 0 0, .bool false, .slice none 0 0], .bool false]) (by simp [results, Try.results33, go_sem, k1_0, k1_1, k1_2, k1_3]) rfl ?_
      exact retQ_fin (v := (⟨⟨false, none, 0, 0⟩, ⟨false, none, 0, 0⟩⟩ : QV)) (d := (⟨⟨false, []⟩, ⟨false, []⟩⟩ : QD)) (R := w.heap.size + 1) (by omega) (unhide HB) (metQ_but (w5 := w2) (v := (⟨⟨false, none, 0, 0⟩, ⟨false, none, 0, 0⟩⟩ : QV)) (G := w.heap.size + 1)) (zeroQ _ _ _) (ansQ_none _ _)
    · rw [hp] at CL
      rw [Bool.true_and]
      cases hq : gQ d
      · rw [hq] at CG
        have H0 := hide h
        have H1 := hide hx
        clear h hx
        have B0 := hide (show Below w.heap.size w ((w.alloc (.cells #[.bool x.num.g, .slice x.num.a x.num.n x.num.c, .bool x.den.g, .slice x.den.a x.den.n x.den.c] 33)).alloc (.cells #[.bool false, .slice none 0 0, .bool false, .slice none 0 0] 33)) from (((Below.refl _ _).alloc (by simp) _).alloc (by simp) _))
        go_enter Try.func33, Try.ntmps33
        go_wp2_with fail
        refine (unhide CR _ ((unhide H0).later (unhide B0))).mono ?_
        rintro e w1 ⟨rfl, hb⟩
        have s1 : w.heap.size + 1 < w1.heap.size := by have := hb.size; simp at this; omega
        have k0_0 : w1.cell? ⟨w.heap.size, 0, none⟩ = some (.bool x.num.g) := cell_later hb (by simp [go_sem])
        have k0_1 : w1.cell? ⟨w.heap.size, 1, none⟩ = some (.slice x.num.a x.num.n x.num.c) := cell_later hb (by simp [go_sem])
        have k0_2 : w1.cell? ⟨w.heap.size, 2, none⟩ = some (.bool x.den.g) := cell_later hb (by simp [go_sem])
        have k0_3 : w1.cell? ⟨w.heap.size, 3, none⟩ = some (.slice x.den.a x.den.n x.den.c) := cell_later hb (by simp [go_sem])
        have k1_0 : w1.cell? ⟨w.heap.size + 1, 0, none⟩ = some (.bool false) := cell_later hb (by simp [go_sem])
        have k1_1 : w1.cell? ⟨w.heap.size + 1, 1, none⟩ = some (.slice none 0 0) := cell_later hb (by simp [go_sem])
        have k1_2 : w1.cell? ⟨w.heap.size + 1, 2, none⟩ = some (.bool false) := cell_later hb (by simp [go_sem])
        have k1_3 : w1.cell? ⟨w.heap.size + 1, 3, none⟩ = some (.slice none 0 0) := cell_later hb (by simp [go_sem])
        have z1 : ∀ o, w1.frozen? ⟨w.heap.size + 1, o, none⟩ = false := fun o => frozen_later hb (by simp) (by simp [go_sem])
        have HB := hide (below_on (unhide B0) hb)
        clear hb
        go_wp2_with fail
        refine (unhide CL _ ((unhide H1).later (unhide HB))).mono ?_
        rintro e w2 ⟨rfl, hb⟩
        have s2 := hb.size
        replace z1 := fun o => frozen_later hb (World.block_lt_of_cell? _ _ k1_0) (z1 o)
        replace k0_0 := cell_later hb k0_0
        replace k0_1 := cell_later hb k0_1
        replace k0_2 := cell_later hb k0_2
        replace k0_3 := cell_later hb k0_3
        replace k1_0 := cell_later hb k1_0
        replace k1_1 := cell_later hb k1_1
        replace k1_2 := cell_later hb k1_2
        replace k1_3 := cell_later hb k1_3
        replace HB := hide (below_on (unhide HB) hb)
        clear hb
        go_wp2_with fail
        refine (unhide CG _ ((unhide H1).later (unhide HB))).mono ?_
        rintro e w3 ⟨rfl, hb⟩
        have s3 := hb.size
        replace z1 := fun o => frozen_later hb (World.block_lt_of_cell? _ _ k1_0) (z1 o)
        replace k1_0 := cell_later hb k1_0
        replace k1_1 := cell_later hb k1_1
        replace k1_2 := cell_later hb k1_2
        replace k1_3 := cell_later hb k1_3
        clear k0_0 k0_1 k0_2 k0_3
        replace HB := hide (below_on (unhide HB) hb)
        clear hb
        go_wp2
        refine bodyPost_ret (v := .tuple #[.agg #[.bool false, .slice none 0 0, .bool false, .slice none 0 0], .bool false]) (by simp [results, Try.results33, go_sem, k1_0, k1_1, k1_2, k1_3]) rfl ?_
        exact retQ_fin (v := (⟨⟨false, none, 0, 0⟩, ⟨false, none, 0, 0⟩⟩ : QV)) (d := (⟨⟨false, []⟩, ⟨false, []⟩⟩ : QD)) (R := w.heap.size + 1) (by omega) (unhide HB) (metQ_but (w5 := w3) (v := (⟨⟨false, none, 0, 0⟩, ⟨false, none, 0, 0⟩⟩ : QV)) (G := w.heap.size + 1)) (zeroQ _ _ _) (ansQ_none _ _)
      · rw [hq] at CG
        obtain ⟨hn7, hgs⟩ := goods_of h hr
        have gx : IsGood w x d := isGood_of hx hq
        have HGS := hide hgs
        have GX := hide gx
        have VG := hide (vg_all gx.sm (l.reverse.map fun y => (nQ y.2, dQ y.2)) (fun c hc => by obtain ⟨y, hy, rfl⟩ := List.mem_map.1 hc; exact (hgs y (List.mem_reverse.1 hy)).sm))
        clear hgs gx
        have H0 := hide h
        have H1 := hide hx
        clear h hx
        have B0 := hide (show Below w.heap.size w ((w.alloc (.cells #[.bool x.num.g, .slice x.num.a x.num.n x.num.c, .bool x.den.g, .slice x.den.a x.den.n x.den.c] 33)).alloc (.cells #[.bool false, .slice none 0 0, .bool false, .slice none 0 0] 33)) from (((Below.refl _ _).alloc (by simp) _).alloc (by simp) _))
        go_enter Try.func33, Try.ntmps33
        go_wp2_with fail
        refine (unhide CR _ ((unhide H0).later (unhide B0))).mono ?_
        rintro e w1 ⟨rfl, hb⟩
        have s1 : w.heap.size + 1 < w1.heap.size := by have := hb.size; simp at this; omega
        have k0_0 : w1.cell? ⟨w.heap.size, 0, none⟩ = some (.bool x.num.g) := cell_later hb (by simp [go_sem])
        have k0_1 : w1.cell? ⟨w.heap.size, 1, none⟩ = some (.slice x.num.a x.num.n x.num.c) := cell_later hb (by simp [go_sem])
        have k0_2 : w1.cell? ⟨w.heap.size, 2, none⟩ = some (.bool x.den.g) := cell_later hb (by simp [go_sem])
        have k0_3 : w1.cell? ⟨w.heap.size, 3, none⟩ = some (.slice x.den.a x.den.n x.den.c) := cell_later hb (by simp [go_sem])
        have k1_0 : w1.cell? ⟨w.heap.size + 1, 0, none⟩ = some (.bool false) := cell_later hb (by simp [go_sem])
        have k1_1 : w1.cell? ⟨w.heap.size + 1, 1, none⟩ = some (.slice none 0 0) := cell_later hb (by simp [go_sem])
        have k1_2 : w1.cell? ⟨w.heap.size + 1, 2, none⟩ = some (.bool false) := cell_later hb (by simp [go_sem])
        have k1_3 : w1.cell? ⟨w.heap.size + 1, 3, none⟩ = some (.slice none 0 0) := cell_later hb (by simp [go_sem])
        have z1 : ∀ o, w1.frozen? ⟨w.heap.size + 1, o, none⟩ = false := fun o => frozen_later hb (by simp) (by simp [go_sem])
        have HB := hide (below_on (unhide B0) hb)
        clear hb
        go_wp2_with fail
        refine (unhide CL _ ((unhide H1).later (unhide HB))).mono ?_
        rintro e w2 ⟨rfl, hb⟩
        have s2 := hb.size
        replace z1 := fun o => frozen_later hb (World.block_lt_of_cell? _ _ k1_0) (z1 o)
        replace k0_0 := cell_later hb k0_0
        replace k0_1 := cell_later hb k0_1
        replace k0_2 := cell_later hb k0_2
        replace k0_3 := cell_later hb k0_3
        replace k1_0 := cell_later hb k1_0
        replace k1_1 := cell_later hb k1_1
        replace k1_2 := cell_later hb k1_2
        replace k1_3 := cell_later hb k1_3
        replace HB := hide (below_on (unhide HB) hb)
        clear hb
        go_wp2_with fail
        refine (unhide CG _ ((unhide H1).later (unhide HB))).mono ?_
        rintro e w3 ⟨rfl, hb⟩
        have s3 := hb.size
        replace z1 := fun o => frozen_later hb (World.block_lt_of_cell? _ _ k1_0) (z1 o)
        replace k0_0 := cell_later hb k0_0
        replace k0_1 := cell_later hb k0_1
        replace k0_2 := cell_later hb k0_2
        replace k0_3 := cell_later hb k0_3
        replace k1_0 := cell_later hb k1_0
        replace k1_1 := cell_later hb k1_1
        replace k1_2 := cell_later hb k1_2
        replace k1_3 := cell_later hb k1_3
        replace HB := hide (below_on (unhide HB) hb)
        clear hb
        go_wp2_with fail
        refine (valueS a n c l x (nQ d, dQ d) _ ((unhide H0).later (unhide HB)) (fun y hy => ((unhide HGS) y hy).later (unhide HB)) hn7 ((unhide GX).is.later (unhide HB)) (unhide GX).sm).mono ?_
        rintro e w4 ⟨r, rfl, hb, or1, or2⟩
        have s4 := hb.size
        replace z1 := fun o => frozen_later hb (World.block_lt_of_cell? _ _ k1_0) (z1 o)
        replace k1_0 := cell_later hb k1_0
        replace k1_1 := cell_later hb k1_1
        replace k1_2 := cell_later hb k1_2
        replace k1_3 := cell_later hb k1_3
        clear k0_0 k0_1 k0_2 k0_3
        have OR1 := hide (or1)
        have OR2 := hide (or2)
        replace HB := hide (below_on (unhide HB) hb)
        clear hb
        clear or1 or2
        go_wp2_with fail
        refine (fitsQS r _ _ _ ⟨(unhide OR1).is, (unhide OR2).is⟩ (unhide VG).low.pos).mono ?_
        rintro e w5 ⟨v, dv, ok, rfl, hb, ov, hu⟩
        have s5 := hb.size
        have UU := hide hu
        replace z1 := fun o => frozen_later hb (World.block_lt_of_cell? _ _ k1_0) (z1 o)
        replace k1_0 := cell_later hb k1_0
        replace k1_1 := cell_later hb k1_1
        replace k1_2 := cell_later hb k1_2
        replace k1_3 := cell_later hb k1_3
        replace OR1 := hide ((unhide OR1).later hb)
        replace OR2 := hide ((unhide OR2).later hb)
        have OV := hide (ov)
        replace HB := hide (below_on (unhide HB) hb)
        clear hb
        clear ov hu
        go_wp2
        refine bodyPost_ret (v := .tuple #[.agg #[.bool v.num.g, .slice v.num.a v.num.n v.num.c, .bool v.den.g, .slice v.den.a v.den.n v.den.c], .bool ok]) (by simp [results, Try.results33, go_sem, k1_0, k1_1, k1_2, k1_3]) rfl ?_
        exact retQ_fin (v := v) (d := dv) (R := w.heap.size + 1) (by omega) (unhide HB) (metQ_but (w5 := w5) (v := v) (G := w.heap.size + 1)) ((unhide OV).wide (by omega) (by omega)) (unhide UU)
end Go.Proofs.Ytliaddmkomcmnaa
namespace Go.Proofs.Ytliaddmkomcmnaa
open Go.RowKit
set_option linter.unusedVariables false
set_option maxRecDepth 100000
set_option linter.unusedSimpArgs false

/-- The mark that stands for a sign. -/
def sg (k : Int) : Bool := (k % 3 == 0)
/-- The cells of some fractions from block G's start on. -/
def RowQ (w : World) (G : Nat) (l : List (QV × QD)) : Prop := ∃ cur, w.heap[G]? = some (.cells cur 33 (0, 0)) ∧ ∀ j p, l[j]? = some p → cur[j * 4]? = some (.bool p.1.num.g) ∧ cur[j * 4 + 1]? = some (.slice p.1.num.a p.1.num.n p.1.num.c) ∧ cur[j * 4 + 2]? = some (.bool p.1.den.g) ∧ cur[j * 4 + 3]? = some (.slice p.1.den.a p.1.den.n p.1.den.c)
theorem mid_ne {α : Type} {pre post : List α} {y y' : α} {j : Nat} (h : j ≠ pre.length) : (pre ++ y :: post)[j]? = (pre ++ y' :: post)[j]? := by
  by_cases c : j < pre.length
  · rw [List.getElem?_append_left c, List.getElem?_append_left c]
  · rw [List.getElem?_append_right (by omega), List.getElem?_append_right (by omega)]
    obtain ⟨m, hm⟩ : ∃ m, j - pre.length = m + 1 := ⟨j - pre.length - 1, by omega⟩
    rw [hm, List.getElem?_cons_succ, List.getElem?_cons_succ]
theorem mid_eq {α : Type} {pre post : List α} {y : α} : (pre ++ y :: post)[pre.length]? = some y := by
  rw [List.getElem?_append_right (Nat.le_refl _), Nat.sub_self]; rfl
theorem RowQ.lt {w : World} {G : Nat} {l : List (QV × QD)} (h : RowQ w G l) : G < w.heap.size := by
  obtain ⟨cur, hg, _⟩ := h
  exact (Array.getElem?_eq_some_iff.1 hg).1
theorem RowQ.cellsAt {w : World} {G : Nat} {l : List (QV × QD)} (h : RowQ w G l) {i : Nat} {y : QV × QD} (hy : l[i]? = some y) : w.cell? ⟨G, i * 4, none⟩ = some (.bool y.1.num.g) ∧ w.cell? ⟨G, i * 4 + 1, none⟩ = some (.slice y.1.num.a y.1.num.n y.1.num.c) ∧ w.cell? ⟨G, i * 4 + 2, none⟩ = some (.bool y.1.den.g) ∧ w.cell? ⟨G, i * 4 + 3, none⟩ = some (.slice y.1.den.a y.1.den.n y.1.den.c) := by
  obtain ⟨cur, hg, hc⟩ := h
  have h1 := hc i y hy
  refine ⟨?_, ?_, ?_, ?_⟩ <;> rw [cell_of_row w G _ cur 33 (0, 0) hg]
  · exact h1.1
  · exact h1.2.1
  · exact h1.2.2.1
  · exact h1.2.2.2
theorem RowQ.frozen {w : World} {G : Nat} {l : List (QV × QD)} (h : RowQ w G l) (o : Nat) : w.frozen? ⟨G, o, none⟩ = false := by
  obtain ⟨cur, hg, hc⟩ := h
  exact frozen_of_row w G o cur 33 hg
theorem RowQ.but {w w' : World} {G lo hi : Nat} {l : List (QV × QD)} (h : RowQ w G l) (hb : But lo hi w w') (hG : G < lo ∨ hi ≤ G) : RowQ w' G l := by
  obtain ⟨cur, hg, hc⟩ := h
  exact ⟨cur, by rw [hb.block G (Array.getElem?_eq_some_iff.1 hg).1 hG]; exact hg, hc⟩
theorem RowQ.later {w w' : World} {G : Nat} {l : List (QV × QD)} (h : RowQ w G l) (hb : Below w.heap.size w w') : RowQ w' G l := by
  obtain ⟨cur, hg, hc⟩ := h
  exact ⟨cur, by rw [hb.block G (Array.getElem?_eq_some_iff.1 hg).1]; exact hg, hc⟩
theorem RowQ.g0 {w : World} {G i : Nat} {pre post : List (QV × QD)} {y : QV × QD} (g : Bool) (h : RowQ w G (pre ++ y :: post)) (hi : pre.length = i) : RowQ (w.setCell ⟨G, i * 4, none⟩ (.bool g)) G (pre ++ ((⟨⟨g, y.1.num.a, y.1.num.n, y.1.num.c⟩, y.1.den⟩ : QV), (⟨⟨g, y.2.num.xs⟩, y.2.den⟩ : QD)) :: post) := by
  obtain ⟨cur, hg, hc⟩ := h
  subst hi
  refine ⟨cur.setIfInBounds (pre.length * 4) (.bool g), heap_setCell_same w G (pre.length * 4) cur 33 (.bool g) hg, fun j p hp => ?_⟩
  by_cases e : j = pre.length
  · subst e
    rw [mid_eq] at hp
    obtain rfl := Option.some.inj hp
    have h1 := hc pre.length y mid_eq
    have hs : pre.length * 4 < cur.size := (Array.getElem?_eq_some_iff.1 (h1.1)).1
    refine ⟨?_, ?_, ?_, ?_⟩
    · simp [hs]
    · rw [Array.getElem?_setIfInBounds_ne (by omega)]; exact h1.2.1
    · rw [Array.getElem?_setIfInBounds_ne (by omega)]; exact h1.2.2.1
    · rw [Array.getElem?_setIfInBounds_ne (by omega)]; exact h1.2.2.2
  · rw [mid_ne e (y' := y)] at hp
    have h1 := hc j p hp
    refine ⟨?_, ?_, ?_, ?_⟩
    · rw [Array.getElem?_setIfInBounds_ne (by omega)]; exact h1.1
    · rw [Array.getElem?_setIfInBounds_ne (by omega)]; exact h1.2.1
    · rw [Array.getElem?_setIfInBounds_ne (by omega)]; exact h1.2.2.1
    · rw [Array.getElem?_setIfInBounds_ne (by omega)]; exact h1.2.2.2
theorem RowQ.g2 {w : World} {G i : Nat} {pre post : List (QV × QD)} {y : QV × QD} (g : Bool) (h : RowQ w G (pre ++ y :: post)) (hi : pre.length = i) : RowQ (w.setCell ⟨G, i * 4 + 2, none⟩ (.bool g)) G (pre ++ ((⟨y.1.num, ⟨g, y.1.den.a, y.1.den.n, y.1.den.c⟩⟩ : QV), (⟨y.2.num, ⟨g, y.2.den.xs⟩⟩ : QD)) :: post) := by
  obtain ⟨cur, hg, hc⟩ := h
  subst hi
  refine ⟨cur.setIfInBounds (pre.length * 4 + 2) (.bool g), heap_setCell_same w G (pre.length * 4 + 2) cur 33 (.bool g) hg, fun j p hp => ?_⟩
  by_cases e : j = pre.length
  · subst e
    rw [mid_eq] at hp
    obtain rfl := Option.some.inj hp
    have h1 := hc pre.length y mid_eq
    have hs : pre.length * 4 + 2 < cur.size := (Array.getElem?_eq_some_iff.1 (h1.2.2.1)).1
    refine ⟨?_, ?_, ?_, ?_⟩
    · rw [Array.getElem?_setIfInBounds_ne (by omega)]; exact h1.1
    · rw [Array.getElem?_setIfInBounds_ne (by omega)]; exact h1.2.1
    · simp [hs]
    · rw [Array.getElem?_setIfInBounds_ne (by omega)]; exact h1.2.2.2
  · rw [mid_ne e (y' := y)] at hp
    have h1 := hc j p hp
    refine ⟨?_, ?_, ?_, ?_⟩
    · rw [Array.getElem?_setIfInBounds_ne (by omega)]; exact h1.1
    · rw [Array.getElem?_setIfInBounds_ne (by omega)]; exact h1.2.1
    · rw [Array.getElem?_setIfInBounds_ne (by omega)]; exact h1.2.2.1
    · rw [Array.getElem?_setIfInBounds_ne (by omega)]; exact h1.2.2.2
theorem AllOwn.resign {lo hi : Nat} {w w' : World} {pre post : List (BV × BD)} {b : BV} {d : BD} (g : Bool) (h : AllOwn lo hi w (pre ++ (b, d) :: post)) (hb : ∀ k, lo ≤ k → k < w.heap.size → w'.heap[k]? = w.heap[k]?) : AllOwn lo hi w' (pre ++ (⟨g, b.a, b.n, b.c⟩, ⟨g, d.xs⟩) :: post) := by
  have mv : ∀ (a : Option Addr) (zs : List Int), Own2 lo hi w a zs → Own2 lo hi w' a zs := fun a zs ho => by
    rcases ho with e | ⟨b', cur, e, h1, h2, hg, hc⟩
    · exact .inl e
    · exact .inr ⟨b', cur, e, h1, h2, by rw [hb b' h1 (Array.getElem?_eq_some_iff.1 hg).1]; exact hg, hc⟩
  refine ⟨fun p hp => ?_, ?_⟩
  · rcases List.mem_append.1 hp with hp | hp
    · have ho := h.own p (List.mem_append_left _ hp)
      exact ⟨ho.sg, mv _ _ ho.own, ho.len⟩
    · rcases List.mem_cons.1 hp with rfl | hp
      · have ho := h.own (b, d) (List.mem_append_right _ List.mem_cons_self)
        exact ⟨rfl, mv _ _ ho.own, ho.len⟩
      · have ho := h.own p (List.mem_append_right _ (List.mem_cons_of_mem _ hp))
        exact ⟨ho.sg, mv _ _ ho.own, ho.len⟩
  · obtain ⟨p1, p2, p3⟩ := List.pairwise_append.1 h.ap
    obtain ⟨p4, p5⟩ := List.pairwise_cons.1 p2
    refine List.pairwise_append.2 ⟨p1, List.pairwise_cons.2 ⟨fun q hq => p4 q hq, p5⟩, fun p hp q hq => ?_⟩
    rcases List.mem_cons.1 hq with rfl | hq
    · exact p3 p hp (b, d) List.mem_cons_self
    · exact p3 p hp q (List.mem_cons_of_mem _ hq)
theorem RowQ.data {w : World} {G : Nat} {pre post : List (QV × QD)} {v : QV} {d d' : QD} (h : RowQ w G (pre ++ (v, d) :: post)) : RowQ w G (pre ++ (v, d') :: post) := by
  obtain ⟨cur, hg, hc⟩ := h
  refine ⟨cur, hg, fun j p hp => ?_⟩
  by_cases e : j = pre.length
  · subst e
    rw [mid_eq] at hp
    obtain rfl := Option.some.inj hp
    exact hc pre.length (v, d) mid_eq
  · rw [mid_ne e (y' := (v, d))] at hp
    exact hc j p hp
theorem But.wide {lo hi lo' hi' : Nat} {w w' : World} (h : But lo hi w w') (h1 : lo' ≤ lo) (h2 : hi ≤ hi') : But lo' hi' w w' := ⟨h.os, h.tape, h.output, h.size, fun k hk hd => h.block k hk (by omega)⟩
theorem setCell_other {w : World} {G o k : Nat} {v : Value} (h : k ≠ G) : (w.setCell ⟨G, o, none⟩ v).heap[k]? = w.heap[k]? := heap_setCell_other w ⟨G, o, none⟩ k v h
theorem zip_mid (pre post : List (QV × QD)) (y : QV × QD) : zipPQ (pre ++ y :: post) = zipPQ pre ++ (y.1.num, y.2.num) :: ((y.1.den, y.2.den) :: zipPQ post) := by simp [zipPQ]
theorem zip_mid2 (pre post : List (QV × QD)) (y : QV × QD) : zipPQ (pre ++ y :: post) = (zipPQ pre ++ [(y.1.num, y.2.num)]) ++ (y.1.den, y.2.den) :: zipPQ post := by simp [zipPQ]
/-- A marked fraction, from k on. -/
def mkQ (k : Int) (y : QV × QD) : QV × QD := (⟨⟨sg k, y.1.num.a, y.1.num.n, y.1.num.c⟩, ⟨sg (k + 1 + (y.1.num.n : Int)), y.1.den.a, y.1.den.n, y.1.den.c⟩⟩, ⟨⟨sg k, marks (k + 1) y.1.num.n⟩, ⟨sg (k + 1 + (y.1.num.n : Int)), marks (k + 1 + (y.1.num.n : Int) + 1) y.1.den.n⟩⟩)
def nxK (k : Int) (y : QV × QD) : Int := k + 1 + (y.1.num.n : Int) + 1 + (y.1.den.n : Int)
def mkP : Int → List (QV × QD) → List (QV × QD)
  | _, [] => []
  | k, y :: l => mkQ k y :: mkP (nxK k y) l
def enK : Int → List (QV × QD) → Int
  | k, [] => k
  | k, y :: l => enK (nxK k y) l
theorem mkP_snoc (l : List (QV × QD)) (y : QV × QD) : ∀ k, mkP k (l ++ [y]) = mkP k l ++ [mkQ (enK k l) y] := by
  induction l with
  | nil => intro k; rfl
  | cons z l ih => intro k; show mkQ k z :: mkP (nxK k z) (l ++ [y]) = _; rw [ih]; rfl
theorem enK_snoc (l : List (QV × QD)) (y : QV × QD) : ∀ k, enK k (l ++ [y]) = nxK (enK k l) y := by
  induction l with
  | nil => intro k; rfl
  | cons z l ih => intro k; show enK (nxK k z) (l ++ [y]) = _; rw [ih]; rfl
theorem mkP_len (l : List (QV × QD)) : ∀ k, (mkP k l).length = l.length := by
  induction l with
  | nil => intro k; rfl
  | cons z l ih => intro k; show (mkP (nxK k z) l).length + 1 = _; rw [ih]; rfl
theorem enK_eq (l : List (QV × QD)) : ∀ k, enK k l = k + 2 * (l.length : Int) + (lenPQ l : Int) := by
  induction l with
  | nil => intro k; simp [enK, lenPQ]
  | cons z l ih =>
    intro k
    show enK (nxK k z) l = _
    rw [ih]
    have h2 : lenPQ (z :: l) = lenQ z + lenPQ l := rfl
    have h3 : lenQ z = z.1.num.n + z.1.den.n := rfl
    rw [h2, h3]
    unfold nxK
    simp only [List.length_cons]
    omega
theorem mkP_get (l : List (QV × QD)) : ∀ (k : Int) (i : Nat) (h : i < l.length), (mkP k l)[i]? = some (mkQ (enK k (l.take i)) l[i]) := by
  induction l with
  | nil => intro k i h; simp at h
  | cons z l ih =>
    intro k i h
    match i with
    | 0 => rfl
    | i + 1 => exact ih (nxK k z) i (by simpa using h)

set_option maxHeartbeats 4000000 in
theorem markP (G n c : Nat) (l : List (QV × QD)) (k : Int) (lo hi : Nat) (w : World) (hr : RowQ w G l) (ho : AllOwn lo hi w (zipPQ l)) (hn : l.length = n) (ml : ∀ p ∈ l, p.1.num.n ≤ 1048576 ∧ p.1.den.n ≤ 1048576) (hG : G < lo) (hH : lo ≤ hi) (k0 : 0 ≤ k) (k1 : k + 2 * (n : Int) + (lenPQ l : Int) ≤ 3900000) :
    Calls Try.prog 37 #[.slice (some ⟨G, 0, none⟩) n c, .int .i64 k] w fun e w' => e = .returned (.int .i64 (enK k l)) ∧ But G hi w w' ∧ RowQ w' G (mkP k l) ∧ AllOwn lo hi w' (zipPQ (mkP k l)) := by
  have HR := hide hr
  have HO := hide ho
  have HN := hide hn
  have ML := hide ml
  clear hr ho hn ml
  have hn1 : n ≤ 3900000 := by omega
  go_enter Try.func37, Try.ntmps37
  go_wp2
  go_loopw [1, 5] (fun kv iv wr => ∃ (i : Nat) (a b : List (QV × QD)) (q : Int), i ≤ n ∧ iv = .int .i64 i ∧ kv = .int .i64 q ∧ 0 ≤ q ∧ a.length = i ∧ Hid (l = a ++ b) ∧ Hid (q = enK k a) ∧ Hid (RowQ wr G (mkP k a ++ b)) ∧ Hid (AllOwn lo hi wr (zipPQ (mkP k a ++ b))) ∧ Hid (But G hi w wr)) (fun _ iv _ => n - (intOf iv).toNat)
  case atStart => exact ⟨0, [], l, k, Nat.zero_le _, rfl, rfl, k0, rfl, hide rfl, hide rfl, HR, HO, hide (But.refl _ _ _)⟩
  case round =>
    clear HR HO
    obtain ⟨i, a, b, q, hi', rfl, rfl, q0, ha, EL, EQ, HR, HO, HB⟩ := hrel
    by_cases hlt : i < n
    · have hlt' : (i : Int) < (n : Int) := by omega
      obtain ⟨y, b', rfl⟩ : ∃ y b', b = y :: b' := by
        cases b with
        | nil => have h1 := unhide HN; rw [unhide EL, List.append_nil] at h1; omega
        | cons y b' => exact ⟨y, b', rfl⟩
      have LB : Hid ((y.1.num.n : Int) + (y.1.den.n : Int) + (q + 2) ≤ 3900000) := hide (by
        have h1 := unhide EQ
        rw [enK_eq, ha] at h1
        have h2 : lenPQ l = lenPQ a + (lenQ y + lenPQ b') := by rw [unhide EL, lenPQ_append]; rfl
        have h3 : lenQ y = y.1.num.n + y.1.den.n := rfl
        have h4 := unhide HN
        rw [unhide EL] at h4
        simp at h4
        omega)
      have l1 : (y.1.num.n : Int) + (y.1.den.n : Int) + (q + 2) ≤ 3900000 := unhide LB
      have m1 : y.1.num.n ≤ 1048576 := ((unhide ML) y (by rw [unhide EL]; simp)).1
      have m2 : y.1.den.n ≤ 1048576 := ((unhide ML) y (by rw [unhide EL]; simp)).2
      have pl : (mkP k a).length = i := by rw [mkP_len]; exact ha
      obtain ⟨c0, c1, c2, c3⟩ := (unhide HR).cellsAt (i := i) (y := y) (by rw [← pl]; exact mid_eq)
      have fz := (unhide HR).frozen
      have gG : G < wr.heap.size := (unhide HR).lt
      -- the first sign
      have HR1 := hide ((unhide HR).g0 (sg q) pl)
      have HO1 := hide (AllOwn.resign (sg q) (by have h := unhide HO; rw [zip_mid] at h; exact h) (w' := wr.setCell ⟨G, i * 4, none⟩ (.bool (sg q))) (fun k h1 _ => setCell_other (by omega)))
      have HB1 := hide ((unhide HB).set (p := ⟨G, i * 4, none⟩) (Nat.le_refl _) (by show G < hi; omega) (.bool (sg q)))
      go_wp2_with fail
      refine (mark_at ⟨sg q, y.1.num.a, y.1.num.n, y.1.num.c⟩ ⟨sg q, y.2.num.xs⟩ (zipPQ (mkP k a)) ((y.1.den, y.2.den) :: zipPQ b') (q + 1) lo hi _ (unhide HO1) m1 (by omega) (by omega)).mono ?_
      rintro e w2 ⟨rfl, hbt, ho2⟩
      have HR2 : Hid (RowQ w2 G (mkP k a ++ ((⟨⟨sg q, y.1.num.a, y.1.num.n, y.1.num.c⟩, y.1.den⟩ : QV), (⟨⟨sg q, marks (q + 1) y.1.num.n⟩, y.2.den⟩ : QD)) :: b')) := hide ((unhide HR1).but hbt (.inl hG)).data
      have HO2 : Hid (AllOwn lo hi w2 (zipPQ (mkP k a ++ ((⟨⟨sg q, y.1.num.a, y.1.num.n, y.1.num.c⟩, y.1.den⟩ : QV), (⟨⟨sg q, marks (q + 1) y.1.num.n⟩, y.2.den⟩ : QD)) :: b'))) := hide (by rw [zip_mid]; exact ho2)
      have HB2 := hide ((unhide HB1).trans (hbt.wide (by omega) (Nat.le_refl _)))
      clear hbt ho2 c0 c1 c2 c3 fz HR HO HB HR1 HO1 HB1
      obtain ⟨c0, c1, c2, c3⟩ := (unhide HR2).cellsAt (i := i) (by rw [← pl]; exact mid_eq)
      simp only at c0 c1 c2 c3
      have fz := (unhide HR2).frozen
      have HR3 := hide ((unhide HR2).g2 (sg (q + 1 + (y.1.num.n : Int))) pl)
      have HO3 := hide (AllOwn.resign (sg (q + 1 + (y.1.num.n : Int))) (by have h := unhide HO2; rw [zip_mid2] at h; exact h) (w' := w2.setCell ⟨G, i * 4 + 2, none⟩ (.bool (sg (q + 1 + (y.1.num.n : Int))))) (fun k h1 _ => setCell_other (by omega)))
      have HB3 := hide ((unhide HB2).set (p := ⟨G, i * 4 + 2, none⟩) (Nat.le_refl _) (by show G < hi; omega) (.bool (sg (q + 1 + (y.1.num.n : Int)))))
      go_wp2_with fail
      refine (mark_at ⟨sg (q + 1 + (y.1.num.n : Int)), y.1.den.a, y.1.den.n, y.1.den.c⟩ ⟨sg (q + 1 + (y.1.num.n : Int)), y.2.den.xs⟩ _ (zipPQ b') (q + 1 + (y.1.num.n : Int) + 1) lo hi _ (unhide HO3) m2 (by omega) (by omega)).mono ?_
      rintro e w4 ⟨rfl, hbt, ho4⟩
      have EK : Hid (mkP k (a ++ [y]) ++ b' = mkP k a ++ mkQ q y :: b') := hide (by rw [mkP_snoc, ← unhide EQ, List.append_assoc]; rfl)
      have HR4 : Hid (RowQ w4 G (mkP k (a ++ [y]) ++ b')) := hide (by rw [unhide EK]; exact ((unhide HR3).but hbt (.inl hG)).data)
      have HO4 : Hid (AllOwn lo hi w4 (zipPQ (mkP k (a ++ [y]) ++ b'))) := hide (by rw [unhide EK, zip_mid2]; exact ho4)
      have HB4 := hide ((unhide HB3).trans (hbt.wide (by omega) (Nat.le_refl _)))
      have EQ4 : Hid (nxK q y = enK k (a ++ [y])) := hide (by rw [enK_snoc, ← unhide EQ])
      clear hbt ho4 c0 c1 c2 c3 fz HR2 HO2 HB2 HR3 HO3 HB3
      go_wp2
      go_roundw
      case rel => exact ⟨i + 1, a ++ [y], b', nxK q y, by omega, by go_num, rfl, by unfold nxK; omega, by simp [ha], hide (by rw [unhide EL, List.append_assoc]; rfl), EQ4, HR4, HO4, HB4⟩
      case measure => simp [intOf]; omega
    · obtain rfl : i = n := by omega
      have hb0 : b = [] := by
        have h1 := unhide HN
        rw [unhide EL, List.length_append] at h1
        exact List.length_eq_zero_iff.1 (by omega)
      subst hb0
      have EA : Hid (l = a) := hide (by rw [unhide EL, List.append_nil])
      go_wp2
      go_ret
      refine ⟨by rw [unhide EA, ← unhide EQ]; rfl, unhide HB, ?_, ?_⟩
      · have h := unhide HR
        rw [List.append_nil, ← unhide EA] at h
        exact h
      · have h := unhide HO
        rw [List.append_nil, ← unhide EA] at h
        exact h

theorem mkP_mem {l : List (QV × QD)} {k : Int} {P : QV × QD → Prop} (h : ∀ q y, y ∈ l → P (mkQ q y)) : ∀ p ∈ mkP k l, P p := by
  induction l generalizing k with
  | nil => intro p hp; cases hp
  | cons z l ih =>
    intro p hp
    rcases List.mem_cons.1 hp with rfl | hp
    · exact h k z List.mem_cons_self
    · exact ih (fun q y hy => h q y (List.mem_cons_of_mem _ hy)) p hp
theorem mkP_lenP (l : List (QV × QD)) : ∀ k, lenPQ (mkP k l) = lenPQ l := by
  induction l with
  | nil => intro k; rfl
  | cons z l ih => intro k; show lenQ (mkQ k z) + lenPQ (mkP (nxK k z) l) = lenQ z + lenPQ l; rw [ih]; rfl
set_option maxHeartbeats 4000000 in
theorem heldP (G n c : Nat) (l : List (QV × QD)) (k : Int) (w : World) (hr : RowQ w G (mkP k l)) (hs : AllSl w (zipPQ (mkP k l))) (hn : l.length = n) (ml : ∀ p ∈ l, p.1.num.n ≤ 1048576 ∧ p.1.den.n ≤ 1048576) (k0 : 0 ≤ k) (k1 : k + 2 * (n : Int) + (lenPQ l : Int) ≤ 3900000) :
    Calls Try.prog 40 #[.slice (some ⟨G, 0, none⟩) n c, .int .i64 k] w fun e w' => e = .returned (.int .i64 (enK k l)) ∧ w' = w := by
  have HR := hide hr
  have HS := hide hs
  have HN := hide hn
  have ML := hide ml
  clear hr hs hn ml
  have hn1 : n ≤ 3900000 := by omega
  go_enter Try.func40, Try.ntmps40
  go_wp2
  go_loopw [1, 5] (fun kv iv wr => ∃ (i : Nat) (q : Int), i ≤ n ∧ iv = .int .i64 i ∧ kv = .int .i64 q ∧ 0 ≤ q ∧ Hid (q = enK k (l.take i)) ∧ wr = w) (fun _ iv _ => n - (intOf iv).toNat)
  case atStart => exact ⟨0, k, Nat.zero_le _, rfl, rfl, k0, hide (by simp [enK]), rfl⟩
  case round =>
    obtain ⟨i, q, hi', rfl, rfl, q0, EQ, rfl⟩ := hrel
    by_cases hlt : i < n
    · have hlt' : (i : Int) < (n : Int) := by omega
      have hil : i < l.length := by rw [unhide HN]; exact hlt
      have hget := mkP_get l k i hil
      rw [← unhide EQ] at hget
      have TK : Hid (l.take (i + 1) = l.take i ++ [l[i]]) := hide (take_succQ hil)
      have MY : Hid (l[i] ∈ l) := hide (List.getElem_mem _)
      have EQ2 : Hid (nxK q l[i] = enK k (l.take (i + 1))) := hide (by rw [unhide TK, enK_snoc, ← unhide EQ])
      have LE : Hid (nxK q l[i] ≤ 3900000) := hide (by
        rw [unhide EQ2, enK_eq]
        have h1 : (l.take (i + 1)).length = i + 1 := by rw [List.length_take]; omega
        have h2 : lenPQ l = lenPQ (l.take (i + 1)) + lenPQ (l.drop (i + 1)) := by rw [← lenPQ_append, List.take_append_drop]
        rw [h1]
        omega)
      have hm := List.mem_of_getElem? hget
      have S1 := (unhide HS) ((mkQ q l[i]).1.num, (mkQ q l[i]).2.num) (zipPQ_mem hm (by simp))
      have S2 := (unhide HS) ((mkQ q l[i]).1.den, (mkQ q l[i]).2.den) (zipPQ_mem hm (by simp))
      have m0 := (unhide ML) l[i] (unhide MY)
      obtain ⟨b0, b1, b2, b3⟩ := (unhide HR).cellsAt hget
      obtain ⟨y, hy⟩ : ∃ y, y = l[i] := ⟨_, rfl⟩
      rw [← hy] at b0 b1 b2 b3 S1 S2 m0 EQ2 LE
      clear hy hget hm TK MY hil
      have c0 : wr.cell? ⟨G, i * 4, none⟩ = some (.bool (q % 3 == 0)) := b0
      have c1 : wr.cell? ⟨G, i * 4 + 1, none⟩ = some (.slice y.1.num.a y.1.num.n y.1.num.c) := b1
      have c2 : wr.cell? ⟨G, i * 4 + 2, none⟩ = some (.bool ((q + 1 + (y.1.num.n : Int)) % 3 == 0)) := b2
      have c3 : wr.cell? ⟨G, i * 4 + 3, none⟩ = some (.slice y.1.den.a y.1.den.n y.1.den.c) := b3
      have X1 := hide (show Sl wr y.1.num.a (marks (q + 1) y.1.num.n) from S1.sl)
      have X2 := hide (show Sl wr y.1.den.a (marks (q + 1 + (y.1.num.n : Int) + 1) y.1.den.n) from S2.sl)
      have le : q + 1 + (y.1.num.n : Int) + 1 + (y.1.den.n : Int) ≤ 3900000 := unhide LE
      clear b0 b1 b2 b3 S1 S2 LE
      go_wp2_with fail
      refine (heldI_any _ _ _ (q + 1) _ (unhide X1) m0.1 (by omega) (by omega)).mono ?_
      rintro e w1 ⟨rfl, rfl⟩
      have d1 : ¬ (q + 1 + (y.1.num.n : Int) < 0) := by omega
      go_wp2_with fail
      refine (heldI_any _ _ _ (q + 1 + (y.1.num.n : Int) + 1) _ (unhide X2) m0.2 (by omega) (by omega)).mono ?_
      rintro e w2 ⟨rfl, rfl⟩
      have d2 : ¬ (q + 1 + (y.1.num.n : Int) + 1 + (y.1.den.n : Int) < 0) := by omega
      go_wp2
      go_roundw
      case rel => exact ⟨i + 1, nxK q y, by omega, by go_num, rfl, by unfold nxK; omega, EQ2, trivial⟩
      case measure => simp [intOf]; omega
    · obtain rfl : i = n := by omega
      have EL : Hid (q = enK k l) := hide (by have h := unhide EQ; rw [← unhide HN, List.take_length] at h; exact h)
      go_wp2
      go_ret
      exact ⟨by rw [← unhide EL]; rfl, rfl⟩
theorem markP0 (a : Option Addr) (c : Nat) (k : Int) (w : World) : Calls Try.prog 37 #[.slice a 0 c, .int .i64 k] w fun e w' => e = .returned (.int .i64 k) ∧ w' = w := by
  go_enter Try.func37, Try.ntmps37
  go_wp2
  refine wp_loop_rounds 1 ?_
  rw [rounds_succ]
  go_wp2
  go_ret
  exact ⟨rfl, rfl⟩
theorem heldP0 (a : Option Addr) (c : Nat) (k : Int) (w : World) : Calls Try.prog 40 #[.slice a 0 c, .int .i64 k] w fun e w' => e = .returned (.int .i64 k) ∧ w' = w := by
  go_enter Try.func40, Try.ntmps40
  go_wp2
  refine wp_loop_rounds 1 ?_
  rw [rounds_succ]
  go_wp2
  go_ret
  exact ⟨rfl, rfl⟩

/-- A slice of fractions that is the call's own: its row and its numbers in blocks from B to below E. -/
structure PRo (B E : Nat) (w : World) (a : Option Addr) (n c : Nat) (l : List (QV × QD)) : Prop where
  len : l.length = n
  sz : 2 * n + lenPQ l ≤ 3200000
  ml : ∀ p ∈ l, p.1.num.n ≤ 1048576 ∧ p.1.den.n ≤ 1048576
  row : n = 0 ∨ ∃ G lo hi, a = some ⟨G, 0, none⟩ ∧ B ≤ G ∧ G < lo ∧ lo ≤ hi ∧ hi ≤ E ∧ RowQ w G l ∧ AllOwn lo hi w (zipPQ l)
theorem PRo.later {B E : Nat} {w w' : World} {a : Option Addr} {n c : Nat} {l : List (QV × QD)} (h : PRo B E w a n c l) (hb : Below w.heap.size w w') : PRo B E w' a n c l := by
  refine ⟨h.len, h.sz, h.ml, ?_⟩
  rcases h.row with e | ⟨G, lo, hi, e, h1, h2, h3, h4, h5, h6⟩
  · exact .inl e
  · exact .inr ⟨G, lo, hi, e, h1, h2, h3, h4, h5.later hb, h6.later hb⟩
theorem PRo.but {B E lo' hi' : Nat} {w w' : World} {a : Option Addr} {n c : Nat} {l : List (QV × QD)} (h : PRo B E w a n c l) (hb : But lo' hi' w w') (hd : E ≤ lo' ∨ hi' ≤ B) : PRo B E w' a n c l := by
  refine ⟨h.len, h.sz, h.ml, ?_⟩
  rcases h.row with e | ⟨G, lo, hi, e, h1, h2, h3, h4, h5, h6⟩
  · exact .inl e
  · exact .inr ⟨G, lo, hi, e, h1, h2, h3, h4, h5.but hb (by omega), h6.but hb (by omega)⟩
theorem PRo.wide {B E B' E' : Nat} {w : World} {a : Option Addr} {n c : Nat} {l : List (QV × QD)} (h : PRo B E w a n c l) (h1 : B' ≤ B) (h2 : E ≤ E') : PRo B' E' w a n c l := by
  refine ⟨h.len, h.sz, h.ml, ?_⟩
  rcases h.row with e | ⟨G, lo, hi, e, k1, k2, k3, k4, k5, k6⟩
  · exact .inl e
  · exact .inr ⟨G, lo, hi, e, by omega, k2, k3, by omega, k5, k6⟩
theorem PRo.sl {B E : Nat} {w : World} {a : Option Addr} {n c : Nat} {l : List (QV × QD)} (h : PRo B E w a n c l) : PSlQ w a l := by
  rcases h.row with e | ⟨G, lo, hi, e, h1, h2, h3, h4, h5, h6⟩
  · have hl : l = [] := List.length_eq_zero_iff.1 (by rw [h.len]; exact e)
    subst hl
    exact ⟨.inl rfl, fun p hp => by cases hp⟩
  · subst e
    refine ⟨.inr ⟨G, 0, rfl, h5.lt, fun i hi => ?_⟩, fun p hp x hx => h6.sl x (zipPQ_mem hp hx)⟩
    have hc := h5.cellsAt (List.getElem?_eq_getElem hi)
    simpa using hc
theorem PRo.lens {B E : Nat} {w : World} {a : Option Addr} {n c : Nat} {l : List (QV × QD)} (h : PRo B E w a n c l) : ∀ p ∈ l, p.1.num.n ≤ maxLen ∧ p.1.den.n ≤ maxLen := fun p hp => by
  have := h.ml p hp
  unfold maxLen
  omega
theorem PRo.max {B E : Nat} {w : World} {a : Option Addr} {n c : Nat} {l : List (QV × QD)} (h : PRo B E w a n c l) : n ≤ maxLen := by
  have := h.sz
  unfold maxLen
  omega
theorem mkP_ml {l : List (QV × QD)} (k : Int) (h : ∀ p ∈ l, p.1.num.n ≤ 1048576 ∧ p.1.den.n ≤ 1048576) : ∀ p ∈ mkP k l, p.1.num.n ≤ 1048576 ∧ p.1.den.n ≤ 1048576 := mkP_mem (fun q y hy => h y hy)
theorem markR (B E : Nat) (a : Option Addr) (n c : Nat) (l : List (QV × QD)) (w : World) (h : PRo B E w a n c l) (hE : E ≤ w.heap.size) :
    Calls Try.prog 37 #[.slice a n c, .int .i64 1] w fun e w' => e = .returned (.int .i64 (enK 1 l)) ∧ But B E w w' ∧ PRo B E w' a n c (mkP 1 l) := by
  have hs := h.sz
  rcases h.row with e | ⟨G, lo, hi, e, h1, h2, h3, h4, h5, h6⟩
  · have hl : l = [] := List.length_eq_zero_iff.1 (by rw [h.len]; exact e)
    subst hl e
    refine (markP0 a c 1 w).mono ?_
    rintro e w' ⟨rfl, rfl⟩
    exact ⟨rfl, But.refl _ _ _, ⟨rfl, by simp [mkP, lenPQ], fun p hp => (by cases hp), .inl rfl⟩⟩
  · subst e
    refine (markP G n c l 1 lo hi w h5 h6 h.len h.ml h2 h3 (by omega) (by omega)).mono ?_
    rintro e w' ⟨rfl, hb, hr, ho⟩
    exact ⟨rfl, hb.wide h1 h4, ⟨by rw [mkP_len]; exact h.len, by rw [mkP_lenP]; exact h.sz, mkP_ml 1 h.ml, .inr ⟨G, lo, hi, rfl, h1, h2, h3, h4, hr, ho⟩⟩⟩
theorem heldR (B E : Nat) (a : Option Addr) (n c : Nat) (l : List (QV × QD)) (w : World) (h : PRo B E w a n c (mkP 1 l)) (h0 : 2 * n + lenPQ l ≤ 3200000) (ml : ∀ p ∈ l, p.1.num.n ≤ 1048576 ∧ p.1.den.n ≤ 1048576) :
    Calls Try.prog 40 #[.slice a n c, .int .i64 1] w fun e w' => e = .returned (.int .i64 (enK 1 l)) ∧ w' = w := by
  have hl' : l.length = n := by have := h.len; rw [mkP_len] at this; exact this
  rcases h.row with e | ⟨G, lo, hi, e, h1, h2, h3, h4, h5, h6⟩
  · have hl : l = [] := List.length_eq_zero_iff.1 (by omega)
    subst hl e
    exact heldP0 a c 1 w
  · subst e
    exact heldP G n c l 1 w h5 h6.sl hl' ml (by omega) (by omega)
theorem POwQ.ro {lo hi : Nat} {w : World} {G n c : Nat} {l : List (QV × QD)} (h : POwQ lo hi w G n c l) (hG : G < lo) (hl : lo ≤ hi) (sz : 2 * n + lenPQ l ≤ 3200000) (ml : ∀ p ∈ l, p.1.num.n ≤ 1048576 ∧ p.1.den.n ≤ 1048576) : PRo G hi w (some ⟨G, 0, none⟩) n c l := by
  refine ⟨h.len, sz, ml, .inr ⟨G, lo, hi, rfl, Nat.le_refl _, hG, hl, Nat.le_refl _, ?_, h.own⟩⟩
  obtain ⟨M, hr, hM⟩ := h.row
  rcases hr.2 with ⟨h', _⟩ | ⟨g', cap, cur, hv, _, hg, _, _, _, htake⟩
  · simp at h'
  simp only [Value.slice.injEq, Option.some.injEq, Addr.mk.injEq, and_true, true_and] at hv
  obtain ⟨rfl, rfl⟩ := hv
  refine ⟨cur, hg, fun j p hp => ?_⟩
  have hj : j < l.length := (List.getElem?_eq_some_iff.1 hp).1
  have hc := hM j hj
  have e : l[j] = p := by rw [List.getElem?_eq_getElem hj] at hp; exact Option.some.inj hp
  rw [e] at hc
  have hlen := h.len
  have up : ∀ t v, t < n * 4 → M[t]? = some v → cur[t]? = some v := fun t v ht hv => by
    rw [← htake, List.getElem?_take, if_pos ht] at hv
    simpa using hv
  exact ⟨up _ _ (by omega) hc.1, up _ _ (by omega) hc.2.1, up _ _ (by omega) hc.2.2.1, up _ _ (by omega) hc.2.2.2⟩
/-- The lengths of what is read. -/
def lenD : List QD → Nat
  | [] => 0
  | d :: l => d.num.xs.length + d.den.xs.length + lenD l
theorem lenPQ_data {l : List (QV × QD)} (h : ∀ p ∈ l, p.2.num.xs.length = p.1.num.n ∧ p.2.den.xs.length = p.1.den.n) : lenPQ l = lenD (l.map Prod.snd) := by
  induction l with
  | nil => rfl
  | cons p l ih =>
    have h1 := h p List.mem_cons_self
    have h2 := ih (fun q hq => h q (List.mem_cons_of_mem _ hq))
    show p.1.num.n + p.1.den.n + lenPQ l = p.2.num.xs.length + p.2.den.xs.length + lenD (l.map Prod.snd)
    omega
theorem PSlQ.data {w : World} {a : Option Addr} {l : List (QV × QD)} (h : PSlQ w a l) : ∀ p ∈ l, p.2.num.xs.length = p.1.num.n ∧ p.2.den.xs.length = p.1.den.n := fun p hp => ⟨(h.rd p hp).head.len, (h.rd p hp).tail.head.len⟩
theorem lenPQ_snd {w w' : World} {a a' : Option Addr} {l l' : List (QV × QD)} (h : PSlQ w a l) (h' : PSlQ w' a' l') (e : l.map Prod.snd = l'.map Prod.snd) : lenPQ l = lenPQ l' := by
  rw [lenPQ_data h.data, lenPQ_data h'.data, e]
theorem ml_snd {w w' : World} {a a' : Option Addr} {l l' : List (QV × QD)} (h : PSlQ w a l) (h' : PSlQ w' a' l') (e : l.map Prod.snd = l'.map Prod.snd) (ml : ∀ p ∈ l', p.1.num.n ≤ 1048576 ∧ p.1.den.n ≤ 1048576) : ∀ p ∈ l, p.1.num.n ≤ 1048576 ∧ p.1.den.n ≤ 1048576 := fun p hp => by
  have h1 : p.2 ∈ l'.map Prod.snd := by rw [← e]; exact List.mem_map.2 ⟨p, hp, rfl⟩
  obtain ⟨q, hq, e2⟩ := List.mem_map.1 h1
  have h2 := h.data p hp
  have h3 := h'.data q hq
  have h4 := ml q hq
  rw [e2] at h3
  omega
def RetPr (w : World) (U : List QD → Bool → Prop) (e : Ending) (w' : World) : Prop := ∃ (a : Option Addr) (n c : Nat) (l : List (QV × QD)) (ok : Bool), e = .returned (.tuple #[.slice a n c, .bool ok]) ∧ Below w.heap.size w w' ∧ PSlQ w' a l ∧ l.length = n ∧ U (l.map Prod.snd) ok
def RetPo (w : World) (U : List QD → Bool → Prop) (e : Ending) (w' : World) : Prop := ∃ (a : Option Addr) (n c : Nat) (l : List (QV × QD)) (ok : Bool), e = .returned (.tuple #[.slice a n c, .bool ok]) ∧ Below w.heap.size w w' ∧ PRo w.heap.size w'.heap.size w' a n c l ∧ U (l.map Prod.snd) ok
end Go.Proofs.Ytliaddmkomcmnaa
namespace Go.Proofs.Ytliaddmkomcmnaa
open Go.RowKit
set_option linter.unusedVariables false
set_option maxRecDepth 100000
set_option linter.unusedSimpArgs false

structure TlawEvalP (w wx : World) (v1 : QV) (d1 : QD) : Prop where
  bel : Below w.heap.size w wx
  x1_0 : wx.cell? ⟨w.heap.size, 0, none⟩ = some (.bool v1.num.g)
  x1_1 : wx.cell? ⟨w.heap.size, 1, none⟩ = some (.slice v1.num.a v1.num.n v1.num.c)
  x1_2 : wx.cell? ⟨w.heap.size, 2, none⟩ = some (.bool v1.den.g)
  x1_3 : wx.cell? ⟨w.heap.size, 3, none⟩ = some (.slice v1.den.a v1.den.n v1.den.c)
  s1 : AllSl wx [(v1.num, d1.num), (v1.den, d1.den)]
theorem TlawEvalP.later {w wx wy : World} {v1 : QV} {d1 : QD} (h : TlawEvalP w wx v1 d1) (hb : Below wx.heap.size wx wy) : TlawEvalP w wy v1 d1 :=
  ⟨below_on h.bel hb, cell_later hb h.x1_0, cell_later hb h.x1_1, cell_later hb h.x1_2, cell_later hb h.x1_3, h.s1.later hb⟩
theorem TlawEvalP.but {w wx wy : World} {v1 : QV} {d1 : QD} {lo hi : Nat} (h : TlawEvalP w wx v1 d1) (hb : But lo hi wx wy) (hl : w.heap.size + 1 ≤ lo) (hx1 : AllSl w [(v1.num, d1.num), (v1.den, d1.den)]) : TlawEvalP w wy v1 d1 := by
  have hB := hb.below h.bel (by omega) h.bel.size
  exact ⟨hB, hb.cell h.x1_0 (by omega), hb.cell h.x1_1 (by omega), hb.cell h.x1_2 (by omega), hb.cell h.x1_3 (by omega), hx1.later hB⟩
theorem TlawEvalP.start (w : World) (v1 : QV) (d1 : QD) (t1 : TypeId) (hx1 : AllSl w [(v1.num, d1.num), (v1.den, d1.den)]) : TlawEvalP w (w.alloc (.cells #[.bool v1.num.g, .slice v1.num.a v1.num.n v1.num.c, .bool v1.den.g, .slice v1.den.a v1.den.n v1.den.c] t1)) v1 d1 := by
  have hb : Below w.heap.size w (w.alloc (.cells #[.bool v1.num.g, .slice v1.num.a v1.num.n v1.num.c, .bool v1.den.g, .slice v1.den.a v1.den.n v1.den.c] t1)) := ((Below.refl _ _).alloc (by simp) _)
  exact ⟨hb, by simp [go_sem], by simp [go_sem], by simp [go_sem], by simp [go_sem], hx1.later hb⟩
set_option maxRecDepth 100000 in
set_option maxHeartbeats 16000000 in
theorem lawEvalP_walk (a0 : Option Addr) (n0 c0 : Nat) (l0 : List (QV × QD)) (v1 : QV) (d1 : QD) (w : World) (h0 : PSlQ w a0 l0) (hn0 : l0.length = n0) (hx1 : AllSl w [(v1.num, d1.num), (v1.den, d1.den)]) (hm0 : n0 ≤ maxLen) (ml0 : ∀ p ∈ l0, p.1.num.n ≤ maxLen ∧ p.1.den.n ≤ maxLen) (m1_0 : v1.num.n ≤ maxLen) (m1_1 : v1.den.n ≤ maxLen) :
    Calls Try.prog 6 #[.slice a0 n0 c0, .agg #[.bool v1.num.g, .slice v1.num.a v1.num.n v1.num.c, .bool v1.den.g, .slice v1.den.a v1.den.n v1.den.c]] w fun e w' => e = .returned (.bool true) ∧ Below w.heap.size w w' := by
  obtain ⟨U, HU⟩ : ∃ U : QD → Bool → Prop, Hid (U = AnsQ (gP (l0.map Prod.snd) && gC d1) (hvd (l0.map Prod.snd) d1).1 (hvd (l0.map Prod.snd) d1).2) := ⟨_, hide rfl⟩
  have US : Hid (∀ d ok d' ok', U d ok → U d' ok' → d = d' ∧ ok = ok') := hide (by rw [unhide HU]; exact fun d ok d' ok' h k => h.same k)
  have UL : Hid (∀ d ok, U d ok → d.num.xs.length ≤ 40 ∧ d.den.xs.length ≤ 40) := hide (by rw [unhide HU]; exact fun d ok h => h.lens)
  have CS : Hid (∀ (a : Option Addr) (n c : Nat) (k : List (QV × QD)) (q1 : QV) (w : World), PArQ w a n c k → k.map Prod.snd = l0.map Prod.snd → AllAr w [(q1.num, d1.num), (q1.den, d1.den)] → Calls Try.prog 33 #[.slice a n c, .agg #[.bool q1.num.g, .slice q1.num.a q1.num.n q1.num.c, .bool q1.den.g, .slice q1.den.a q1.den.n q1.den.c]] w (RetQ w U)) := hide (by rw [unhide HU]; exact fun a n c k q1 w h e hq => by have := EvalPS a n c k q1 d1 w h hq; rw [e] at this; exact this)
  have CI : Hid (∀ (a : Option Addr) (n c : Nat) (k : List (QV × QD)) (q1 : QV) (w : World), PArQ w a n c k → k.map Prod.snd = l0.map Prod.snd → AllAr w [(q1.num, d1.num), (q1.den, d1.den)] → Calls Try.prog 35 #[.slice a n c, .agg #[.bool q1.num.g, .slice q1.num.a q1.num.n q1.num.c, .bool q1.den.g, .slice q1.den.a q1.den.n q1.den.c]] w (RetQ w U)) := hide (by rw [unhide HU]; exact fun a n c k q1 w h e hq => by have := EvalPI a n c k q1 d1 w h hq; rw [e] at this; exact this)
  clear HU
  have SZ0 := hide (fun w1 (left : Int) (b0 : 0 ≤ left) (b1 : left ≤ 1048576) (k : PSlQ w1 a0 l0) => szPQ a0 n0 c0 l0 left w1 k hn0 hm0 ml0 b0 b1)
  have HS0 := hide h0
  have HN0 := hide hn0
  have HX1 := hide hx1
  have MM1 := hide (And.intro m1_0 m1_1)
  clear h0 hn0 hm0 ml0 hx1 m1_0 m1_1
  have T := hide (TlawEvalP.start w v1 d1 26 (unhide HX1))
  go_enter Try.func6, Try.ntmps6
  go_wp2_with fail
  refine (unhide SZ0 _ 1048576 (by omega) (by omega) ((unhide HS0).later (unhide T).bel)).mono ?_
  rintro e ws0 ⟨r0, rfl, hb, hr⟩
  have z := hb.size
  replace T := hide ((unhide T).later hb)
  clear hb SZ0
  replace z : w.heap.size + 1 ≤ ws0.heap.size := by simp at z; omega
  by_cases hneg : r0 < 0
  · clear hr
    go_wp2
    go_ret
    exact ⟨rfl, (unhide T).bel⟩
  have e0 : Hid (r0 = 1048576 - (n0 : Int) - (lenPQ l0 : Int)) := hide (by
    rcases hr with e | e
    · exact absurd (show r0 < 0 by omega) hneg
    · exact e.2)
  clear hr
  have b0 : r0 ≤ 1048576 := by have := unhide e0; omega
  have pp0 : 0 ≤ r0 := by omega
  have y0 := (unhide T).x1_0
  have y1 := (unhide T).x1_1
  have y2 := (unhide T).x1_2
  have y3 := (unhide T).x1_3
  by_cases hc1 : r0 < (v1.num.n : Int) + (v1.den.n : Int)
  · go_wp2_with fail
    refine (szQ_out v1 (r0) _ (by omega) (by omega) (unhide MM1).1 (unhide MM1).2 hc1).mono ?_
    rintro e wz ⟨rfl, hb⟩
    replace T := hide ((unhide T).later hb)
    clear hb y0 y1 y2 y3
    go_wp2
    go_ret
    exact ⟨rfl, (unhide T).bel⟩
  have u1 : ¬ (r0 - (v1.num.n : Int) - (v1.den.n : Int) < 0) := by omega
  go_wp2_with fail
  refine (szQ_in v1 (r0) _ (by omega) (by omega) (by omega)).mono ?_
  rintro e wq1 ⟨rfl, hb⟩
  replace z : w.heap.size + 1 ≤ wq1.heap.size := Nat.le_trans z hb.size
  replace T := hide ((unhide T).later hb)
  clear hb y0 y1 y2 y3
  have l1_0 : v1.num.n ≤ 1048576 := by omega
  have l1_1 : v1.den.n ≤ 1048576 := by omega
  have M0 : Hid (∀ p ∈ l0, p.1.num.n ≤ 1048576 ∧ p.1.den.n ≤ 1048576) := hide (fun p hp => by have h1 := lenPQ_mem hp; have h2 : lenQ p = p.1.num.n + p.1.den.n := rfl; have := unhide e0; omega)
  have Z0 : Hid (2 * n0 + lenPQ l0 ≤ 3200000) := hide (by have := unhide e0; omega)
  have TT0 := hide (fun w1 (k : PSlQ w1 a0 l0) => toPQ a0 n0 c0 l0 w1 k (unhide HN0) (by have := unhide e0; omega) (unhide M0))
  go_upto_region 8 with fail
  go_cut [6, 7] (fun p q wx => ∃ (G : Nat) (v : QV) (d : QD) (ok : Bool), p = .pointer (some ⟨G, 0, none⟩) ∧ q = .bool ok ∧ Hid (MetQ wq1 wx G v d) ∧ Hid (U d ok) ∧ Hid (TlawEvalP w wx v1 d1))
  case first =>
    have ka0 := (unhide T).x1_0
    have ka1 := (unhide T).x1_1
    have ka2 := (unhide T).x1_2
    have ka3 := (unhide T).x1_3
    go_region_held3 (fun w' => w'.cell? ⟨w.heap.size, 0, none⟩ = some (.bool v1.num.g) ∧ w'.cell? ⟨w.heap.size, 1, none⟩ = some (.slice v1.num.a v1.num.n v1.num.c) ∧ w'.cell? ⟨w.heap.size, 2, none⟩ = some (.bool v1.den.g) ∧ w'.cell? ⟨w.heap.size, 3, none⟩ = some (.slice v1.den.a v1.den.n v1.den.c)) (with_reducible (first | exact ⟨ka0, ka1, ka2, ka3⟩ | exact ⟨cd_other ka0, cd_other ka1, cd_other ka2, cd_other ka3⟩ | exact ⟨ca_other ka0, ca_other ka1, ca_other ka2, ca_other ka3⟩ | exact ⟨cd_other (ca_other ka0), cd_other (ca_other ka1), cd_other (ca_other ka2), cd_other (ca_other ka3)⟩ | exact ⟨cs_other (cs_other (cs_other (cs_other (ka0) (by omega)) (by omega)) (by omega)) (by omega), cs_other (cs_other (cs_other (cs_other (ka1) (by omega)) (by omega)) (by omega)) (by omega), cs_other (cs_other (cs_other (cs_other (ka2) (by omega)) (by omega)) (by omega)) (by omega), cs_other (cs_other (cs_other (cs_other (ka3) (by omega)) (by omega)) (by omega)) (by omega)⟩ | fail))
      (first
      | (go_at_call 34; refine (unhide TT0 _ ?_).mono ?_; (first | exact ((unhide HS0).later (unhide T).bel).later (Below.refl _ _).drew | exact ((unhide HS0).later (unhide T).bel).later ((Below.refl _ _).alloc (Nat.le_refl _) _).drew); rintro e wa0 ⟨lA, rfl, hb, zA, dA, oA⟩; have hbx : Below wq1.heap.size wq1 wa0 := (by first | exact below_of_drew hb | exact bad hb); have sz0 := hbx.size; replace T := hide ((unhide T).later hbx); replace ka0 := (unhide T).x1_0; replace ka1 := (unhide T).x1_1; replace ka2 := (unhide T).x1_2; replace ka3 := (unhide T).x1_3; (try (replace gf := fun o => frozen_later hbx (World.block_lt_of_cell? _ _ g0) (gf o); replace g0 := cell_later hbx g0; replace g1 := cell_later hbx g1; replace g2 := cell_later hbx g2; replace g3 := cell_later hbx g3)); (try (refine cutP (p := wa0.cell? ⟨wq1.heap.size, 0, none⟩ = some (.bool false) ∧ wa0.cell? ⟨wq1.heap.size, 1, none⟩ = some (.slice none 0 0) ∧ wa0.cell? ⟨wq1.heap.size, 2, none⟩ = some (.bool false) ∧ wa0.cell? ⟨wq1.heap.size, 3, none⟩ = some (.slice none 0 0) ∧ ∀ o, wa0.frozen? ⟨wq1.heap.size, o, none⟩ = false) ?_ (fun dd => ?_); (focus (refine ⟨cell_later hb ?_, cell_later hb ?_, cell_later hb ?_, cell_later hb ?_, fun o => frozen_later hb ?_ ?_⟩ <;> (simp [go_sem]; done))); obtain ⟨g0, g1, g2, g3, gf⟩ := dd)); have zz0 := hb.size; (try simp at zz0); have HBr := hide hbx; have A0 := hide oA; have DA := hide dA; clear hb hbx oA dA zA)
      | (go_at_call_of 13 (Value.agg #[Value.bool v1.num.g, Value.slice v1.num.a v1.num.n v1.num.c, Value.bool v1.den.g, Value.slice v1.den.a v1.den.n v1.den.c]); refine (toQ_at v1 d1 _ ?_ l1_0 l1_1).mono ?_; (first | exact (unhide T).s1 | exact (unhide T).s1.later ((Below.refl _ _).alloc (Nat.le_refl _) _)); rintro e wa1 ⟨qa1, rfl, hb, hna, ow, ar⟩; have hbx : Below wa0.heap.size wa0 wa1 := (by first | exact hb | exact ba hb); have sz1 := hbx.size; replace T := hide ((unhide T).later hbx); replace ka0 := (unhide T).x1_0; replace ka1 := (unhide T).x1_1; replace ka2 := (unhide T).x1_2; replace ka3 := (unhide T).x1_3; replace A0 := hide ((unhide A0).later hbx); (try (replace gf := fun o => frozen_later hbx (World.block_lt_of_cell? _ _ g0) (gf o); replace g0 := cell_later hbx g0; replace g1 := cell_later hbx g1; replace g2 := cell_later hbx g2; replace g3 := cell_later hbx g3)); (try (refine cutP (p := wa1.cell? ⟨wa0.heap.size, 0, none⟩ = some (.bool false) ∧ wa1.cell? ⟨wa0.heap.size, 1, none⟩ = some (.slice none 0 0) ∧ wa1.cell? ⟨wa0.heap.size, 2, none⟩ = some (.bool false) ∧ wa1.cell? ⟨wa0.heap.size, 3, none⟩ = some (.slice none 0 0) ∧ ∀ o, wa1.frozen? ⟨wa0.heap.size, o, none⟩ = false) ?_ (fun dd => ?_); (focus (refine ⟨cell_later hb ?_, cell_later hb ?_, cell_later hb ?_, cell_later hb ?_, fun o => frozen_later hb ?_ ?_⟩ <;> (simp [go_sem]; done))); obtain ⟨g0, g1, g2, g3, gf⟩ := dd)); have zz1 := hb.size; (try simp at zz1); have HBr := hide (below_on (unhide HBr) hbx); have A1 := hide ar; clear hb hbx ow ar hna)
      | (go_at_call 33; refine (unhide CS _ _ _ lA _ _ ?_ (unhide DA) ?_).mono ?_; (first | exact (unhide A0).arg | exact (unhide A0).arg.later ((Below.refl _ _).alloc (Nat.le_refl _) _) | (have hh := (unhide A0).arg; simp at hh; exact hh) | (have hh := (unhide A0).arg; simp at hh; exact hh.later ((Below.refl _ _).alloc (Nat.le_refl _) _))); (first | exact unhide A1 | exact (unhide A1).later ((Below.refl _ _).alloc (Nat.le_refl _) _)); rintro e w5 ⟨vr, dr, okr, rfl, hb, hown, hu⟩; have hbx : Below wa1.heap.size wa1 w5 := (by first | exact hb | exact ba hb); have sz2 := hbx.size; replace T := hide ((unhide T).later hbx); replace ka0 := (unhide T).x1_0; replace ka1 := (unhide T).x1_1; replace ka2 := (unhide T).x1_2; replace ka3 := (unhide T).x1_3; replace A0 := hide ((unhide A0).later hbx); replace A1 := hide ((unhide A1).later hbx); (try (replace gf := fun o => frozen_later hbx (World.block_lt_of_cell? _ _ g0) (gf o); replace g0 := cell_later hbx g0; replace g1 := cell_later hbx g1; replace g2 := cell_later hbx g2; replace g3 := cell_later hbx g3)); (try (refine cutP (p := w5.cell? ⟨wa1.heap.size, 0, none⟩ = some (.bool false) ∧ w5.cell? ⟨wa1.heap.size, 1, none⟩ = some (.slice none 0 0) ∧ w5.cell? ⟨wa1.heap.size, 2, none⟩ = some (.bool false) ∧ w5.cell? ⟨wa1.heap.size, 3, none⟩ = some (.slice none 0 0) ∧ ∀ o, w5.frozen? ⟨wa1.heap.size, o, none⟩ = false) ?_ (fun dd => ?_); (focus (refine ⟨cell_later hb ?_, cell_later hb ?_, cell_later hb ?_, cell_later hb ?_, fun o => frozen_later hb ?_ ?_⟩ <;> (simp [go_sem]; done))); obtain ⟨g0, g1, g2, g3, gf⟩ := dd)); have zz2 := hb.size; (try simp at zz2); have HBr := hide (below_on (unhide HBr) hbx); have O5 := hide hown; have U5 := hide hu; clear hb hbx hown hu))
    all_goals go_wp2_with fail
    all_goals go_meet
    all_goals first
      | (with_reducible refine ⟨_, vr, dr, okr, rfl, rfl, hide (metQ_alloc 33 (unhide HBr) (unhide O5) ?_), U5, hide ((unhide T).later ((Below.refl _ _).alloc (Nat.le_refl _) _))⟩; omega)
      | (with_reducible refine ⟨_, vr, dr, okr, rfl, rfl, hide (metQ_set (unhide HBr) (unhide O5) ?_ ?_ g0 g1 g2 g3), U5, hide ((unhide T).but metQ_but ?_ (unhide HX1))⟩ <;> first | omega | (simp; done) | (simp; omega))
  case rest =>
    obtain ⟨G0, vr, dr, okr, rfl, rfl, HM, UR, T3⟩ := hcut
    clear T
    have T := T3
    clear T3
    have V0 := hide (unhide HM).var
    have zG1 : w.heap.size + 1 ≤ G0 := Nat.le_trans z (unhide HM).lo
    have zG2 : G0 < wc.heap.size := (unhide HM).hi
    have zG3 : wq1.heap.size ≤ wc.heap.size := (unhide HM).bel.size
    clear HM
    have r_0 : vr.num.n ≤ 40 := by rw [← ((unhide V0).own.own (vr.num, dr.num) (by simp)).len]; exact (unhide UL _ _ (unhide UR)).1
    have rm0 : vr.num.n ≤ maxLen := by unfold maxLen; omega
    have rl0 : vr.num.n ≤ 1048576 := by omega
    have r_1 : vr.den.n ≤ 40 := by rw [← ((unhide V0).own.own (vr.den, dr.den) (by simp)).len]; exact (unhide UL _ _ (unhide UR)).2
    have rm1 : vr.den.n ≤ maxLen := by unfold maxLen; omega
    have rl1 : vr.den.n ≤ 1048576 := by omega
    go_wp2_with fail
    refine (unhide TT0 _ ((unhide HS0).later (unhide T).bel)).mono ?_
    rintro e wx ⟨lx, rfl, hb, zx, dx, ox⟩
    have szx := hb.size
    replace T := hide ((unhide T).later hb)
    replace V0 := hide ((unhide V0).later hb)
    have Dx := hide dx
    have Ox := hide ox
    clear hb dx ox
    have p0 := (unhide T).x1_0
    have p1 := (unhide T).x1_1
    have p2 := (unhide T).x1_2
    have p3 := (unhide T).x1_3
    go_wp2_with fail
    refine (toQ_at v1 d1 _ (unhide T).s1 l1_0 l1_1).mono ?_
    rintro e wx1 ⟨y1, rfl, hb, hnn, ow, ar⟩
    have hn1 := hide hnn
    have VX1 := hide (VarQ.start 33 ow)
    have AX1 := hide (ar.later ((Below.refl _ _).alloc (Nat.le_refl _) (.cells #[.bool y1.num.g, .slice y1.num.a y1.num.n y1.num.c, .bool y1.den.g, .slice y1.den.a y1.den.n y1.den.c] 33)))
    have s1 : wx.heap.size ≤ wx1.heap.size := by have := hb.size; exact this
    replace T := hide (((unhide T).later hb).later ((Below.refl _ _).alloc (Nat.le_refl _) (.cells #[.bool y1.num.g, .slice y1.num.a y1.num.n y1.num.c, .bool y1.den.g, .slice y1.den.a y1.den.n y1.den.c] 33)))
    replace V0 := hide (((unhide V0).later hb).later ((Below.refl _ _).alloc (Nat.le_refl _) (.cells #[.bool y1.num.g, .slice y1.num.a y1.num.n y1.num.c, .bool y1.den.g, .slice y1.den.a y1.den.n y1.den.c] 33)))
    replace Ox := hide (((unhide Ox).later hb).later ((Below.refl _ _).alloc (Nat.le_refl _) (.cells #[.bool y1.num.g, .slice y1.num.a y1.num.n y1.num.c, .bool y1.den.g, .slice y1.den.a y1.den.n y1.den.c] 33)))
    clear hb hnn ow ar p0 p1 p2 p3
    go_wp2_with fail
    refine (unhide CI _ _ _ lx y1 _ (unhide Ox).arg (unhide Dx) (unhide AX1)).mono ?_
    rintro e w5 ⟨vg, dg, okg, rfl, hb, hown, hu⟩
    obtain ⟨e1, e2⟩ := unhide US _ _ _ _ (unhide UR) hu
    subst e1 e2
    have VG := hide (VarQ.start 33 (hown.wide (lo' := wx1.heap.size + 1) (by simp) (Nat.le_refl _)))
    have sg : wx1.heap.size + 1 ≤ w5.heap.size := by have := hb.size; simp at this; omega
    have en0 : vg.num.n = vr.num.n := by rw [← ((unhide VG).own.own (vg.num, dr.num) (by simp)).len, ← ((unhide V0).own.own (vr.num, dr.num) (by simp)).len]
    have q0 : vg.num.n ≤ 40 := by omega
    have qm0 : vg.num.n ≤ maxLen := by omega
    have ql0 : vg.num.n ≤ 1048576 := by omega
    have en1 : vg.den.n = vr.den.n := by rw [← ((unhide VG).own.own (vg.den, dr.den) (by simp)).len, ← ((unhide V0).own.own (vr.den, dr.den) (by simp)).len]
    have q1 : vg.den.n ≤ 40 := by omega
    have qm1 : vg.den.n ≤ maxLen := by omega
    have ql1 : vg.den.n ≤ 1048576 := by omega
    clear AX1
    replace T := hide ((unhide T).later hb)
    replace V0 := hide ((unhide V0).later hb)
    replace Ox := hide ((unhide Ox).later hb)
    replace VX1 := hide ((unhide VX1).later hb)
    clear hb hown hu
    replace T := hide ((unhide T).later ((Below.refl _ _).alloc (Nat.le_refl _) (.cells #[.bool vg.num.g, .slice vg.num.a vg.num.n vg.num.c, .bool vg.den.g, .slice vg.den.a vg.den.n vg.den.c] 33)))
    replace V0 := hide ((unhide V0).later ((Below.refl _ _).alloc (Nat.le_refl _) (.cells #[.bool vg.num.g, .slice vg.num.a vg.num.n vg.num.c, .bool vg.den.g, .slice vg.den.a vg.den.n vg.den.c] 33)))
    replace Ox := hide ((unhide Ox).later ((Below.refl _ _).alloc (Nat.le_refl _) (.cells #[.bool vg.num.g, .slice vg.num.a vg.num.n vg.num.c, .bool vg.den.g, .slice vg.den.a vg.den.n vg.den.c] 33)))
    replace VX1 := hide ((unhide VX1).later ((Below.refl _ _).alloc (Nat.le_refl _) (.cells #[.bool vg.num.g, .slice vg.num.a vg.num.n vg.num.c, .bool vg.den.g, .slice vg.den.a vg.den.n vg.den.c] 33)))
    have enh0 := hide en0
    clear en0
    have enh1 := hide en1
    clear en1
    have PX : Hid (PRo (wc.heap.size) wx.heap.size (w5.alloc (.cells #[.bool vg.num.g, .slice vg.num.a vg.num.n vg.num.c, .bool vg.den.g, .slice vg.den.a vg.den.n vg.den.c] 33)) (some ⟨wc.heap.size, 0, none⟩) n0 n0 lx) := hide ((unhide Ox).ro (Nat.lt_succ_self _) (by omega) (by rw [lenPQ_snd (unhide Ox).arg.sl (unhide HS0) (unhide Dx)]; exact unhide Z0) (ml_snd (unhide Ox).arg.sl (unhide HS0) (unhide Dx) (unhide M0)))
    have KL : Hid (lenPQ lx = lenPQ l0 ∧ lx.length = n0) := hide ⟨lenPQ_snd (unhide Ox).arg.sl (unhide HS0) (unhide Dx), (unhide Ox).len⟩
    clear Ox
    have p0 := (unhide V0).c0
    have p1 := (unhide V0).c1
    have p2 := (unhide V0).c2
    have p3 := (unhide V0).c3
    have okk : (okr == okr) = true := by simp
    go_wp2_with fail
    refine (eqQ_at vg vr dr _ (unhide VG).own.sl (unhide V0).own.sl qm0 qm1).mono ?_
    rintro e w6 ⟨rfl, hb⟩
    have sz6 := hb.size
    clear p0 p1 p2 p3
    replace T := hide ((unhide T).later hb)
    replace V0 := hide ((unhide V0).later hb)
    replace VX1 := hide ((unhide VX1).later hb)
    replace VG := hide ((unhide VG).later hb)
    replace PX := hide ((unhide PX).later hb)
    clear hb
    go_wp2_with fail
    refine (unhide TT0 _ ((unhide HS0).later (unhide T).bel)).mono ?_
    rintro e wy ⟨ly, rfl, hb, zy, dy, oy⟩
    have szy := hb.size
    replace T := hide ((unhide T).later hb)
    replace V0 := hide ((unhide V0).later hb)
    replace VX1 := hide ((unhide VX1).later hb)
    replace VG := hide ((unhide VG).later hb)
    replace PX := hide ((unhide PX).later hb)
    have Dy := hide dy
    have Oy := hide oy
    clear hb dy oy
    go_wp2_with fail
    refine (eqPQ _ _ n0 _ _ lx ly _ (unhide PX).sl (unhide Oy).arg.sl (unhide PX).len ((unhide Dx).trans (unhide Dy).symm) (unhide PX).max (unhide PX).lens).mono ?_
    rintro e wy1 ⟨rfl, hb⟩
    have szy1 := hb.size
    replace T := hide ((unhide T).later hb)
    replace V0 := hide ((unhide V0).later hb)
    replace VX1 := hide ((unhide VX1).later hb)
    replace VG := hide ((unhide VG).later hb)
    replace PX := hide ((unhide PX).later hb)
    clear hb Oy Dy zy
    have WW : w5.heap.size + 1 ≤ wy1.heap.size := by simp at sz6; omega
    clear sz6 szy szy1
    generalize wx1.heap.size = GX1 at *
    generalize w5.heap.size = GG at *
    generalize wx.heap.size = GX0 at *
    generalize wc.heap.size = GC at *
    go_wp2_with fail
    have ka0 := (unhide T).x1_0
    have kx0 := (unhide VX1).c0
    have ka1 := (unhide T).x1_1
    have kx1 := (unhide VX1).c1
    have ka2 := (unhide T).x1_2
    have kx2 := (unhide VX1).c2
    have ka3 := (unhide T).x1_3
    have kx3 := (unhide VX1).c3
    go_region_held3 (fun w' => w'.cell? ⟨w.heap.size, 0, none⟩ = some (.bool v1.num.g) ∧ w'.cell? ⟨w.heap.size, 1, none⟩ = some (.slice v1.num.a v1.num.n v1.num.c) ∧ w'.cell? ⟨w.heap.size, 2, none⟩ = some (.bool v1.den.g) ∧ w'.cell? ⟨w.heap.size, 3, none⟩ = some (.slice v1.den.a v1.den.n v1.den.c) ∧ w'.cell? ⟨GX1, 0, none⟩ = some (.bool y1.num.g) ∧ w'.cell? ⟨GX1, 1, none⟩ = some (.slice y1.num.a y1.num.n y1.num.c) ∧ w'.cell? ⟨GX1, 2, none⟩ = some (.bool y1.den.g) ∧ w'.cell? ⟨GX1, 3, none⟩ = some (.slice y1.den.a y1.den.n y1.den.c)) (with_reducible (first | exact ⟨ka0, ka1, ka2, ka3, kx0, kx1, kx2, kx3⟩ | exact ⟨cd_other ka0, cd_other ka1, cd_other ka2, cd_other ka3, cd_other kx0, cd_other kx1, cd_other kx2, cd_other kx3⟩ | fail))
      (first
      | (go_at_call 13; refine (toQ_at v1 d1 _ ?_ l1_0 l1_1).mono ?_; exact (unhide T).s1.later (Below.refl _ _).drew; rintro e w71 ⟨u7, rfl, hb', hn7, ow7, ar7⟩; have hb := below_of_drew hb'; replace T := hide ((unhide T).later hb); replace V0 := hide ((unhide V0).later hb); replace VX1 := hide ((unhide VX1).later hb); replace VG := hide ((unhide VG).later hb); replace PX := hide ((unhide PX).later hb); have Wa1 := hb.size; replace ka0 := (unhide T).x1_0; replace kx0 := (unhide VX1).c0; replace ka1 := (unhide T).x1_1; replace kx1 := (unhide VX1).c1; replace ka2 := (unhide T).x1_2; replace kx2 := (unhide VX1).c2; replace ka3 := (unhide T).x1_3; replace kx3 := (unhide VX1).c3; have S7 := hide ow7.sl; clear hb hb' ow7 ar7 hn7)
      | (go_at_call 16; refine (eqQ_at y1 u7 d1 _ (unhide VX1).own.sl (unhide S7) (by rw [(unhide hn1).1]; exact (unhide MM1).1) (by rw [(unhide hn1).2]; exact (unhide MM1).2)).mono ?_; rintro e w81 ⟨rfl, hb⟩; replace T := hide ((unhide T).later hb); replace V0 := hide ((unhide V0).later hb); replace VX1 := hide ((unhide VX1).later hb); replace VG := hide ((unhide VG).later hb); replace PX := hide ((unhide PX).later hb); have Wb1 := hb.size; replace ka0 := (unhide T).x1_0; replace kx0 := (unhide VX1).c0; replace ka1 := (unhide T).x1_1; replace kx1 := (unhide VX1).c1; replace ka2 := (unhide T).x1_2; replace kx2 := (unhide VX1).c2; replace ka3 := (unhide T).x1_3; replace kx3 := (unhide VX1).c3; clear hb))
    clear S7 ka0 kx0 ka1 kx1 ka2 kx2 ka3 kx3
    replace WW : GG + 1 ≤ w81.heap.size := by omega
    clear Wa1 Wb1
    go_wp2_with fail
    refine (markR _ _ _ n0 n0 lx _ (unhide PX) (by omega)).mono ?_
    rintro e wm0 ⟨rfl, hbt, _⟩
    have kb : 0 ≤ enK 1 lx ∧ enK 1 lx = 1 + 2 * (n0 : Int) + (lenPQ l0 : Int) := by rw [enK_eq, (unhide KL).1, (unhide KL).2]; omega
    have kb2 : enK 1 lx + (v1.num.n : Int) + (v1.den.n : Int) ≤ 2200000 := by have := unhide e0; omega
    generalize enK 1 lx = kk at *
    replace T := hide ((unhide T).but hbt (by omega) (unhide HX1))
    replace V0 := hide ((unhide V0).but hbt (by omega) (by omega))
    replace VX1 := hide ((unhide VX1).but hbt (by omega) (by omega))
    replace VG := hide ((unhide VG).but hbt (by omega) (by omega))
    replace WW : GG + 1 ≤ wm0.heap.size := Nat.le_trans WW hbt.size
    clear hbt PX KL
    have kb0 := hide kb.2
    replace kb := kb.1
    have p0 := (unhide VX1).c0
    have p1 := (unhide VX1).c1
    have p2 := (unhide VX1).c2
    have p3 := (unhide VX1).c3
    have hl0 : y1.num.n ≤ 1048576 := by rw [(unhide hn1).1]; exact l1_0
    have hl1 : y1.den.n ≤ 1048576 := by rw [(unhide hn1).2]; exact l1_1
    have kn1 : (y1.num.n : Int) = (v1.num.n : Int) ∧ (y1.den.n : Int) = (v1.den.n : Int) := by rw [(unhide hn1).1, (unhide hn1).2]; exact ⟨rfl, rfl⟩
    have KN1 := hide kn1
    clear kn1
    go_wp2_with fail
    refine (markQ_at y1 d1 [] [] _ (GX0) GX1 _ (unhide VX1).own hl0 hl1 (by have := (unhide VX1).gt; omega) (by omega) (by have := unhide KN1; omega)).mono ?_
    rintro e wm1 ⟨rfl, hbt, hmk⟩
    replace T := hide ((unhide T).but hbt (by omega) (unhide HX1))
    replace V0 := hide ((unhide V0).but hbt (by omega) (by omega))
    replace VG := hide ((unhide VG).but hbt (by omega) (by omega))
    replace WW : GG + 1 ≤ wm1.heap.size := Nat.le_trans WW hbt.size
    clear VX1 p0 p1 p2 p3 hbt hmk hl0 hl1
    have hk0 : decide (kk + (y1.num.n : Int) + (y1.den.n : Int) < 0) = false := decide_eq_false (by omega)
    have p0 := (unhide VG).c0
    have pq0 := (unhide V0).c0
    have p1 := (unhide VG).c1
    have pq1 := (unhide V0).c1
    have p2 := (unhide VG).c2
    have pq2 := (unhide V0).c2
    have p3 := (unhide VG).c3
    have pq3 := (unhide V0).c3
    go_wp2_with fail
    refine (eqQ_at vg vr dr _ (unhide VG).own.sl (unhide V0).own.sl qm0 qm1).mono ?_
    rintro e w20 ⟨rfl, hb⟩
    clear p0 pq0 p1 pq1 p2 pq2 p3 pq3 hk0
    replace WW : GG + 1 ≤ w20.heap.size := Nat.le_trans WW hb.size
    replace T := hide ((unhide T).later hb)
    replace V0 := hide ((unhide V0).later hb)
    replace VG := hide ((unhide VG).later hb)
    clear hb
    have p0 := (unhide VG).c0
    have p1 := (unhide VG).c1
    have p2 := (unhide VG).c2
    have p3 := (unhide VG).c3
    go_wp2_with fail
    refine (markQ_at vg dr [] [] 1 (GX1 + 1) GG _ (unhide VG).own ql0 ql1 (by have := (unhide VG).gt; omega) (by omega) (by omega)).mono ?_
    rintro e w21 ⟨rfl, hbt, hmk⟩
    replace T := hide ((unhide T).but hbt (by omega) (unhide HX1))
    replace V0 := hide ((unhide V0).but hbt (by omega) (by omega))
    replace VG := hide ((unhide VG).mark (d' := ⟨⟨dr.num.g, marks 1 vg.num.n⟩, ⟨dr.den.g, marks (1 + vg.num.n) vg.den.n⟩⟩) hbt (by omega) hmk)
    clear p0 p1 p2 p3 hbt hmk
    have p0 := (unhide VG).c0
    have p1 := (unhide VG).c1
    have p2 := (unhide VG).c2
    have p3 := (unhide VG).c3
    go_wp2_with fail
    refine (heldQ_at vg 1 _ ((unhide VG).own.sl (vg.num, ⟨dr.num.g, marks 1 vg.num.n⟩) (by simp)).sl ((unhide VG).own.sl (vg.den, ⟨dr.den.g, marks (1 + vg.num.n) vg.den.n⟩) (by simp)).sl ql0 ql1 (by omega) (by omega)).mono ?_
    rintro e wk ⟨rfl, hb⟩
    replace T := hide ((unhide T).later hb)
    replace V0 := hide ((unhide V0).later hb)
    replace VG := hide ((unhide VG).later hb)
    have hr0 : ¬ ((1 : Int) + (vg.num.n : Int) + (vg.den.n : Int) < 0) := by omega
    have zk : w.heap.size + 1 ≤ wk.heap.size := by have h1 := (unhide VG).gt; omega
    clear p0 p1 p2 p3 hb
    go_upto_region 31 with fail
    go_cut [15, 16] (fun p q wx => ∃ (G : Nat) (v : QV) (d : QD) (ok : Bool), p = .pointer (some ⟨G, 0, none⟩) ∧ q = .bool ok ∧ Hid (MetQ wk wx G v d) ∧ Hid (U d ok) ∧ Hid (TlawEvalP w wx v1 d1))
    case first =>
      have ka0 := (unhide T).x1_0
      have ka1 := (unhide T).x1_1
      have ka2 := (unhide T).x1_2
      have ka3 := (unhide T).x1_3
      go_region_held3 (fun w' => w'.cell? ⟨w.heap.size, 0, none⟩ = some (.bool v1.num.g) ∧ w'.cell? ⟨w.heap.size, 1, none⟩ = some (.slice v1.num.a v1.num.n v1.num.c) ∧ w'.cell? ⟨w.heap.size, 2, none⟩ = some (.bool v1.den.g) ∧ w'.cell? ⟨w.heap.size, 3, none⟩ = some (.slice v1.den.a v1.den.n v1.den.c)) (with_reducible (first | exact ⟨ka0, ka1, ka2, ka3⟩ | exact ⟨cd_other ka0, cd_other ka1, cd_other ka2, cd_other ka3⟩ | exact ⟨ca_other ka0, ca_other ka1, ca_other ka2, ca_other ka3⟩ | exact ⟨cd_other (ca_other ka0), cd_other (ca_other ka1), cd_other (ca_other ka2), cd_other (ca_other ka3)⟩ | exact ⟨cs_other (cs_other (cs_other (cs_other (ka0) (by omega)) (by omega)) (by omega)) (by omega), cs_other (cs_other (cs_other (cs_other (ka1) (by omega)) (by omega)) (by omega)) (by omega), cs_other (cs_other (cs_other (cs_other (ka2) (by omega)) (by omega)) (by omega)) (by omega), cs_other (cs_other (cs_other (cs_other (ka3) (by omega)) (by omega)) (by omega)) (by omega)⟩ | fail))
        (first
        | (go_at_call 34; refine (unhide TT0 _ ?_).mono ?_; (first | exact ((unhide HS0).later (unhide T).bel).later (Below.refl _ _).drew | exact ((unhide HS0).later (unhide T).bel).later ((Below.refl _ _).alloc (Nat.le_refl _) _).drew); rintro e wa0 ⟨lA, rfl, hb, zA, dA, oA⟩; have hbx : Below wk.heap.size wk wa0 := (by first | exact below_of_drew hb | exact bad hb); have sz0 := hbx.size; replace T := hide ((unhide T).later hbx); replace ka0 := (unhide T).x1_0; replace ka1 := (unhide T).x1_1; replace ka2 := (unhide T).x1_2; replace ka3 := (unhide T).x1_3; (try (replace gf := fun o => frozen_later hbx (World.block_lt_of_cell? _ _ g0) (gf o); replace g0 := cell_later hbx g0; replace g1 := cell_later hbx g1; replace g2 := cell_later hbx g2; replace g3 := cell_later hbx g3)); (try (refine cutP (p := wa0.cell? ⟨wk.heap.size, 0, none⟩ = some (.bool false) ∧ wa0.cell? ⟨wk.heap.size, 1, none⟩ = some (.slice none 0 0) ∧ wa0.cell? ⟨wk.heap.size, 2, none⟩ = some (.bool false) ∧ wa0.cell? ⟨wk.heap.size, 3, none⟩ = some (.slice none 0 0) ∧ ∀ o, wa0.frozen? ⟨wk.heap.size, o, none⟩ = false) ?_ (fun dd => ?_); (focus (refine ⟨cell_later hb ?_, cell_later hb ?_, cell_later hb ?_, cell_later hb ?_, fun o => frozen_later hb ?_ ?_⟩ <;> (simp [go_sem]; done))); obtain ⟨g0, g1, g2, g3, gf⟩ := dd)); have zz0 := hb.size; (try simp at zz0); have HBr := hide hbx; have A0 := hide oA; have DA := hide dA; clear hb hbx oA dA zA)
        | (go_at_call_of 13 (Value.agg #[Value.bool v1.num.g, Value.slice v1.num.a v1.num.n v1.num.c, Value.bool v1.den.g, Value.slice v1.den.a v1.den.n v1.den.c]); refine (toQ_at v1 d1 _ ?_ l1_0 l1_1).mono ?_; (first | exact (unhide T).s1 | exact (unhide T).s1.later ((Below.refl _ _).alloc (Nat.le_refl _) _)); rintro e wa1 ⟨qa1, rfl, hb, hna, ow, ar⟩; have hbx : Below wa0.heap.size wa0 wa1 := (by first | exact hb | exact ba hb); have sz1 := hbx.size; replace T := hide ((unhide T).later hbx); replace ka0 := (unhide T).x1_0; replace ka1 := (unhide T).x1_1; replace ka2 := (unhide T).x1_2; replace ka3 := (unhide T).x1_3; replace A0 := hide ((unhide A0).later hbx); (try (replace gf := fun o => frozen_later hbx (World.block_lt_of_cell? _ _ g0) (gf o); replace g0 := cell_later hbx g0; replace g1 := cell_later hbx g1; replace g2 := cell_later hbx g2; replace g3 := cell_later hbx g3)); (try (refine cutP (p := wa1.cell? ⟨wa0.heap.size, 0, none⟩ = some (.bool false) ∧ wa1.cell? ⟨wa0.heap.size, 1, none⟩ = some (.slice none 0 0) ∧ wa1.cell? ⟨wa0.heap.size, 2, none⟩ = some (.bool false) ∧ wa1.cell? ⟨wa0.heap.size, 3, none⟩ = some (.slice none 0 0) ∧ ∀ o, wa1.frozen? ⟨wa0.heap.size, o, none⟩ = false) ?_ (fun dd => ?_); (focus (refine ⟨cell_later hb ?_, cell_later hb ?_, cell_later hb ?_, cell_later hb ?_, fun o => frozen_later hb ?_ ?_⟩ <;> (simp [go_sem]; done))); obtain ⟨g0, g1, g2, g3, gf⟩ := dd)); have zz1 := hb.size; (try simp at zz1); have HBr := hide (below_on (unhide HBr) hbx); have A1 := hide ar; clear hb hbx ow ar hna)
        | (go_at_call 35; refine (unhide CI _ _ _ lA _ _ ?_ (unhide DA) ?_).mono ?_; (first | exact (unhide A0).arg | exact (unhide A0).arg.later ((Below.refl _ _).alloc (Nat.le_refl _) _) | (have hh := (unhide A0).arg; simp at hh; exact hh) | (have hh := (unhide A0).arg; simp at hh; exact hh.later ((Below.refl _ _).alloc (Nat.le_refl _) _))); (first | exact unhide A1 | exact (unhide A1).later ((Below.refl _ _).alloc (Nat.le_refl _) _)); rintro e w5 ⟨vr, dr, okr, rfl, hb, hown, hu⟩; have hbx : Below wa1.heap.size wa1 w5 := (by first | exact hb | exact ba hb); have sz2 := hbx.size; replace T := hide ((unhide T).later hbx); replace ka0 := (unhide T).x1_0; replace ka1 := (unhide T).x1_1; replace ka2 := (unhide T).x1_2; replace ka3 := (unhide T).x1_3; replace A0 := hide ((unhide A0).later hbx); replace A1 := hide ((unhide A1).later hbx); (try (replace gf := fun o => frozen_later hbx (World.block_lt_of_cell? _ _ g0) (gf o); replace g0 := cell_later hbx g0; replace g1 := cell_later hbx g1; replace g2 := cell_later hbx g2; replace g3 := cell_later hbx g3)); (try (refine cutP (p := w5.cell? ⟨wa1.heap.size, 0, none⟩ = some (.bool false) ∧ w5.cell? ⟨wa1.heap.size, 1, none⟩ = some (.slice none 0 0) ∧ w5.cell? ⟨wa1.heap.size, 2, none⟩ = some (.bool false) ∧ w5.cell? ⟨wa1.heap.size, 3, none⟩ = some (.slice none 0 0) ∧ ∀ o, w5.frozen? ⟨wa1.heap.size, o, none⟩ = false) ?_ (fun dd => ?_); (focus (refine ⟨cell_later hb ?_, cell_later hb ?_, cell_later hb ?_, cell_later hb ?_, fun o => frozen_later hb ?_ ?_⟩ <;> (simp [go_sem]; done))); obtain ⟨g0, g1, g2, g3, gf⟩ := dd)); have zz2 := hb.size; (try simp at zz2); have HBr := hide (below_on (unhide HBr) hbx); have O5 := hide hown; have U5 := hide hu; clear hb hbx hown hu))
      all_goals go_wp2_with fail
      all_goals go_meet
      all_goals first
        | (with_reducible refine ⟨_, vr, dr, okr, rfl, rfl, hide (metQ_alloc 33 (unhide HBr) (unhide O5) ?_), U5, hide ((unhide T).later ((Below.refl _ _).alloc (Nat.le_refl _) _))⟩; omega)
        | (with_reducible refine ⟨_, vr, dr, okr, rfl, rfl, hide (metQ_set (unhide HBr) (unhide O5) ?_ ?_ g0 g1 g2 g3), U5, hide ((unhide T).but metQ_but ?_ (unhide HX1))⟩ <;> first | omega | (simp; done) | (simp; omega))
    case rest =>
      obtain ⟨GH, vh, dh, okh, rfl, rfl, HM, UH, T9⟩ := hcut
      obtain ⟨e1, e2⟩ := unhide US _ _ _ _ (unhide UR) (unhide UH)
      subst e1 e2
      have VH := hide (unhide HM).var
      replace V0 := hide ((unhide V0).later (unhide HM).bel)
      replace VG := hide ((unhide VG).later (unhide HM).bel)
      clear HM
      clear T
      have T := T9
      clear T9
      have hm0 : vh.num.n ≤ maxLen := by rw [← ((unhide VH).own.own (vh.num, dr.num) (by simp)).len, ((unhide V0).own.own (vr.num, dr.num) (by simp)).len]; exact rm0
      have hm1 : vh.den.n ≤ maxLen := by rw [← ((unhide VH).own.own (vh.den, dr.den) (by simp)).len, ((unhide V0).own.own (vr.den, dr.den) (by simp)).len]; exact rm1
      have p0 := (unhide VH).c0
      have pq0 := (unhide V0).c0
      have p1 := (unhide VH).c1
      have pq1 := (unhide V0).c1
      have p2 := (unhide VH).c2
      have pq2 := (unhide V0).c2
      have p3 := (unhide VH).c3
      have pq3 := (unhide V0).c3
      go_wp2_with fail
      refine (eqQ_at vh vr dr _ (unhide VH).own.sl (unhide V0).own.sl hm0 hm1).mono ?_
      rintro e w30 ⟨rfl, hb⟩
      clear p0 pq0 p1 pq1 p2 pq2 p3 pq3
      replace T := hide ((unhide T).later hb)
      replace VG := hide ((unhide VG).later hb)
      clear hb VH V0
      have p0 := (unhide VG).c0
      have p1 := (unhide VG).c1
      have p2 := (unhide VG).c2
      have p3 := (unhide VG).c3
      go_wp2_with fail
      refine (heldQ_at vg 1 _ ((unhide VG).own.sl (vg.num, ⟨dr.num.g, marks 1 vg.num.n⟩) (by simp)).sl ((unhide VG).own.sl (vg.den, ⟨dr.den.g, marks (1 + vg.num.n) vg.den.n⟩) (by simp)).sl ql0 ql1 (by omega) (by omega)).mono ?_
      rintro e w31 ⟨rfl, hb⟩
      replace T := hide ((unhide T).later hb)
      clear p0 p1 p2 p3 hb
      go_wp2
      go_ret
      exact ⟨rfl, (unhide T).bel⟩
end Go.Proofs.Ytliaddmkomcmnaa
namespace Go.Proofs.Ytliaddmkomcmnaa
open Go.ChangeShapes Go.WideShapes Go.ChangeAt Go.RowKit Go.Joins
set_option linter.unusedVariables false
set_option maxRecDepth 100000
set_option linter.unusedSimpArgs false

theorem open_ratc {H : Type} {enc : TypeId × Value → H} {W : World} {m : Nat} {c0 c1 c2 c3 : Value} {x : DataW H × List MemPlace}
    (hf : DataW.trod enc Try.prog W 0 (fun _ => true) true m 26 [c0, c1, c2, c3] = some x) :
    ∃ p : QV × QD, (c0 = .bool p.1.num.g ∧ c1 = .slice p.1.num.a p.1.num.n p.1.num.c ∧ c2 = .bool p.1.den.g ∧ c3 = .slice p.1.den.a p.1.den.n p.1.den.c) ∧ AllSl W [(p.1.num, p.2.num), (p.1.den, p.2.den)] ∧ p.1.num.n ≤ maxLen ∧ p.1.den.n ≤ maxLen := by
  obtain ⟨y0, y1, n, hx, _, h0, h1⟩ := trod_struct2 Try.underlying26 hf
  have k0 : DataW.trod enc Try.prog W 0 (fun _ => true) true n 24 [c0, c1] = some y0 := by simpa [Value.cells, Try.cells24] using h0
  have k1 : DataW.trod enc Try.prog W 0 (fun _ => true) true n 24 [c2, c3] = some y1 := by simpa [Value.cells, Try.cells24] using h1
  obtain ⟨z0, z1, n1, _, _, p0, p1⟩ := trod_struct2 Try.underlying24 k0
  obtain ⟨z2, z3, n2, _, _, p2, p3⟩ := trod_struct2 Try.underlying24 k1
  have c_b : Try.prog.cellsOf 4 = 1 := by kernel_rfl
  have c_s : Try.prog.cellsOf 22 = 1 := by kernel_rfl
  obtain ⟨g, a, n', c, xs, rfl, rfl, s1, s2, s3, _⟩ := open_two (c0 := c0) (c1 := c1) (by simpa [c_b] using p0) (by simpa [c_s] using p1)
  obtain ⟨h, b, q, e, us, rfl, rfl, t1, t2, t3, _⟩ := open_two (c0 := c2) (c1 := c3) (by simpa [c_b] using p2) (by simpa [c_s] using p3)
  exact ⟨(⟨⟨g, a, n', c⟩, ⟨h, b, q, e⟩⟩, ⟨⟨g, xs⟩, ⟨h, us⟩⟩), ⟨rfl, rfl, rfl, rfl⟩, AllSl.cons ⟨rfl, s1, s2⟩ (AllSl.cons ⟨rfl, t1, t2⟩ (AllSl.nil _)), s3, t3⟩
theorem addr_add (b off k : Nat) : (⟨b, off, none⟩ : Addr).add k = ⟨b, off + k, none⟩ := by
  unfold Addr.add
  split
  · rename_i h; subst h; rfl
  · rfl
theorem addr_add_block (a : Addr) (k : Nat) : (a.add k).block = a.block := by unfold Addr.add; split <;> rfl
theorem open_PQ {H : Type} {enc : TypeId × Value → H} {W : World} {r : Reach} {b0 : Nat} {v : Value} {d : DataW H} {p : List MemPlace}
    (hv : Value.okWide Try.prog W r b0 57 v) (h : DataW.Trod enc Try.prog W 0 (fun _ => true) true 57 v d p) :
    ∃ (a : Option Addr) (n c : Nat) (l : List (QV × QD)), v = .slice a n c ∧ PSlQ W a l ∧ l.length = n ∧ n ≤ maxLen ∧ ∀ p ∈ l, p.1.num.n ≤ maxLen ∧ p.1.den.n ≤ maxLen := by
  obtain ⟨a, n, c, rfl⟩ := okWide_slice Try.underlying57 hv
  obtain ⟨fuel, hf⟩ := h
  rcases Go.Deep.open_slice Try.underlying57 hf with ⟨hcs, _⟩ | ⟨a', len, cap, m, n', D, Pl, hcs, _, hl, hm, hmm, _, hx⟩
  · simp only [Value.cells, List.cons.injEq, Value.slice.injEq, and_true] at hcs
    obtain ⟨rfl, rfl, rfl⟩ := hcs
    exact ⟨none, 0, 0, [], rfl, ⟨.inl rfl, fun p hp => by cases hp⟩, rfl, Nat.zero_le _, fun p hp => by cases hp⟩
  · simp only [Value.cells, List.cons.injEq, Value.slice.injEq, and_true] at hcs
    obtain ⟨rfl, rfl, rfl⟩ := hcs
    simp only [if_true] at hmm
    subst hmm
    have each : ∀ i, i < n → ∃ p : QV × QD, (W.cell? ((a'.add (i * 4)).add 0) = some (.bool p.1.num.g) ∧ W.cell? ((a'.add (i * 4)).add 1) = some (.slice p.1.num.a p.1.num.n p.1.num.c) ∧ W.cell? ((a'.add (i * 4)).add 2) = some (.bool p.1.den.g) ∧ W.cell? ((a'.add (i * 4)).add 3) = some (.slice p.1.den.a p.1.den.n p.1.den.c)) ∧ AllSl W [(p.1.num, p.2.num), (p.1.den, p.2.den)] ∧ p.1.num.n ≤ maxLen ∧ p.1.den.n ≤ maxLen := by
      intro i hi
      obtain ⟨cs, h1, h2⟩ := hx i (by omega)
      rw [Try.cells26] at h1
      obtain ⟨_, h3, h4⟩ := World.cells?_some h1
      match cs, h3 with
      | [c0, c1, c2, c3], _ =>
        obtain ⟨p, ⟨rfl, rfl, rfl, rfl⟩, hp⟩ := open_ratc h2
        exact ⟨p, ⟨h4 0 (by omega), h4 1 (by omega), h4 2 (by omega), h4 3 (by omega)⟩, hp⟩
    have inh : Inhabited (QV × QD) := ⟨(⟨⟨false, none, 0, 0⟩, ⟨false, none, 0, 0⟩⟩, ⟨⟨false, []⟩, ⟨false, []⟩⟩)⟩
    obtain ⟨f, hf⟩ := Go.Deep.choose_lt each
    refine ⟨some a', n, m, (List.range n).map f, rfl, ⟨?_, ?_⟩, by simp, Nat.le_trans hl hm, ?_⟩
    · by_cases h0 : n = 0
      · subst h0; exact .inl rfl
      · obtain ⟨b, off, spot⟩ := a'
        have hc := (hf 0 (by omega)).1.1
        have hspot : spot = none := by simpa [Addr.add] using World.cell?_spot hc
        subst hspot
        refine .inr ⟨b, off, rfl, ?_, fun i hi => ?_⟩
        · have := World.block_lt_of_cell? _ _ hc
          rw [addr_add, addr_add] at this
          exact this
        · have hi' : i < n := by simpa using hi
          have h1 := (hf i hi').1
          rw [addr_add, addr_add, addr_add, addr_add, addr_add] at h1
          simpa using h1
    · intro p hp
      obtain ⟨i, hi, rfl⟩ := List.mem_map.1 hp
      exact (hf i (List.mem_range.1 hi)).2.1
    · intro p hp
      obtain ⟨i, hi, rfl⟩ := List.mem_map.1 hp
      exact (hf i (List.mem_range.1 hi)).2.2
end Go.Proofs.Ytliaddmkomcmnaa
namespace Go.Proofs.Ytliaddmkomcmnaa
open Go.ChangeShapes Go.WideShapes Go.ChangeAt Go.RowKit Go.Joins
set_option linter.unusedVariables false
set_option maxRecDepth 100000
set_option linter.unusedSimpArgs false

set_option maxRecDepth 100000 in
theorem evalP_holds_lifted (os : Os) (started : os.Started) (H : Type) (enc : TypeId × Value → H) :
    ReturnsInHanded {} Try.checked os 6 .any (Rows.fnExactEvalPolySpec.pre6 enc Try.prog Try.f6 Rows.fnExactEvalPolyRow.domain false) (Rows.fnExactEvalPolySpec.post enc Try.prog Try.f6 false true false false) := by
  refine returnsInHanded_of_change (C := Try.checked) own started (by kernel_rfl) Try.func6
    (ChangeSpec.witness6 (enc := enc) (C := Try.checked) false ⟨#[], #[.slice none 0 0, .agg #[.bool false, .slice none 0 0, .bool false, .slice none 0 0]], []⟩ 8 (by kernel_rfl) (by kernel_rfl) (by kernel_rfl) (by kernel_rfl)) ?_
  intro W base args ds gs before hval0 hW hcnd _
  have hval : ∀ (j : Nat) t v, Try.f6.params[j]? = some t → args[j]? = some v → Value.okWide Try.prog W .any base t v := hval0
  have hW' := hW
  obtain ⟨p, q, hA0, hV, rfl, hfz, hnd⟩ := hW
  have hA : DataW.TrodAll enc Try.prog W 0 (fun _ => true) true Try.f6.params.toList args.toList ds p := hA0
  rw [Try.params6] at hA hval
  obtain ⟨v0, vs0, d0, ds0, p0, q0, hargs, rfl, rfl, h0, r0⟩ := trodAll_cons hA
  obtain ⟨v1, vs1, d1, ds1, p1, q1, rfl, rfl, rfl, h1, r1⟩ := trodAll_cons r0
  obtain ⟨rfl, rfl, rfl⟩ := trodAll_nil r1
  obtain rfl : args = #[v0, v1] := by cases args; simp_all
  obtain ⟨rfl, rfl⟩ := trodVars_none hV
  have lt0 : ∀ x ∈ p0, x.block < W.heap.size := by obtain ⟨m, hm⟩ := h0; exact DataW.trod_lt m _ _ _ hm
  obtain ⟨a0, n0, c0, l0, rfl, sl0, hn0, hm0, ml0⟩ := open_PQ (hval 0 57 v0 rfl rfl) h0
  have lt1 : ∀ x ∈ p1, x.block < W.heap.size := by obtain ⟨m, hm⟩ := h1; exact DataW.trod_lt m _ _ _ hm
  obtain ⟨u1, e1, rfl, sl1, m1_0, m1_1⟩ := open_Q (hval 1 26 v1 rfl rfl) h1
  clear hA0 hval0
  refine (lawEvalP_walk a0 n0 c0 l0 u1 e1 W sl0 hn0 sl1 hm0 ml0 m1_0 m1_1).mono fun e W' ⟨he, bel⟩ => ?_
  subst he
  exact ⟨_, rfl, _, _, _, [], _, [], hW', trodAll_mk1 (shut_bool Try.underlying4 _), (trodAll_cons_mk (Below.trod laidOut (by kernel_rfl) (of_decide_eq_true (by kernel_rfl)) h0 bel lt0) (trodAll_cons_mk (Below.trod laidOut (by kernel_rfl) (of_decide_eq_true (by kernel_rfl)) h1 bel lt1) trodAll_mk0)), rfl, bel.frame _, fun h => by cases h⟩

theorem evalP_holds_c0 : (Rows.fnExactEvalPolyRow.wf (OpenSpec.ofChange Rows.fnExactEvalPolySpec)) = true := by kernel_rfl
theorem evalP_holds_c1 : (laidOutB Try.pinned.checked.prog) = true := by kernel_rfl
theorem evalP_holds_c2 : (mapsRowed Try.pinned.checked.prog) = true := by kernel_rfl
theorem evalP_holds_c3 : (Try.f6.params.all (Try.pinned.checked.prog.readableRec ·)) = true := by kernel_rfl
theorem evalP_holds_c4 : (namedTie Try.pinned.checked.prog Rows.fnExactEvalPolyRow.named Rows.fnExactEvalPolySpec.vars) = true := by kernel_rfl
theorem evalP_holds_c5 : (Rows.fnExactEvalPolyRow.stops == []) = true := by kernel_rfl
theorem evalP_holds_c6 : (Try.pinned.checked.prog.stops == []) = true := by kernel_rfl
theorem evalP_holds_c7 : (Rows.fnExactEvalPolyRow.knobs == []) = true := by kernel_rfl
theorem evalP_holds_c8 : (Try.pinned.checked.prog.stopKnobs == []) = true := by kernel_rfl
theorem evalP_holds_c9 : (Rows.fnExactEvalPolyRow.inPlace == Try.pinned.checked.prog.inPlace 6) = true := by kernel_rfl
theorem evalP_holds_c10 : (Rows.fnExactEvalPolyRow.unfollowed == Try.pinned.checked.prog.unfollowed 6) = true := by kernel_rfl
theorem evalP_holds_c11 : (Rows.fnExactEvalPolyRow.recurses == Try.pinned.checked.prog.recurses 6) = true := by kernel_rfl
theorem evalP_holds_c12 : (Rows.fnExactEvalPolyRow.named == Try.pinned.checked.prog.varsNamed 6) = true := by kernel_rfl
theorem evalP_holds_c13 : (Rows.fnExactEvalPolyRow.maps == (Try.f6.params.toList ++ Rows.fnExactEvalPolySpec.plain.varTypes Try.pinned.checked.prog).any (Try.pinned.checked.prog.mapsRec ·)) = true := by kernel_rfl
theorem evalP_holds_c14 : (Rows.fnExactEvalPolyRow.ifaces == (Try.f6.params.toList ++ Rows.fnExactEvalPolySpec.plain.varTypes Try.pinned.checked.prog).any (Try.pinned.checked.prog.ifacesRec ·)) = true := by kernel_rfl
theorem evalP_holds_c15 : (Rows.fnExactEvalPolyRow.mapsOut == Try.pinned.checked.prog.mapsAmong Try.f6.resultTypes.toList) = true := by kernel_rfl
theorem evalP_holds_c16 : (Rows.fnExactEvalPolyRow.loops == (Try.f6.params.toList ++ Rows.fnExactEvalPolySpec.plain.varTypes Try.pinned.checked.prog).any (Try.pinned.checked.prog.loopsFrom ·)) = true := by kernel_rfl
theorem evalP_holds_c17 : (Rows.fnExactEvalPolyRow.wideKeys == (Try.f6.params.toList ++ Rows.fnExactEvalPolySpec.plain.varTypes Try.pinned.checked.prog ++ Try.f6.resultTypes.toList).any (Try.pinned.checked.prog.wideKeysFrom ·)) = true := by kernel_rfl
theorem evalP_holds_c18 : (Rows.fnExactEvalPolySpec.vars.all (Try.pinned.checked.prog.varReadable ·)) = true := by kernel_rfl
theorem evalP_holds_c19 : (Try.f6.resultTypes.all (fun t => Try.pinned.checked.prog.readableRec t && decide (t < Try.pinned.checked.prog.types.size))) = true := by kernel_rfl
theorem evalP_holds_c20 : (Rows.fnExactEvalPolyRow.ifacesOut == Try.f6.resultTypes.toList.any (Try.pinned.checked.prog.ifacesRec ·)) = true := by kernel_rfl
theorem evalP_holds_c21 : (Rows.fnExactEvalPolyRow.loopsOut == Try.f6.resultTypes.toList.any (Try.pinned.checked.prog.loopsFrom ·)) = true := by kernel_rfl
theorem evalP_holds_c22 : (Rows.fnExactEvalPolyRow.plainKeys == Try.pinned.checked.prog.plainKeys) = true := by kernel_rfl
theorem evalP_holds_c23 : (Rows.fnExactEvalPolyRow.shortTexts.isNone) = true := by kernel_rfl
theorem evalP_holds_c24 : (Try.pinned.checked.prog.stopsHeard) = true := by kernel_rfl
theorem evalP_holds_c25 : (Try.pinned.checked.prog.mayEnter) = true := io_enter
theorem evalP_holds_c26 : (Rows.fnExactEvalPolyRow.lifted == Try.pinned.checked.prog.liftsFinal) = true := by rw [io_lifts]; kernel_rfl
theorem evalP_holds_c27 : (Try.pinned.checked.prog.make == some Rows.fnExactEvalPolyRow.make) = true := by rw [io_make]; kernel_rfl
theorem evalP_holds_c28 : (Rows.fnExactEvalPolyRow.kinds == (if Rows.fnExactEvalPolyRow.domain.isEmpty then [] else Try.f6.params.toList.map fun t => match Try.pinned.checked.prog.underlying t with | some (.int k) => some k | _ => none)) = true := by kernel_rfl
theorem evalP_holds_c29 : (Rows.fnExactEvalPolyRow.pinned == Rows.fnExactEvalPolyRow.pinnedBy) = true := by kernel_rfl
theorem evalP_holds_c30 : (Rows.fnExactEvalPolyRow.veiled == (Try.f6.params.toList ++ Rows.fnExactEvalPolySpec.plain.varTypes Try.pinned.checked.prog ++ Try.f6.resultTypes.toList).any (Try.pinned.checked.prog.veiledRec ·)) = true := by kernel_rfl
theorem evalP_holds_c31 : (Rows.fnExactEvalPolyRow.veiledFits Try.pinned.checked.prog Try.f6.params.toList (Try.f6.params.toList ++ Rows.fnExactEvalPolySpec.plain.varTypes Try.pinned.checked.prog ++ Try.f6.resultTypes.toList)) = true := by kernel_rfl
theorem evalP_holds_and {a b : Bool} (h : a = true) (k : b = true) : (a && b) = true := by rw [h, k]; rfl
theorem evalP_holds_closed : joinedFacts Try.pinned.checked.prog 6 Try.f6 Rows.fnExactEvalPolySpec Rows.fnExactEvalPolyRow = true := (evalP_holds_and (evalP_holds_and (evalP_holds_and (evalP_holds_and (evalP_holds_and (evalP_holds_and (evalP_holds_and (evalP_holds_and (evalP_holds_and (evalP_holds_and (evalP_holds_and (evalP_holds_and (evalP_holds_and (evalP_holds_and (evalP_holds_and (evalP_holds_and (evalP_holds_and (evalP_holds_and (evalP_holds_and (evalP_holds_and (evalP_holds_and (evalP_holds_and (evalP_holds_and (evalP_holds_and (evalP_holds_and (evalP_holds_and (evalP_holds_and (evalP_holds_and (evalP_holds_and (evalP_holds_and (evalP_holds_and evalP_holds_c0 evalP_holds_c1) evalP_holds_c2) evalP_holds_c3) evalP_holds_c4) evalP_holds_c5) evalP_holds_c6) evalP_holds_c7) evalP_holds_c8) evalP_holds_c9) evalP_holds_c10) evalP_holds_c11) evalP_holds_c12) evalP_holds_c13) evalP_holds_c14) evalP_holds_c15) evalP_holds_c16) evalP_holds_c17) evalP_holds_c18) evalP_holds_c19) evalP_holds_c20) evalP_holds_c21) evalP_holds_c22) evalP_holds_c23) evalP_holds_c24) evalP_holds_c25) evalP_holds_c26) evalP_holds_c27) evalP_holds_c28) evalP_holds_c29) evalP_holds_c30) evalP_holds_c31)
theorem evalP_holds_named : Try.pinned.checked.prog.funcNamed Rows.fnExactEvalPolyRow.func = some 6 := by kernel_rfl
theorem evalP_holds_inst : Try.f6.isInstance Try.pinned.checked.prog Rows.fnExactEvalPolyRow.origin Rows.fnExactEvalPolyRow.targs := of_decide_eq_true (by kernel_rfl)
theorem evalP_holds_wrap : Try.f6.isWrapper Try.pinned.checked.prog Rows.fnExactEvalPolyRow.wrapper Rows.fnExactEvalPolyRow.mainSum := by unfold Func.isWrapper; first | (rw [if_pos (by decide +kernel)]; kernel_rfl) | (rw [if_neg (by decide +kernel)]; exact ⟨rfl, rfl⟩)
theorem evalP_holds : Rows.FnExactEvalPolySaid :=
  OpenClaim.holds_of_wide 6 Try.f6 rfl rfl rfl rfl rfl rfl rfl ⟨rfl, rfl, rfl, rfl, rfl⟩ rfl rfl rfl rfl rfl evalP_holds_named Try.func6 evalP_holds_closed evalP_holds_inst evalP_holds_wrap
    (fun os started H enc _ => evalP_holds_lifted os started H enc)
#print axioms evalP_holds
end Go.Proofs.Ytliaddmkomcmnaa
