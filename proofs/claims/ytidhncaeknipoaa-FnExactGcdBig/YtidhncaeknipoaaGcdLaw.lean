/- The walk through the law FnExactGcdBig: it returns true. No condition beyond those typed. -/
import Derived.Test.YtidhncaeknipoaaLaw2
import Derived.Test.YtidhncaeknipoaaGcdBig
namespace Go.Proofs.Ytidhncaeknipoaa
open Go.RowKit
set_option linter.unusedVariables false
set_option linter.unusedSimpArgs false

set_option maxHeartbeats 1000000 in
theorem lawGcd_out1 (g g' : Bool) (a a' : Option Addr) (n m c c' : Nat) (w : World) (hm : n ≤ maxLen) (h : 1048576 < n) :
    Calls Try.prog 13 #[.agg #[.bool g, .slice a n c], .agg #[.bool g', .slice a' m c']] w fun e w' => e = .returned (.bool true) ∧ Below w.heap.size w w' := by
  go_enter Try.func13, Try.ntmps13
  go_wp2_with fail
  refine (sz_out g a n c _ _ (by omega) (by omega) hm (by omega)).mono ?_
  rintro e w1 ⟨rfl, hb⟩
  go_wp2
  go_ret
  exact ⟨rfl, below_two' hb⟩

set_option maxHeartbeats 1000000 in
theorem lawGcd_out2 (g g' : Bool) (a a' : Option Addr) (n m c c' : Nat) (w : World) (hm : m ≤ maxLen) (h1 : n ≤ 1048576) (h : 1048576 < n + m) :
    Calls Try.prog 13 #[.agg #[.bool g, .slice a n c], .agg #[.bool g', .slice a' m c']] w fun e w' => e = .returned (.bool true) ∧ Below w.heap.size w w' := by
  have hd : ¬ ((1048576 : Int) - (n : Int) < 0) := by omega
  go_enter Try.func13, Try.ntmps13
  go_wp2_with fail
  refine (sz_in g a n c _ _ (by omega) (by omega) (by omega)).mono ?_
  rintro e w1 ⟨rfl, hb⟩
  have y0 : w1.cell? ⟨w.heap.size + 1, 0, none⟩ = some (.bool g') := cell_later hb (by simp [go_sem])
  have y1 : w1.cell? ⟨w.heap.size + 1, 1, none⟩ = some (.slice a' m c') := cell_later hb (by simp [go_sem])
  have HB := hide (below_two' hb)
  clear hb
  go_wp2_with fail
  refine (sz_out g' a' m c' _ w1 (by omega) (by omega) hm (by omega)).mono ?_
  rintro e w2 ⟨rfl, hb2⟩
  go_wp2
  go_ret
  exact ⟨rfl, below_on (unhide HB) hb2⟩

set_option maxRecDepth 100000 in
set_option maxHeartbeats 8000000 in
theorem lawGcd_in (g g' : Bool) (a a' : Option Addr) (n m c c' : Nat) (xs ys : List Int) (w : World) (hx : Sl w a xs) (hy : Sl w a' ys) (hn : xs.length = n) (hn' : ys.length = m) (h : n + m ≤ 1048576) :
    Calls Try.prog 13 #[.agg #[.bool g, .slice a n c], .agg #[.bool g', .slice a' m c']] w fun e w' => e = .returned (.bool true) ∧ Below w.heap.size w w' := by
  have hm : n ≤ maxLen := by unfold maxLen; omega
  have hm' : m ≤ maxLen := by unfold maxLen; omega
  have HN := hide hn
  have HN' := hide hn'
  have HX := hide hx
  have HY := hide hy
  clear hn hn' hx hy
  have l1 : n ≤ 1048576 := by omega
  have l2 : m ≤ 1048576 := by omega
  have hd1 : ¬ ((1048576 : Int) - (n : Int) < 0) := by omega
  have hd2 : ¬ ((1048576 : Int) - (n : Int) - (m : Int) < 0) := by omega
  obtain ⟨V, HV⟩ : ∃ V, Hid (V = ((Nat.gcd (val xs).toNat (val ys).toNat : Nat) : Int)) := ⟨_, hide rfl⟩
  obtain ⟨P, HP⟩ : ∃ P, Hid (P = (goodB g xs && goodB g' ys)) := ⟨_, hide rfl⟩
  have CS : Hid (∀ a a' n m c c' w, Arg w a n c xs → Arg w a' m c' ys → Calls Try.prog 23 #[.agg #[.bool g, .slice a n c], .agg #[.bool g', .slice a' m c']] w (OutA w P V)) := hide (fun a a' n m c c' w h1 h2 => by rw [unhide HV, unhide HP]; exact GcdS_any g g' a a' n m c c' xs ys w h1 h2)
  have CI : Hid (∀ a a' n m c c' w, Arg w a n c xs → Arg w a' m c' ys → Calls Try.prog 22 #[.agg #[.bool g, .slice a n c], .agg #[.bool g', .slice a' m c']] w (OutA w P V)) := hide (fun a a' n m c c' w h1 h2 => by rw [unhide HV, unhide HP]; exact GcdI_any g g' a a' n m c c' xs ys w h1 h2)
  clear HV HP
  go_enter Try.func13, Try.ntmps13
  go_wp2_with fail
  refine (sz_in g a n c _ _ (by omega) (by omega) (by omega)).mono ?_
  rintro e w1 ⟨rfl, hb1⟩
  have T1 := hide ((Two.start w g a n c xs g' a' m c' ys 39 39 (unhide HX) (unhide HY)).later hb1)
  have y0 := (unhide T1).y0
  have y1 := (unhide T1).y1
  have z1 : w.heap.size + 2 ≤ w1.heap.size := by have := hb1.size; simp at this; omega
  clear hb1
  go_wp2_with fail
  refine (sz_in g' a' m c' _ w1 (by omega) (by omega) (by omega)).mono ?_
  rintro e w2 ⟨rfl, hb2⟩
  have T2 := hide ((unhide T1).later hb2)
  have z2 : w.heap.size + 2 ≤ w2.heap.size := Nat.le_trans z1 hb2.size
  clear hb2 y0 y1 T1 z1
  go_upto_region 8 with fail
  go_cut [6, 7] (fun p q wx => ∃ (G : Nat) (gr : Bool) (ar : Option Addr) (nr cr : Nat) (zs : List Int) (ok : Bool), p = .pointer (some ⟨G, 0, none⟩) ∧ q = .bool ok ∧ Hid (Met8 w w2 wx g a n c xs g' a' m c' ys P V G gr ar nr cr zs ok))
  case first =>
    have k20 := (unhide T2).x0
    have k21 := (unhide T2).x1
    have k22 := (unhide T2).y0
    have k23 := (unhide T2).y1
    go_region_held3 (fun w' => w'.cell? ⟨w.heap.size, 0, none⟩ = some (.bool g) ∧ w'.cell? ⟨w.heap.size, 1, none⟩ = some (.slice a n c) ∧ w'.cell? ⟨w.heap.size + 1, 0, none⟩ = some (.bool g') ∧ w'.cell? ⟨w.heap.size + 1, 1, none⟩ = some (.slice a' m c')) (first | (refine ⟨?_, ?_, ?_, ?_⟩ <;> assumption) | (refine ⟨ca_other ?_, ca_other ?_, ca_other ?_, ca_other ?_⟩ <;> assumption) | (refine ⟨cs_other (cs_other ?_ ?_) ?_, cs_other (cs_other ?_ ?_) ?_, cs_other (cs_other ?_ ?_) ?_, cs_other (cs_other ?_ ?_) ?_⟩ <;> first | assumption | omega))
      (first
      | (go_at_call_of 33 (Value.agg #[Value.bool g, Value.slice a n c]); refine (to_any g a n c xs _ ?_ (unhide HN) l1).mono ?_; (first | exact (unhide T2).sx.drew | exact ((unhide T2).sx.later (Nat.le_refl _) ((Below.refl _ _).alloc (Nat.le_refl _) _)).drew); rintro e w3 ⟨b3, rfl, hb3, hle3, own3⟩; have B3 : Below w2.heap.size w2 w3 := (by first | exact below_of_drew hb3 | exact bad hb3); have T3 := hide ((unhide T2).later B3); have k30 := (unhide T3).x0; have k31 := (unhide T3).x1; have k32 := (unhide T3).y0; have k33 := (unhide T3).y1; have S3 := hide (arg_of_owns own3 (unhide HN) l1); (try (refine cutP (p := w3.cell? ⟨w2.heap.size, 0, none⟩ = some (.bool false) ∧ w3.cell? ⟨w2.heap.size, 1, none⟩ = some (.slice none 0 0) ∧ ∀ o, w3.frozen? ⟨w2.heap.size, o, none⟩ = false) ?_ (fun dd => ?_); (focus (refine ⟨cell_later hb3 ?_, cell_later hb3 ?_, fun o => frozen_later hb3 ?_ ?_⟩ <;> (simp [go_sem]; done))); obtain ⟨d20, d21, d2f⟩ := dd)); have z3 := B3.size; have q3 := hb3.size; (try simp at q3); clear hb3 own3)
      | (go_at_call_of 33 (Value.agg #[Value.bool g', Value.slice a' m c']); refine (to_any g' a' m c' ys _ ?_ (unhide HN') l2).mono ?_; (first | exact (unhide T3).sy | exact (unhide T3).sy.later (Nat.le_refl _) ((Below.refl _ _).alloc (Nat.le_refl _) _)); rintro e w4 ⟨b4, rfl, hb4, hle4, own4⟩; have B4 : Below w3.heap.size w3 w4 := (by first | exact hb4 | exact ba hb4); have T4 := hide ((unhide T3).later B4); have k40 := (unhide T4).x0; have k41 := (unhide T4).x1; have k42 := (unhide T4).y0; have k43 := (unhide T4).y1; have S3' := hide ((unhide S3).later B4); have S4 := hide (arg_of_owns own4 (unhide HN') l2); (try (have e20 := cell_later B4 d20; have e21 := cell_later B4 d21; have e2f := fun o => frozen_later B4 (World.block_lt_of_cell? _ _ d20) (d2f o))); (try (refine cutP (p := w4.cell? ⟨w3.heap.size, 0, none⟩ = some (.bool false) ∧ w4.cell? ⟨w3.heap.size, 1, none⟩ = some (.slice none 0 0) ∧ ∀ o, w4.frozen? ⟨w3.heap.size, o, none⟩ = false) ?_ (fun dd => ?_); (focus (refine ⟨cell_later hb4 ?_, cell_later hb4 ?_, fun o => frozen_later hb4 ?_ ?_⟩ <;> (simp [go_sem]; done))); obtain ⟨e30, e31, e3f⟩ := dd)); have z4 := B4.size; have q4 := hb4.size; (try simp at q4); clear hb4 own4)
      | (go_at_call 23; refine (unhide CS _ _ _ _ _ _ _ ?_ ?_).mono ?_; (first | exact unhide S3' | exact (unhide S3').later ((Below.refl _ _).alloc (Nat.le_refl _) _)); (first | exact unhide S4 | exact (unhide S4).later ((Below.refl _ _).alloc (Nat.le_refl _) _)); rintro e w5 ⟨gq, aq, nq, cq, zq, okq, rfl, hb5, ho5, ha5, hans⟩; have B5 : Below w4.heap.size w4 w5 := (by first | exact hb5 | exact ba hb5); have T5 := hide ((unhide T4).later B5); have BB := hide (below_on (below_on B3 B4) B5); have k50 := (unhide T5).x0; have k51 := (unhide T5).x1; have k52 := (unhide T5).y0; have k53 := (unhide T5).y1; have O5 := hide ho5; have A5 := hide (And.intro ha5 hans); (try (have g20 := cell_later B5 e20; have g21 := cell_later B5 e21; have g2f := fun o => frozen_later B5 (World.block_lt_of_cell? _ _ e20) (e2f o))); (try (have g30 := cell_later B5 e30; have g31 := cell_later B5 e31; have g3f := fun o => frozen_later B5 (World.block_lt_of_cell? _ _ e30) (e3f o))); (try (refine cutP (p := w5.cell? ⟨w4.heap.size, 0, none⟩ = some (.bool false) ∧ w5.cell? ⟨w4.heap.size, 1, none⟩ = some (.slice none 0 0) ∧ ∀ o, w5.frozen? ⟨w4.heap.size, o, none⟩ = false) ?_ (fun dd => ?_); (focus (refine ⟨cell_later hb5 ?_, cell_later hb5 ?_, fun o => frozen_later hb5 ?_ ?_⟩ <;> (simp [go_sem]; done))); obtain ⟨g40, g41, g4f⟩ := dd)); have z5 := B5.size; have q5 := hb5.size; (try simp at q5); clear hb5 ho5 ha5 hans))
    all_goals go_wp2_with fail
    all_goals go_meet
    all_goals first
      | (refine ⟨_, gq, aq, nq, cq, zq, okq, rfl, rfl, hide (met_alloc (unhide T5) (unhide BB) (unhide O5) ?_ (unhide A5).1.len (unhide A5).2)⟩; omega)
      | (refine ⟨_, gq, aq, nq, cq, zq, okq, rfl, rfl, hide (met_set (unhide T5) (unhide BB) (unhide HX) (unhide HY) ?_ (unhide O5) ?_ ?_ (unhide A5).1.len (unhide A5).2 g20 g21)⟩ <;> omega)
      | (refine ⟨_, gq, aq, nq, cq, zq, okq, rfl, rfl, hide (met_set (unhide T5) (unhide BB) (unhide HX) (unhide HY) ?_ (unhide O5) ?_ ?_ (unhide A5).1.len (unhide A5).2 g30 g31)⟩ <;> omega)
      | (refine ⟨_, gq, aq, nq, cq, zq, okq, rfl, rfl, hide (met_set (unhide T5) (unhide BB) (unhide HX) (unhide HY) ?_ (unhide O5) ?_ ?_ (unhide A5).1.len (unhide A5).2 g40 g41)⟩ <;> first | omega | (simp; done) | (simp; omega))
  case rest =>
    obtain ⟨G0, gr, ar, nr, cr, zs, ok, rfl, rfl, HM⟩ := hcut
    clear T2
    have T3 := hide (unhide HM).two
    have V0 := hide (unhide HM).var
    have AN := hide (unhide HM).ans
    have zG1 : w.heap.size + 2 ≤ G0 := Nat.le_trans z2 (unhide HM).lo
    have zG2 : G0 < wc.heap.size := (unhide HM).hi
    have nr40 : nr ≤ 40 := by rw [← (unhide V0).len]; exact (unhide AN).len
    clear HM
    have x0 := (unhide T3).x0
    have x1 := (unhide T3).x1
    go_wp2_with fail
    refine (to_any g a n c xs wc (unhide T3).sx (unhide HN) l1).mono ?_
    rintro e w3 ⟨b3, rfl, hb3, hle3, own3⟩
    have VX := hide (Var.start (g := g) (c := n) 25 (Own.of_owns own3 (unhide HN)) (unhide HN))
    have T4 := hide (((unhide T3).later hb3).later ((Below.refl _ _).alloc (Nat.le_refl _) (.cells #[.bool g, .slice (some ⟨b3, 0, none⟩) n n] 25)))
    have V1 := hide (((unhide V0).later hb3).later ((Below.refl _ _).alloc (Nat.le_refl _) (.cells #[.bool g, .slice (some ⟨b3, 0, none⟩) n n] 25)))
    have s1 : wc.heap.size ≤ w3.heap.size := hb3.size
    have y0 := (unhide T4).y0
    have y1 := (unhide T4).y1
    clear hb3 own3 T3 V0 x0 x1
    go_wp2_with fail
    refine (to_any g' a' m c' ys _ (unhide T4).sy (unhide HN') l2).mono ?_
    rintro e w4 ⟨b4, rfl, hb4, hle4, own4⟩
    have VY := hide ((Var.start (g := g') (c := m) 25 (Own.of_owns own4 (unhide HN')) (unhide HN')).low (lo' := w3.heap.size + 1) (by simp))
    have T5 := hide (((unhide T4).later hb4).later ((Below.refl _ _).alloc (Nat.le_refl _) (.cells #[.bool g', .slice (some ⟨b4, 0, none⟩) m m] 25)))
    have V2 := hide (((unhide V1).later hb4).later ((Below.refl _ _).alloc (Nat.le_refl _) (.cells #[.bool g', .slice (some ⟨b4, 0, none⟩) m m] 25)))
    have VX2 := hide (((unhide VX).later hb4).later ((Below.refl _ _).alloc (Nat.le_refl _) (.cells #[.bool g', .slice (some ⟨b4, 0, none⟩) m m] 25)))
    have s2 : w3.heap.size + 1 ≤ w4.heap.size := by have := hb4.size; simp at this; omega
    have p0 := (unhide VX2).c0
    have p1 := (unhide VX2).c1
    clear hb4 own4 T4 V1 VX y0 y1
    go_wp2_with fail
    refine (unhide CI _ _ _ _ _ _ _ ((unhide VX2).arg (Nat.le_refl _) hm (.inr ⟨_, _, rfl⟩)) ((unhide VY).arg (Nat.le_refl _) hm' (.inr ⟨_, _, rfl⟩))).mono ?_
    rintro e w5 ⟨gr2, a2, n2, c2, zs2, ok2, rfl, hb5, ho5, ha5, hans5⟩
    obtain ⟨e1, e2, e3⟩ := (unhide AN).same hans5
    subst e1 e2 e3
    have en : nr = n2 := by rw [← ha5.len, (unhide V2).len]
    subst en
    have VG := hide ((Var.start (g := gr) (c := c2) 25 ho5 ha5.len).low (lo' := w4.heap.size + 1) (by simp))
    have s3 : w4.heap.size + 1 ≤ w5.heap.size := by have := hb5.size; simp at this; omega
    clear p0 p1
    replace T5 := hide ((unhide T5).later hb5)
    replace V2 := hide ((unhide V2).later hb5)
    replace VX2 := hide ((unhide VX2).later hb5)
    have VY2 := hide ((unhide VY).later hb5)
    clear VY hb5 ho5 ha5 hans5
    replace T5 := hide ((unhide T5).later ((Below.refl _ _).alloc (Nat.le_refl _) (.cells #[.bool gr, .slice a2 nr c2] 25)))
    replace V2 := hide ((unhide V2).later ((Below.refl _ _).alloc (Nat.le_refl _) (.cells #[.bool gr, .slice a2 nr c2] 25)))
    replace VX2 := hide ((unhide VX2).later ((Below.refl _ _).alloc (Nat.le_refl _) (.cells #[.bool gr, .slice a2 nr c2] 25)))
    replace VY2 := hide ((unhide VY2).later ((Below.refl _ _).alloc (Nat.le_refl _) (.cells #[.bool gr, .slice a2 nr c2] 25)))
    have q0 := (unhide V2).c0
    have q1 := (unhide V2).c1
    have nrm : nr ≤ maxLen := by unfold maxLen; omega
    go_wp2_with fail
    refine (eq_same gr a2 ar nr c2 cr zs _ (unhide VG).own.sl (unhide V2).own.sl (unhide VG).len nrm).mono ?_
    rintro e w6 ⟨rfl, hb6⟩
    clear q0 q1
    replace T5 := hide ((unhide T5).later hb6)
    replace V2 := hide ((unhide V2).later hb6)
    replace VX2 := hide ((unhide VX2).later hb6)
    replace VY2 := hide ((unhide VY2).later hb6)
    replace VG := hide ((unhide VG).later hb6)
    clear hb6
    generalize w3.heap.size = GX at *
    generalize w4.heap.size = GY at *
    generalize w5.heap.size = GG at *
    generalize wc.heap.size = GC at *
    go_wp2_with fail
    have k60 := (unhide T5).x0
    have k61 := (unhide T5).x1
    have k62 := (unhide VX2).c0
    have k63 := (unhide VX2).c1
    go_region_held3 (fun w' => w'.cell? ⟨w.heap.size, 0, none⟩ = some (.bool g) ∧ w'.cell? ⟨w.heap.size, 1, none⟩ = some (.slice a n c) ∧ w'.cell? ⟨GX, 0, none⟩ = some (.bool g) ∧ w'.cell? ⟨GX, 1, none⟩ = some (.slice (some ⟨b3, 0, none⟩) n n)) (refine ⟨?_, ?_, ?_, ?_⟩ <;> assumption)
      (first
      | (go_at_call 33; refine (to_any g a n c xs _ ?_ (unhide HN) l1).mono ?_; exact (unhide T5).sx.drew; rintro e w7 ⟨b7, rfl, hb7', hle7, own7⟩; have hb7 := below_of_drew hb7'; have T6 := hide ((unhide T5).later hb7); have V3 := hide ((unhide V2).later hb7); have VX3 := hide ((unhide VX2).later hb7); have VY3 := hide ((unhide VY2).later hb7); have VG3 := hide ((unhide VG).later hb7); have k70 := (unhide T6).x0; have k71 := (unhide T6).x1; have k72 := (unhide VX3).c0; have k73 := (unhide VX3).c1; have S7 := hide (Sl.of_owns own7 (unhide HN)); clear hb7 hb7' own7)
      | (go_at_call 35; refine (eq_same g _ _ n n n xs _ ?_ ?_ (unhide HN) hm).mono ?_; exact (unhide VX3).own.sl; exact unhide S7; rintro e w8 ⟨rfl, hb8⟩; have T7 := hide ((unhide T6).later hb8); have V4 := hide ((unhide V3).later hb8); have VX4 := hide ((unhide VX3).later hb8); have VY4 := hide ((unhide VY3).later hb8); have VG4 := hide ((unhide VG3).later hb8); have k80 := (unhide T7).x0; have k81 := (unhide T7).x1; have k82 := (unhide VX4).c0; have k83 := (unhide VX4).c1; clear hb8))
    clear T5 V2 VX2 VY2 VG T6 V3 VX3 VY3 VG3 S7 k60 k61 k62 k63 k70 k71 k72 k73 k80 k81 k82 k83
    go_wp2_with fail
    have k60 := (unhide T7).y0
    have k61 := (unhide T7).y1
    have k62 := (unhide VY4).c0
    have k63 := (unhide VY4).c1
    go_region_held3 (fun w' => w'.cell? ⟨w.heap.size + 1, 0, none⟩ = some (.bool g') ∧ w'.cell? ⟨w.heap.size + 1, 1, none⟩ = some (.slice a' m c') ∧ w'.cell? ⟨GY, 0, none⟩ = some (.bool g') ∧ w'.cell? ⟨GY, 1, none⟩ = some (.slice (some ⟨b4, 0, none⟩) m m)) (refine ⟨?_, ?_, ?_, ?_⟩ <;> assumption)
      (first
      | (go_at_call 33; refine (to_any g' a' m c' ys _ ?_ (unhide HN') l2).mono ?_; exact (unhide T7).sy.drew; rintro e w7 ⟨b7, rfl, hb7', hle7, own7⟩; have hb7 := below_of_drew hb7'; have T6 := hide ((unhide T7).later hb7); have V3 := hide ((unhide V4).later hb7); have VX3 := hide ((unhide VX4).later hb7); have VY3 := hide ((unhide VY4).later hb7); have VG3 := hide ((unhide VG4).later hb7); have k70 := (unhide T6).y0; have k71 := (unhide T6).y1; have k72 := (unhide VY3).c0; have k73 := (unhide VY3).c1; have S7 := hide (Sl.of_owns own7 (unhide HN')); clear hb7 hb7' own7)
      | (go_at_call 35; refine (eq_same g' _ _ m m m ys _ ?_ ?_ (unhide HN') hm').mono ?_; exact (unhide VY3).own.sl; exact unhide S7; rintro e w9 ⟨rfl, hb9⟩; have T8 := hide ((unhide T6).later hb9); have V5 := hide ((unhide V3).later hb9); have VX5 := hide ((unhide VX3).later hb9); have VY5 := hide ((unhide VY3).later hb9); have VG5 := hide ((unhide VG3).later hb9); have k80 := (unhide T8).y0; have k81 := (unhide T8).y1; have k82 := (unhide VY5).c0; have k83 := (unhide VY5).c1; clear hb9))
    clear T7 V4 VX4 VY4 VG4 T6 V3 VX3 VY3 VG3 S7 k60 k61 k62 k63 k70 k71 k72 k73 k80 k81 k82 k83
    have p0 := (unhide VX5).c0
    have p1 := (unhide VX5).c1
    go_wp2_with fail
    refine (markB_own g _ n n xs 1 GC GX w9 (unhide VX5).own (unhide HN) l1 (by omega) (by omega)).mono ?_
    rintro e w10 ⟨rfl, hbt, hmk⟩
    replace T8 := hide ((unhide T8).but hbt (by omega) (unhide HX) (unhide HY))
    replace V5 := hide ((unhide V5).but hbt (.inl zG2) (.inl (Nat.le_refl _)))
    replace VY5 := hide ((unhide VY5).but hbt (by omega) (by omega))
    replace VG5 := hide ((unhide VG5).but hbt (by omega) (by omega))
    clear VX5 p0 p1 hbt hmk
    have p0 := (unhide VY5).c0
    have p1 := (unhide VY5).c1
    go_wp2_with fail
    refine (markB_own g' _ m m ys _ (GX + 1) GY w10 (unhide VY5).own (unhide HN') l2 (by omega) (by omega)).mono ?_
    rintro e w11 ⟨rfl, hbt, hmk⟩
    replace T8 := hide ((unhide T8).but hbt (by omega) (unhide HX) (unhide HY))
    replace V5 := hide ((unhide V5).but hbt (by omega) (by omega))
    replace VG5 := hide ((unhide VG5).but hbt (by omega) (by omega))
    clear VY5 p0 p1 hbt hmk
    have p0 := (unhide VG5).c0
    have p1 := (unhide VG5).c1
    have q0 := (unhide V5).c0
    have q1 := (unhide V5).c1
    have hk0 : decide ((1 : Int) + (n : Int) + (m : Int) < 0) = false := by simp; omega
    go_wp2_with fail
    refine (eq_same gr a2 ar nr c2 cr zs _ (unhide VG5).own.sl (unhide V5).own.sl (unhide VG5).len nrm).mono ?_
    rintro e w12 ⟨rfl, hb12⟩
    clear p0 p1 q0 q1 hk0
    replace T8 := hide ((unhide T8).later hb12)
    replace V5 := hide ((unhide V5).later hb12)
    replace VG5 := hide ((unhide VG5).later hb12)
    clear hb12
    have p0 := (unhide VG5).c0
    have p1 := (unhide VG5).c1
    go_wp2_with fail
    refine (markB_own gr a2 nr c2 zs 1 (GY + 1) GG w12 (unhide VG5).own (unhide VG5).len (by omega) (by omega) (by omega)).mono ?_
    rintro e w13 ⟨rfl, hbt, hmk⟩
    replace T8 := hide ((unhide T8).but hbt (by omega) (unhide HX) (unhide HY))
    replace V5 := hide ((unhide V5).but hbt (by omega) (by omega))
    replace VG5 := hide ((unhide VG5).mark hbt (by omega) hmk (marks_len _ _))
    clear p0 p1 hbt hmk
    have p0 := (unhide VG5).c0
    have p1 := (unhide VG5).c1
    go_wp2_with fail
    refine (heldB_any gr a2 nr c2 1 w13 (unhide VG5).own.sl (by omega) (by omega) (by omega)).mono ?_
    rintro e wk ⟨rfl, hbk⟩
    replace T8 := hide ((unhide T8).later hbk)
    replace V5 := hide ((unhide V5).later hbk)
    replace VG5 := hide ((unhide VG5).later hbk)
    have hr0 : ¬ ((1 : Int) + (nr : Int) < 0) := by omega
    have zk : w.heap.size + 2 ≤ wk.heap.size := by
      have h1 := World.block_lt_of_cell? _ _ (unhide VG5).c0
      have h2 : GG < wk.heap.size := h1
      omega
    clear p0 p1 hbk
    go_upto_region 31 with fail
    go_cut [15, 16] (fun p q wx => ∃ (G : Nat) (gr : Bool) (ar : Option Addr) (nr cr : Nat) (zs : List Int) (ok : Bool), p = .pointer (some ⟨G, 0, none⟩) ∧ q = .bool ok ∧ Hid (Met8 w wk wx g a n c xs g' a' m c' ys P V G gr ar nr cr zs ok))
    case first =>
      have k20 := (unhide T8).x0
      have k21 := (unhide T8).x1
      have k22 := (unhide T8).y0
      have k23 := (unhide T8).y1
      go_region_held3 (fun w' => w'.cell? ⟨w.heap.size, 0, none⟩ = some (.bool g) ∧ w'.cell? ⟨w.heap.size, 1, none⟩ = some (.slice a n c) ∧ w'.cell? ⟨w.heap.size + 1, 0, none⟩ = some (.bool g') ∧ w'.cell? ⟨w.heap.size + 1, 1, none⟩ = some (.slice a' m c')) (first | (refine ⟨?_, ?_, ?_, ?_⟩ <;> assumption) | (refine ⟨ca_other ?_, ca_other ?_, ca_other ?_, ca_other ?_⟩ <;> assumption) | (refine ⟨cs_other (cs_other ?_ ?_) ?_, cs_other (cs_other ?_ ?_) ?_, cs_other (cs_other ?_ ?_) ?_, cs_other (cs_other ?_ ?_) ?_⟩ <;> first | assumption | omega))
        (first
        | (go_at_call_of 33 (Value.agg #[Value.bool g, Value.slice a n c]); refine (to_any g a n c xs _ ?_ (unhide HN) l1).mono ?_; (first | exact (unhide T8).sx.drew | exact ((unhide T8).sx.later (Nat.le_refl _) ((Below.refl _ _).alloc (Nat.le_refl _) _)).drew); rintro e w3 ⟨b3, rfl, hb3, hle3, own3⟩; have B3 : Below wk.heap.size wk w3 := (by first | exact below_of_drew hb3 | exact bad hb3); have T3 := hide ((unhide T8).later B3); have k30 := (unhide T3).x0; have k31 := (unhide T3).x1; have k32 := (unhide T3).y0; have k33 := (unhide T3).y1; have S3 := hide (arg_of_owns own3 (unhide HN) l1); (try (refine cutP (p := w3.cell? ⟨wk.heap.size, 0, none⟩ = some (.bool false) ∧ w3.cell? ⟨wk.heap.size, 1, none⟩ = some (.slice none 0 0) ∧ ∀ o, w3.frozen? ⟨wk.heap.size, o, none⟩ = false) ?_ (fun dd => ?_); (focus (refine ⟨cell_later hb3 ?_, cell_later hb3 ?_, fun o => frozen_later hb3 ?_ ?_⟩ <;> (simp [go_sem]; done))); obtain ⟨d20, d21, d2f⟩ := dd)); have z3 := B3.size; have q3 := hb3.size; (try simp at q3); clear hb3 own3)
        | (go_at_call_of 33 (Value.agg #[Value.bool g', Value.slice a' m c']); refine (to_any g' a' m c' ys _ ?_ (unhide HN') l2).mono ?_; (first | exact (unhide T3).sy | exact (unhide T3).sy.later (Nat.le_refl _) ((Below.refl _ _).alloc (Nat.le_refl _) _)); rintro e w4 ⟨b4, rfl, hb4, hle4, own4⟩; have B4 : Below w3.heap.size w3 w4 := (by first | exact hb4 | exact ba hb4); have T4 := hide ((unhide T3).later B4); have k40 := (unhide T4).x0; have k41 := (unhide T4).x1; have k42 := (unhide T4).y0; have k43 := (unhide T4).y1; have S3' := hide ((unhide S3).later B4); have S4 := hide (arg_of_owns own4 (unhide HN') l2); (try (have e20 := cell_later B4 d20; have e21 := cell_later B4 d21; have e2f := fun o => frozen_later B4 (World.block_lt_of_cell? _ _ d20) (d2f o))); (try (refine cutP (p := w4.cell? ⟨w3.heap.size, 0, none⟩ = some (.bool false) ∧ w4.cell? ⟨w3.heap.size, 1, none⟩ = some (.slice none 0 0) ∧ ∀ o, w4.frozen? ⟨w3.heap.size, o, none⟩ = false) ?_ (fun dd => ?_); (focus (refine ⟨cell_later hb4 ?_, cell_later hb4 ?_, fun o => frozen_later hb4 ?_ ?_⟩ <;> (simp [go_sem]; done))); obtain ⟨e30, e31, e3f⟩ := dd)); have z4 := B4.size; have q4 := hb4.size; (try simp at q4); clear hb4 own4)
        | (go_at_call 22; refine (unhide CI _ _ _ _ _ _ _ ?_ ?_).mono ?_; (first | exact unhide S3' | exact (unhide S3').later ((Below.refl _ _).alloc (Nat.le_refl _) _)); (first | exact unhide S4 | exact (unhide S4).later ((Below.refl _ _).alloc (Nat.le_refl _) _)); rintro e w5 ⟨gq, aq, nq, cq, zq, okq, rfl, hb5, ho5, ha5, hans⟩; have B5 : Below w4.heap.size w4 w5 := (by first | exact hb5 | exact ba hb5); have T5 := hide ((unhide T4).later B5); have BB := hide (below_on (below_on B3 B4) B5); have k50 := (unhide T5).x0; have k51 := (unhide T5).x1; have k52 := (unhide T5).y0; have k53 := (unhide T5).y1; have O5 := hide ho5; have A5 := hide (And.intro ha5 hans); (try (have g20 := cell_later B5 e20; have g21 := cell_later B5 e21; have g2f := fun o => frozen_later B5 (World.block_lt_of_cell? _ _ e20) (e2f o))); (try (have g30 := cell_later B5 e30; have g31 := cell_later B5 e31; have g3f := fun o => frozen_later B5 (World.block_lt_of_cell? _ _ e30) (e3f o))); (try (refine cutP (p := w5.cell? ⟨w4.heap.size, 0, none⟩ = some (.bool false) ∧ w5.cell? ⟨w4.heap.size, 1, none⟩ = some (.slice none 0 0) ∧ ∀ o, w5.frozen? ⟨w4.heap.size, o, none⟩ = false) ?_ (fun dd => ?_); (focus (refine ⟨cell_later hb5 ?_, cell_later hb5 ?_, fun o => frozen_later hb5 ?_ ?_⟩ <;> (simp [go_sem]; done))); obtain ⟨g40, g41, g4f⟩ := dd)); have z5 := B5.size; have q5 := hb5.size; (try simp at q5); clear hb5 ho5 ha5 hans))
      all_goals go_wp2_with fail
      all_goals go_meet
      all_goals first
        | (refine ⟨_, gq, aq, nq, cq, zq, okq, rfl, rfl, hide (met_alloc (unhide T5) (unhide BB) (unhide O5) ?_ (unhide A5).1.len (unhide A5).2)⟩; omega)
        | (refine ⟨_, gq, aq, nq, cq, zq, okq, rfl, rfl, hide (met_set (unhide T5) (unhide BB) (unhide HX) (unhide HY) ?_ (unhide O5) ?_ ?_ (unhide A5).1.len (unhide A5).2 g20 g21)⟩ <;> omega)
        | (refine ⟨_, gq, aq, nq, cq, zq, okq, rfl, rfl, hide (met_set (unhide T5) (unhide BB) (unhide HX) (unhide HY) ?_ (unhide O5) ?_ ?_ (unhide A5).1.len (unhide A5).2 g30 g31)⟩ <;> omega)
        | (refine ⟨_, gq, aq, nq, cq, zq, okq, rfl, rfl, hide (met_set (unhide T5) (unhide BB) (unhide HX) (unhide HY) ?_ (unhide O5) ?_ ?_ (unhide A5).1.len (unhide A5).2 g40 g41)⟩ <;> first | omega | (simp; done) | (simp; omega))
    case rest =>
      obtain ⟨GH, gh, ah, nh, ch, zh, okh, rfl, rfl, HM⟩ := hcut
      obtain ⟨e1, e2, e3⟩ := (unhide AN).same (unhide HM).ans
      subst e1 e2 e3
      have en : nr = nh := by rw [← (unhide HM).var.len, ← (unhide V5).len]
      subst en
      have T9 := hide (unhide HM).two
      have VH := hide (unhide HM).var
      replace V5 := hide ((unhide V5).later (unhide HM).bel)
      replace VG5 := hide ((unhide VG5).later (unhide HM).bel)
      clear HM T8
      have p0 := (unhide VH).c0
      have p1 := (unhide VH).c1
      have q0 := (unhide V5).c0
      have q1 := (unhide V5).c1
      go_wp2_with fail
      refine (eq_same gr ah ar nr ch cr zs _ (unhide VH).own.sl (unhide V5).own.sl (unhide VH).len nrm).mono ?_
      rintro e w14 ⟨rfl, hb14⟩
      replace T9 := hide ((unhide T9).later hb14)
      replace VG5 := hide ((unhide VG5).later hb14)
      clear p0 p1 q0 q1 hb14 VH V5
      have p0 := (unhide VG5).c0
      have p1 := (unhide VG5).c1
      go_wp2_with fail
      refine (heldB_any gr a2 nr c2 1 w14 (unhide VG5).own.sl (by omega) (by omega) (by omega)).mono ?_
      rintro e w15 ⟨rfl, hb15⟩
      replace T9 := hide ((unhide T9).later hb15)
      clear p0 p1 hb15
      go_wp2
      go_ret
      exact ⟨rfl, (unhide T9).bel⟩

theorem lawGcd_walk (g g' : Bool) (a a' : Option Addr) (n m c c' : Nat) (xs ys : List Int) (w : World) (hx : Sl w a xs) (hy : Sl w a' ys) (hn : xs.length = n) (hn' : ys.length = m) (hm : n ≤ maxLen) (hm' : m ≤ maxLen) :
    Calls Try.prog 13 #[.agg #[.bool g, .slice a n c], .agg #[.bool g', .slice a' m c']] w fun e w' => e = .returned (.bool true) ∧ Below w.heap.size w w' := by
  by_cases h1 : n ≤ 1048576
  · by_cases h2 : n + m ≤ 1048576
    · exact lawGcd_in g g' a a' n m c c' xs ys w hx hy hn hn' h2
    · exact lawGcd_out2 g g' a a' n m c c' w hm' h1 (by omega)
  · exact lawGcd_out1 g g' a a' n m c c' w hm (by omega)
end Go.Proofs.Ytidhncaeknipoaa
