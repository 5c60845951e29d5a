/- MulBig: the program's and the specification's, at every two numbers: they answer the product, where both are good and it fits. No condition beyond those typed. -/
import Derived.Test.YtidhncaeknipoaaMulI
import Derived.Test.YtidhncaeknipoaaAddBig
import Derived.Test.YtidhncaeknipoaaLaw2
namespace Go.Proofs.Ytidhncaeknipoaa
open Go.RowKit
set_option linter.unusedVariables false
set_option linter.unusedSimpArgs false

theorem mul_len {w : World} {zs xs ys : List Int} {a a' : Option Addr} {n m c c' : Nat} (h : Nm zs (val xs * val ys)) (hx : Num w a n c xs) (hy : Num w a' m c' ys) (hn : n ≤ 500000) (hm : m ≤ 500000) : zs.length ≤ 1048576 := by
  by_cases h0 : zs.length = 0
  · omega
  have h1 := top_le h.ok h.tr (by omega)
  have h2 := val_lt hx.ok
  have h3 := val_lt hy.ok
  have p2 := val_nonneg hx.ok
  have p3 := val_nonneg hy.ok
  rw [h.v] at h1
  rw [hx.arg.len] at h2
  rw [hy.arg.len] at h3
  have h4 : val xs * val ys ≤ 65536 ^ n * 65536 ^ m := Int.mul_le_mul (by omega) (by omega) p3 (by omega)
  rw [← Int.pow_add] at h4
  by_cases hl : zs.length ≤ 1048576
  · exact hl
  · have h5 := pow_mono (show n + m + 1 ≤ zs.length - 1 by omega)
    rw [Int.pow_succ] at h5
    have h7 : (0 : Int) < 65536 ^ (n + m) := Int.pow_pos (by omega)
    omega
theorem sv_mul (g g' : Bool) (xs ys : List Int) : sv g xs * sv g' ys = if (!(g == g')) then -(val xs * val ys) else val xs * val ys := by
  cases g <;> cases g' <;> simp [sv, Int.mul_neg, Int.neg_mul]
theorem fitM (g : Bool) (U : Int) (a : Option Addr) (n c : Nat) (zs : List Int) (w : World) (base : Nat) (ho : Own base w a zs) (ha : Arg w a n c zs) (hn : Nm zs U) (V : Int) (hV : V = if g then -U else U) :
    Calls Try.prog 48 #[.agg #[.bool (sd g U), .slice a n c]] w fun e w' => ∃ gr a2 n2 c2 ts ok, e = .returned (.tuple #[.agg #[.bool gr, .slice a2 n2 c2], .bool ok]) ∧ Below w.heap.size w w' ∧ Own base w' a2 ts ∧ Arg w' a2 n2 c2 ts ∧ Ans true V gr ts ok := by
  have e : sd g U = decide (V < 0) := by rw [hV]; rfl
  rw [e]
  exact fitI_any V a n c zs w base ho ha (by rw [natAbs_sign hn.nonneg hV]; exact hn)

set_option maxHeartbeats 4000000 in
theorem mulSgS_any (g g' : Bool) (a a' : Option Addr) (n m c c' : Nat) (xs ys : List Int) (w : World) (hx : Num w a n c xs) (hy : Num w a' m c' ys) (hnl : n ≤ 500000) (hml : m ≤ 500000) :
    Calls Try.prog 51 #[.agg #[.bool g, .slice a n c], .agg #[.bool g', .slice a' m c']] w (OutB w (sv g xs * sv g' ys)) := by
  have NX := hide hx
  have NY := hide hy
  have NL := hide hnl
  have ML := hide hml
  clear hx hy hnl hml
  have BA := hide (below_three w (.cells #[.bool g, .slice a n c] 25) (.cells #[.bool g', .slice a' m c'] 25) (.cells #[.bool false, .slice none 0 0] 25))
  go_enter Try.func51, Try.ntmps51
  go_upto_region 1 with fail
  obtain ⟨wA, hwA⟩ : ∃ wA, wA = (((w.alloc (.cells #[.bool g, .slice a n c] 25)).alloc (.cells #[.bool g', .slice a' m c'] 25)).alloc (.cells #[.bool false, .slice none 0 0] 25)) := ⟨_, rfl⟩
  have kA0 : wA.cell? ⟨w.heap.size, 0, none⟩ = some (.bool g) := by rw [hwA]; simp [go_sem]
  have kA1 : wA.cell? ⟨w.heap.size, 1, none⟩ = some (.slice a n c) := by rw [hwA]; simp [go_sem]
  have kA2 : wA.cell? ⟨w.heap.size + 1, 0, none⟩ = some (.bool g') := by rw [hwA]; simp [go_sem]
  have kA3 : wA.cell? ⟨w.heap.size + 1, 1, none⟩ = some (.slice a' m c') := by rw [hwA]; simp [go_sem]
  have rA0 : wA.cell? ⟨w.heap.size + 1 + 1, 0, none⟩ = some (.bool false) := by rw [hwA]; simp [go_sem]
  have rA1 : wA.cell? ⟨w.heap.size + 1 + 1, 1, none⟩ = some (.slice none 0 0) := by rw [hwA]; simp [go_sem]
  have fA : ∀ o, wA.frozen? ⟨w.heap.size + 1 + 1, o, none⟩ = false := by intro o; rw [hwA]; simp [go_sem]
  have sA : w.heap.size + 1 + 1 + 1 ≤ wA.heap.size := by rw [hwA]; simp
  rw [← hwA] at BA ⊢
  clear hwA
  go_region_held3 (fun w' => w'.cell? ⟨w.heap.size, 0, none⟩ = some (.bool g) ∧ w'.cell? ⟨w.heap.size, 1, none⟩ = some (.slice a n c) ∧ w'.cell? ⟨w.heap.size + 1, 0, none⟩ = some (.bool g') ∧ w'.cell? ⟨w.heap.size + 1, 1, none⟩ = some (.slice a' m c')) (first | (refine ⟨?_, ?_, ?_, ?_⟩ <;> assumption) | (refine ⟨cs_other (cs_other ?_ ?_) ?_, cs_other (cs_other ?_ ?_) ?_, cs_other (cs_other ?_ ?_) ?_, cs_other (cs_other ?_ ?_) ?_⟩ <;> first | assumption | omega))
    (first
    | (go_at_call 79; refine (mulS_any a a' n m c c' xs ys _ ?_ ?_ (unhide NX).ok (unhide NY).ok ?_ ?_).mono ?_; exact ((unhide NX).arg.later (unhide BA)).drew; exact ((unhide NY).arg.later (unhide BA)).drew; exact unhide NL; exact unhide ML; rintro e w3 ⟨a1, n1, c1, zs, rfl, hb3', ho3, ha3, hn3⟩; have hb3 := below_of_drew hb3'; have k30 : w3.cell? ⟨w.heap.size, 0, none⟩ = some (.bool g) := cell_later hb3 kA0; have k31 : w3.cell? ⟨w.heap.size, 1, none⟩ = some (.slice a n c) := cell_later hb3 kA1; have k32 : w3.cell? ⟨w.heap.size + 1, 0, none⟩ = some (.bool g') := cell_later hb3 kA2; have k33 : w3.cell? ⟨w.heap.size + 1, 1, none⟩ = some (.slice a' m c') := cell_later hb3 kA3; have r30 : w3.cell? ⟨w.heap.size + 1 + 1, 0, none⟩ = some (.bool false) := cell_later hb3 rA0; have r31 : w3.cell? ⟨w.heap.size + 1 + 1, 1, none⟩ = some (.slice none 0 0) := cell_later hb3 rA1; have f3 : ∀ o, w3.frozen? ⟨w.heap.size + 1 + 1, o, none⟩ = false := fun o => frozen_later hb3 (Nat.lt_of_lt_of_le (by omega) sA) (fA o); have s3 := Nat.le_trans sA hb3.size; have B3 := hide (below_on (unhide BA) hb3); have L3 : Hid (n1 ≤ 1048576) := hide (by rw [← ha3.len]; exact mul_len hn3 (unhide NX) (unhide NY) (unhide NL) (unhide ML)); have O3 := hide (ho3.mono (base' := w.heap.size + 1 + 1 + 1) sA); clear hb3' hb3 ho3)
    | (go_at_call 54; refine (signS_out _ a1 n1 c1 zs _ (w.heap.size + 1 + 1 + 1) (val xs * val ys) ha3 (unhide O3) hn3.ok hn3.v ?_ (unhide L3)).mono ?_; (exact s3); rintro e w4 ⟨a2, n2, c2, ts, rfl, hb4, ho4, ha4, hn4⟩; have k40 : w4.cell? ⟨w.heap.size, 0, none⟩ = some (.bool g) := cell_later hb4 k30; have k41 : w4.cell? ⟨w.heap.size, 1, none⟩ = some (.slice a n c) := cell_later hb4 k31; have k42 : w4.cell? ⟨w.heap.size + 1, 0, none⟩ = some (.bool g') := cell_later hb4 k32; have k43 : w4.cell? ⟨w.heap.size + 1, 1, none⟩ = some (.slice a' m c') := cell_later hb4 k33; have r40 : w4.cell? ⟨w.heap.size + 1 + 1, 0, none⟩ = some (.bool false) := cell_later hb4 r30; have r41 : w4.cell? ⟨w.heap.size + 1 + 1, 1, none⟩ = some (.slice none 0 0) := cell_later hb4 r31; have f4 : ∀ o, w4.frozen? ⟨w.heap.size + 1 + 1, o, none⟩ = false := fun o => frozen_later hb4 (Nat.lt_of_lt_of_le (by omega) s3) (f3 o); have s4 := Nat.le_trans s3 hb4.size; have B4 := hide (below_on (unhide B3) hb4); have HO4 := hide ho4; have HA4 := hide ha4; have HN4 := hide hn4; clear hb4 ho4 ha4 hn4))
  go_wp2
  refine bodyPost_ret (v := .agg #[.bool (sd (!(g == g')) (val xs * val ys)), .slice a2 n2 c2]) (by simp [results, Try.results51, go_sem, r40, r41]) rfl ?_
  exact outB_of (s := w.heap.size + 1 + 1) (g := (!(g == g'))) (by omega) (unhide B4) (unhide HO4) (unhide HA4) (unhide HN4) (sv_mul g g' xs ys) _ _

set_option maxHeartbeats 4000000 in
theorem mulSgI_any (g g' : Bool) (a a' : Option Addr) (n m c c' : Nat) (xs ys : List Int) (w : World) (hx : Num w a n c xs) (hy : Num w a' m c' ys) (hnl : n ≤ 500000) (hml : m ≤ 500000) :
    Calls Try.prog 49 #[.agg #[.bool g, .slice a n c], .agg #[.bool g', .slice a' m c']] w (OutB w (sv g xs * sv g' ys)) := by
  have NX := hide hx
  have NY := hide hy
  have NL := hide hnl
  have ML := hide hml
  clear hx hy hnl hml
  have BA := hide (below_three w (.cells #[.bool g, .slice a n c] 25) (.cells #[.bool g', .slice a' m c'] 25) (.cells #[.bool false, .slice none 0 0] 25))
  go_enter Try.func49, Try.ntmps49
  go_upto_region 1 with fail
  obtain ⟨wA, hwA⟩ : ∃ wA, wA = (((w.alloc (.cells #[.bool g, .slice a n c] 25)).alloc (.cells #[.bool g', .slice a' m c'] 25)).alloc (.cells #[.bool false, .slice none 0 0] 25)) := ⟨_, rfl⟩
  have kA0 : wA.cell? ⟨w.heap.size, 0, none⟩ = some (.bool g) := by rw [hwA]; simp [go_sem]
  have kA1 : wA.cell? ⟨w.heap.size, 1, none⟩ = some (.slice a n c) := by rw [hwA]; simp [go_sem]
  have kA2 : wA.cell? ⟨w.heap.size + 1, 0, none⟩ = some (.bool g') := by rw [hwA]; simp [go_sem]
  have kA3 : wA.cell? ⟨w.heap.size + 1, 1, none⟩ = some (.slice a' m c') := by rw [hwA]; simp [go_sem]
  have rA0 : wA.cell? ⟨w.heap.size + 1 + 1, 0, none⟩ = some (.bool false) := by rw [hwA]; simp [go_sem]
  have rA1 : wA.cell? ⟨w.heap.size + 1 + 1, 1, none⟩ = some (.slice none 0 0) := by rw [hwA]; simp [go_sem]
  have fA : ∀ o, wA.frozen? ⟨w.heap.size + 1 + 1, o, none⟩ = false := by intro o; rw [hwA]; simp [go_sem]
  have sA : w.heap.size + 1 + 1 + 1 ≤ wA.heap.size := by rw [hwA]; simp
  rw [← hwA] at BA ⊢
  clear hwA
  go_region_held3 (fun w' => w'.cell? ⟨w.heap.size, 0, none⟩ = some (.bool g) ∧ w'.cell? ⟨w.heap.size, 1, none⟩ = some (.slice a n c) ∧ w'.cell? ⟨w.heap.size + 1, 0, none⟩ = some (.bool g') ∧ w'.cell? ⟨w.heap.size + 1, 1, none⟩ = some (.slice a' m c')) (first | (refine ⟨?_, ?_, ?_, ?_⟩ <;> assumption) | (refine ⟨cs_other (cs_other ?_ ?_) ?_, cs_other (cs_other ?_ ?_) ?_, cs_other (cs_other ?_ ?_) ?_, cs_other (cs_other ?_ ?_) ?_⟩ <;> first | assumption | omega))
    (first
    | (go_at_call 83; refine (mulI_any a a' n m c c' xs ys _ ?_ ?_ (unhide NX).ok (unhide NY).ok ?_ ?_).mono ?_; exact ((unhide NX).arg.later (unhide BA)).drew; exact ((unhide NY).arg.later (unhide BA)).drew; exact unhide NL; exact unhide ML; rintro e w3 ⟨a1, n1, c1, zs, rfl, hb3', ho3, ha3, hn3⟩; have hb3 := below_of_drew hb3'; have k30 : w3.cell? ⟨w.heap.size, 0, none⟩ = some (.bool g) := cell_later hb3 kA0; have k31 : w3.cell? ⟨w.heap.size, 1, none⟩ = some (.slice a n c) := cell_later hb3 kA1; have k32 : w3.cell? ⟨w.heap.size + 1, 0, none⟩ = some (.bool g') := cell_later hb3 kA2; have k33 : w3.cell? ⟨w.heap.size + 1, 1, none⟩ = some (.slice a' m c') := cell_later hb3 kA3; have r30 : w3.cell? ⟨w.heap.size + 1 + 1, 0, none⟩ = some (.bool false) := cell_later hb3 rA0; have r31 : w3.cell? ⟨w.heap.size + 1 + 1, 1, none⟩ = some (.slice none 0 0) := cell_later hb3 rA1; have f3 : ∀ o, w3.frozen? ⟨w.heap.size + 1 + 1, o, none⟩ = false := fun o => frozen_later hb3 (Nat.lt_of_lt_of_le (by omega) sA) (fA o); have s3 := Nat.le_trans sA hb3.size; have B3 := hide (below_on (unhide BA) hb3); have L3 : Hid (n1 ≤ 1048576) := hide (by rw [← ha3.len]; exact mul_len hn3 (unhide NX) (unhide NY) (unhide NL) (unhide ML)); have O3 := hide (ho3.mono (base' := w.heap.size + 1 + 1 + 1) sA); clear hb3' hb3 ho3)
    | (go_at_call 52; refine (signI_out _ a1 n1 c1 zs _ (w.heap.size + 1 + 1 + 1) (val xs * val ys) ha3 (unhide O3) hn3.ok hn3.v ?_ (unhide L3)).mono ?_; (exact s3); rintro e w4 ⟨a2, n2, c2, ts, rfl, hb4, ho4, ha4, hn4⟩; have k40 : w4.cell? ⟨w.heap.size, 0, none⟩ = some (.bool g) := cell_later hb4 k30; have k41 : w4.cell? ⟨w.heap.size, 1, none⟩ = some (.slice a n c) := cell_later hb4 k31; have k42 : w4.cell? ⟨w.heap.size + 1, 0, none⟩ = some (.bool g') := cell_later hb4 k32; have k43 : w4.cell? ⟨w.heap.size + 1, 1, none⟩ = some (.slice a' m c') := cell_later hb4 k33; have r40 : w4.cell? ⟨w.heap.size + 1 + 1, 0, none⟩ = some (.bool false) := cell_later hb4 r30; have r41 : w4.cell? ⟨w.heap.size + 1 + 1, 1, none⟩ = some (.slice none 0 0) := cell_later hb4 r31; have f4 : ∀ o, w4.frozen? ⟨w.heap.size + 1 + 1, o, none⟩ = false := fun o => frozen_later hb4 (Nat.lt_of_lt_of_le (by omega) s3) (f3 o); have s4 := Nat.le_trans s3 hb4.size; have B4 := hide (below_on (unhide B3) hb4); have HO4 := hide ho4; have HA4 := hide ha4; have HN4 := hide hn4; clear hb4 ho4 ha4 hn4))
  go_wp2
  refine bodyPost_ret (v := .agg #[.bool (sd (!(g == g')) (val xs * val ys)), .slice a2 n2 c2]) (by simp [results, Try.results49, go_sem, r40, r41]) rfl ?_
  exact outB_of (s := w.heap.size + 1 + 1) (g := (!(g == g'))) (by omega) (unhide B4) (unhide HO4) (unhide HA4) (unhide HN4) (sv_mul g g' xs ys) _ _

set_option maxHeartbeats 4000000 in
theorem MulI_any (g g' : Bool) (a a' : Option Addr) (n m c c' : Nat) (xs ys : List Int) (w : World) (hx : Arg w a n c xs) (hy : Arg w a' m c' ys) :
    Calls Try.prog 16 #[.agg #[.bool g, .slice a n c], .agg #[.bool g', .slice a' m c']] w (OutA w (goodB g xs && goodB g' ys) (sv g xs * sv g' ys)) := by
  have HX := hide hx
  have HY := hide hy
  clear hx hy
  have B3 := hide (below_three w (.cells #[.bool g, .slice a n c] 25) (.cells #[.bool g', .slice a' m c'] 25) (.cells #[.bool false, .slice none 0 0] 25))
  cases hP : (goodB g xs && goodB g' ys)
  · go_enter Try.func16, Try.ntmps16
    go_wp2_with fail
    refine (pair_any g g' a a' n m c c' xs ys _ ((unhide HX).later (unhide B3)).sl ((unhide HY).later (unhide B3)).sl (unhide HX).len (unhide HY).len (Nat.le_trans (unhide HX).cap (unhide HX).top) (Nat.le_trans (unhide HY).cap (unhide HY).top)).mono ?_
    rintro e w1 ⟨rfl, hb1⟩
    rw [hP]
    have r0 : w1.cell? ⟨w.heap.size + 1 + 1, 0, none⟩ = some (.bool false) := cell_later hb1 (by simp [go_sem])
    have r1 : w1.cell? ⟨w.heap.size + 1 + 1, 1, none⟩ = some (.slice none 0 0) := cell_later hb1 (by simp [go_sem])
    have f0 : ∀ o, w1.frozen? ⟨w.heap.size + 1 + 1, o, none⟩ = false := fun o => frozen_later hb1 (by simp) (by simp [go_sem])
    have HB := hide ((unhide B3).trans (hb1.mono (by simp <;> omega)))
    clear hb1 hP
    go_wp2
    exact bodyPost_ret (v := .tuple #[.agg #[.bool false, .slice none 0 0], .bool false]) (by simp [results, Try.results16, go_sem, r0, r1]) rfl (outA_no (s := w.heap.size + 1 + 1) (by omega) (unhide HB) _ _)
  · have hg1 : goodB g xs = true := by revert hP; cases goodB g xs <;> simp
    have hg2 : goodB g' ys = true := by revert hP; cases goodB g' ys <;> simp
    have NX := hide (num_of_good (unhide HX) hg1)
    have NY := hide (num_of_good (unhide HY) hg2)
    have NL : Hid (n ≤ 500000) := hide (by have := (good_parts hg1).2.2.1; have := (unhide HX).len; omega)
    have ML : Hid (m ≤ 500000) := hide (by have := (good_parts hg2).2.2.1; have := (unhide HY).len; omega)
    clear hg1 hg2
    go_enter Try.func16, Try.ntmps16
    go_wp2_with fail
    refine (pair_any g g' a a' n m c c' xs ys _ ((unhide HX).later (unhide B3)).sl ((unhide HY).later (unhide B3)).sl (unhide HX).len (unhide HY).len (Nat.le_trans (unhide HX).cap (unhide HX).top) (Nat.le_trans (unhide HY).cap (unhide HY).top)).mono ?_
    rintro e w1 ⟨rfl, hb1⟩
    rw [hP]
    have x0 : w1.cell? ⟨w.heap.size, 0, none⟩ = some (.bool g) := cell_later hb1 (by simp [go_sem])
    have x1 : w1.cell? ⟨w.heap.size, 1, none⟩ = some (.slice a n c) := cell_later hb1 (by simp [go_sem])
    have y0 : w1.cell? ⟨w.heap.size + 1, 0, none⟩ = some (.bool g') := cell_later hb1 (by simp [go_sem])
    have y1 : w1.cell? ⟨w.heap.size + 1, 1, none⟩ = some (.slice a' m c') := cell_later hb1 (by simp [go_sem])
    have r0 : w1.cell? ⟨w.heap.size + 1 + 1, 0, none⟩ = some (.bool false) := cell_later hb1 (by simp [go_sem])
    have r1 : w1.cell? ⟨w.heap.size + 1 + 1, 1, none⟩ = some (.slice none 0 0) := cell_later hb1 (by simp [go_sem])
    have f0 : ∀ o, w1.frozen? ⟨w.heap.size + 1 + 1, o, none⟩ = false := fun o => frozen_later hb1 (by simp) (by simp [go_sem])
    have s1 : w.heap.size + 1 + 1 + 1 ≤ w1.heap.size := by have := hb1.size; simp at this; omega
    have HB := hide ((unhide B3).trans (hb1.mono (by simp <;> omega)))
    clear hb1 hP
    go_wp2_with fail
    refine (mulSgI_any g g' a a' n m c c' xs ys w1 ((unhide NX).later (unhide HB)) ((unhide NY).later (unhide HB)) (unhide NL) (unhide ML)).mono ?_
    rintro e w2 ⟨a2, n2, c2, zs, rfl, hb2, ho2, ha2, hn2⟩
    replace r0 := cell_later hb2 r0
    replace r1 := cell_later hb2 r1
    replace f0 : ∀ o, w2.frozen? ⟨w.heap.size + 1 + 1, o, none⟩ = false := fun o => frozen_later hb2 (by omega) (f0 o)
    replace HB := hide (below_on (unhide HB) hb2)
    have s2 : w.heap.size + 1 + 1 + 1 ≤ w2.heap.size := Nat.le_trans s1 hb2.size
    have HF := hide (fitI_any (sv g xs * sv g' ys) a2 n2 c2 zs w2 (w.heap.size + 1 + 1 + 1) (ho2.mono s1) ha2 hn2)
    clear x0 x1 y0 y1 hb2 ho2 ha2 hn2 s1
    go_wp2_with fail
    refine (unhide HF).mono ?_
    rintro e w3 ⟨gr, a3, n3, c3, ts, ok, rfl, hb3, ho3, ha3, hans⟩
    replace r0 := cell_later hb3 r0
    replace r1 := cell_later hb3 r1
    replace f0 : ∀ o, w3.frozen? ⟨w.heap.size + 1 + 1, o, none⟩ = false := fun o => frozen_later hb3 (by omega) (f0 o)
    replace HB := hide (below_on (unhide HB) hb3)
    have HO := hide ho3
    have HA := hide ha3
    have HS := hide hans
    clear hb3 ho3 ha3 hans s2 HF
    go_wp2
    exact bodyPost_ret (v := .tuple #[.agg #[.bool gr, .slice a3 n3 c3], .bool ok]) (by simp [results, Try.results16, go_sem, r0, r1]) rfl (outA_of (s := w.heap.size + 1 + 1) (by omega) (unhide HB) (unhide HO) (unhide HA) (unhide HS) _ _)

set_option maxHeartbeats 4000000 in
theorem MulS_any (g g' : Bool) (a a' : Option Addr) (n m c c' : Nat) (xs ys : List Int) (w : World) (hx : Arg w a n c xs) (hy : Arg w a' m c' ys) :
    Calls Try.prog 17 #[.agg #[.bool g, .slice a n c], .agg #[.bool g', .slice a' m c']] w (OutA w (goodB g xs && goodB g' ys) (sv g xs * sv g' ys)) := by
  have HX := hide hx
  have HY := hide hy
  clear hx hy
  have B3 := hide (below_three w (.cells #[.bool g, .slice a n c] 25) (.cells #[.bool g', .slice a' m c'] 25) (.cells #[.bool false, .slice none 0 0] 25))
  have mx := hide (Nat.le_trans (unhide HX).cap (unhide HX).top)
  have my := hide (Nat.le_trans (unhide HY).cap (unhide HY).top)
  cases hg1 : goodB g xs
  · rw [Bool.false_and]
    go_enter Try.func17, Try.ntmps17
    go_wp2_with fail
    refine (goodS_any g a n c xs _ ((unhide HX).later (unhide B3)).sl (unhide HX).len (unhide mx)).mono ?_
    rintro e w1 ⟨rfl, hb1⟩
    have r0 : w1.cell? ⟨w.heap.size + 1 + 1, 0, none⟩ = some (.bool false) := cell_later hb1 (by simp [go_sem])
    have r1 : w1.cell? ⟨w.heap.size + 1 + 1, 1, none⟩ = some (.slice none 0 0) := cell_later hb1 (by simp [go_sem])
    have f0 : ∀ o, w1.frozen? ⟨w.heap.size + 1 + 1, o, none⟩ = false := fun o => frozen_later hb1 (by simp) (by simp [go_sem])
    have HB := hide ((unhide B3).trans (hb1.mono (by simp <;> omega)))
    clear hb1
    go_wp2
    exact bodyPost_ret (v := .tuple #[.agg #[.bool false, .slice none 0 0], .bool false]) (by simp [results, Try.results17, go_sem, r0, r1]) rfl (outA_no (s := w.heap.size + 1 + 1) (by omega) (unhide HB) _ _)
  · rw [Bool.true_and]
    have NX := hide (num_of_good (unhide HX) hg1)
    cases hg2 : goodB g' ys
    · go_enter Try.func17, Try.ntmps17
      go_wp2_with fail
      refine (goodS_any g a n c xs _ ((unhide HX).later (unhide B3)).sl (unhide HX).len (unhide mx)).mono ?_
      rintro e w1 ⟨rfl, hb1⟩
      have y0 : w1.cell? ⟨w.heap.size + 1, 0, none⟩ = some (.bool g') := cell_later hb1 (by simp [go_sem])
      have y1 : w1.cell? ⟨w.heap.size + 1, 1, none⟩ = some (.slice a' m c') := cell_later hb1 (by simp [go_sem])
      have r0 : w1.cell? ⟨w.heap.size + 1 + 1, 0, none⟩ = some (.bool false) := cell_later hb1 (by simp [go_sem])
      have r1 : w1.cell? ⟨w.heap.size + 1 + 1, 1, none⟩ = some (.slice none 0 0) := cell_later hb1 (by simp [go_sem])
      have f0 : ∀ o, w1.frozen? ⟨w.heap.size + 1 + 1, o, none⟩ = false := fun o => frozen_later hb1 (by simp) (by simp [go_sem])
      have s1 : w.heap.size + 1 + 1 + 1 ≤ w1.heap.size := by have := hb1.size; simp at this; omega
      have HB := hide ((unhide B3).trans (hb1.mono (by simp <;> omega)))
      clear hb1
      go_wp2_with fail
      refine (goodS_any g' a' m c' ys _ ((unhide HY).later (unhide HB)).sl (unhide HY).len (unhide my)).mono ?_
      rintro e w2 ⟨rfl, hb2⟩
      replace r0 := cell_later hb2 r0
      replace r1 := cell_later hb2 r1
      replace f0 : ∀ o, w2.frozen? ⟨w.heap.size + 1 + 1, o, none⟩ = false := fun o => frozen_later hb2 (by omega) (f0 o)
      replace HB := hide (below_on (unhide HB) hb2)
      clear hb2
      go_wp2
      exact bodyPost_ret (v := .tuple #[.agg #[.bool false, .slice none 0 0], .bool false]) (by simp [results, Try.results17, go_sem, r0, r1]) rfl (outA_no (s := w.heap.size + 1 + 1) (by omega) (unhide HB) _ _)
    · have NY := hide (num_of_good (unhide HY) hg2)
      have NL : Hid (n ≤ 500000) := hide (by have := (good_parts hg1).2.2.1; have := (unhide HX).len; omega)
      have ML : Hid (m ≤ 500000) := hide (by have := (good_parts hg2).2.2.1; have := (unhide HY).len; omega)
      go_enter Try.func17, Try.ntmps17
      go_wp2_with fail
      refine (goodS_any g a n c xs _ ((unhide HX).later (unhide B3)).sl (unhide HX).len (unhide mx)).mono ?_
      rintro e w1 ⟨rfl, hb1⟩
      have x0 : w1.cell? ⟨w.heap.size, 0, none⟩ = some (.bool g) := cell_later hb1 (by simp [go_sem])
      have x1 : w1.cell? ⟨w.heap.size, 1, none⟩ = some (.slice a n c) := cell_later hb1 (by simp [go_sem])
      have y0 : w1.cell? ⟨w.heap.size + 1, 0, none⟩ = some (.bool g') := cell_later hb1 (by simp [go_sem])
      have y1 : w1.cell? ⟨w.heap.size + 1, 1, none⟩ = some (.slice a' m c') := cell_later hb1 (by simp [go_sem])
      have r0 : w1.cell? ⟨w.heap.size + 1 + 1, 0, none⟩ = some (.bool false) := cell_later hb1 (by simp [go_sem])
      have r1 : w1.cell? ⟨w.heap.size + 1 + 1, 1, none⟩ = some (.slice none 0 0) := cell_later hb1 (by simp [go_sem])
      have f0 : ∀ o, w1.frozen? ⟨w.heap.size + 1 + 1, o, none⟩ = false := fun o => frozen_later hb1 (by simp) (by simp [go_sem])
      have s1 : w.heap.size + 1 + 1 + 1 ≤ w1.heap.size := by have := hb1.size; simp at this; omega
      have HB := hide ((unhide B3).trans (hb1.mono (by simp <;> omega)))
      clear hb1
      go_wp2_with fail
      refine (goodS_any g' a' m c' ys _ ((unhide HY).later (unhide HB)).sl (unhide HY).len (unhide my)).mono ?_
      rintro e w2 ⟨rfl, hb2⟩
      replace x0 := cell_later hb2 x0
      replace x1 := cell_later hb2 x1
      replace y0 := cell_later hb2 y0
      replace y1 := cell_later hb2 y1
      replace r0 := cell_later hb2 r0
      replace r1 := cell_later hb2 r1
      replace f0 : ∀ o, w2.frozen? ⟨w.heap.size + 1 + 1, o, none⟩ = false := fun o => frozen_later hb2 (by omega) (f0 o)
      replace HB := hide (below_on (unhide HB) hb2)
      have s2 : w.heap.size + 1 + 1 + 1 ≤ w2.heap.size := Nat.le_trans s1 hb2.size
      clear hb2 s1
      go_wp2_with fail
      refine (mulSgS_any g g' a a' n m c c' xs ys w2 ((unhide NX).later (unhide HB)) ((unhide NY).later (unhide HB)) (unhide NL) (unhide ML)).mono ?_
      rintro e w3 ⟨a2, n2, c2, zs, rfl, hb3, ho2, ha2, hn2⟩
      replace r0 := cell_later hb3 r0
      replace r1 := cell_later hb3 r1
      replace f0 : ∀ o, w3.frozen? ⟨w.heap.size + 1 + 1, o, none⟩ = false := fun o => frozen_later hb3 (by omega) (f0 o)
      replace HB := hide (below_on (unhide HB) hb3)
      have s3 : w.heap.size + 1 + 1 + 1 ≤ w3.heap.size := Nat.le_trans s2 hb3.size
      have HF := hide (fitS_any (sv g xs * sv g' ys) a2 n2 c2 zs w3 (w.heap.size + 1 + 1 + 1) (ho2.mono s2) ha2 hn2)
      clear x0 x1 y0 y1 hb3 ho2 ha2 hn2 s2
      go_wp2_with fail
      refine (unhide HF).mono ?_
      rintro e w4 ⟨gr, a3, n3, c3, ts, ok, rfl, hb4, ho3, ha3, hans⟩
      replace r0 := cell_later hb4 r0
      replace r1 := cell_later hb4 r1
      replace f0 : ∀ o, w4.frozen? ⟨w.heap.size + 1 + 1, o, none⟩ = false := fun o => frozen_later hb4 (by omega) (f0 o)
      replace HB := hide (below_on (unhide HB) hb4)
      have HO := hide ho3
      have HA := hide ha3
      have HS := hide hans
      clear hb4 ho3 ha3 hans s3 HF
      go_wp2
      exact bodyPost_ret (v := .tuple #[.agg #[.bool gr, .slice a3 n3 c3], .bool ok]) (by simp [results, Try.results17, go_sem, r0, r1]) rfl (outA_of (s := w.heap.size + 1 + 1) (by omega) (unhide HB) (unhide HO) (unhide HA) (unhide HS) _ _)

end Go.Proofs.Ytidhncaeknipoaa
