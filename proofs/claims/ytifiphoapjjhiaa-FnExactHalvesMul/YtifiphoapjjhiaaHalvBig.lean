/- HalvesMul: the program's and the specification's, at every two numbers: they answer the product, where both are good and it fits. No condition beyond those typed. Written by mkhalvb.py. -/
import Derived.Test.YtifiphoapjjhiaaHalvS
import Derived.Test.YtifiphoapjjhiaaMulBig
namespace Go.Proofs.Ytifiphoapjjhiaa
open Go.RowKit
set_option linter.unusedVariables false
set_option linter.unusedSimpArgs false

theorem mul_len2 {w : World} {zs xs ys : List Int} {a a' : Option Addr} {n m c c' : Nat} (h : Nm zs (val xs * val ys)) (hx : Num w a n c xs) (hy : Num w a' m c' ys) (hn : n ≤ 200000) (hm : m ≤ 200000) : zs.length ≤ 1048576 := mul_len h hx hy (by omega) (by omega)
theorem halvI_any (a a' : Option Addr) (n m c c' : Nat) (xs ys : List Int) (w : World) (hx : Arg w a n c xs) (hy : Arg w a' m c' ys) (ox : okL xs) (oy : okL ys) (tx : trim xs = xs) (ty : trim ys = ys) (h1 : n ≤ 200000) (h2 : m ≤ 200000) :
    Calls Try.prog 53 #[.slice a n c, .slice a' m c'] w (Out w (val xs * val ys)) :=
  halvesI (val xs + val ys).toNat a a' n m c c' xs ys _ _ w ⟨hx, ox, tx, rfl⟩ ⟨hy, oy, ty, rfl⟩ (by have := val_nonneg ox; have := val_nonneg oy; omega) h1 h2
theorem halvS_any (a a' : Option Addr) (n m c c' : Nat) (xs ys : List Int) (w : World) (hx : Arg w a n c xs) (hy : Arg w a' m c' ys) (ox : okL xs) (oy : okL ys) (tx : trim xs = xs) (ty : trim ys = ys) (h1 : n ≤ 200000) (h2 : m ≤ 200000) :
    Calls Try.prog 55 #[.slice a n c, .slice a' m c'] w (Out w (val xs * val ys)) :=
  halvesS (val xs + val ys).toNat a a' n m c c' xs ys _ _ w ⟨hx, ox, tx, rfl⟩ ⟨hy, oy, ty, rfl⟩ (by have := val_nonneg ox; have := val_nonneg oy; omega) h1 h2
theorem fitMS (g : Bool) (U : Int) (a : Option Addr) (n c : Nat) (zs : List Int) (w : World) (base : Nat) (ho : Own base w a zs) (ha : Arg w a n c zs) (hn : Nm zs U) (V : Int) (hV : V = if g then -U else U) :
    Calls Try.prog 51 #[.agg #[.bool (sd g U), .slice a n c]] w fun e w' => ∃ gr a2 n2 c2 ts ok, e = .returned (.tuple #[.agg #[.bool gr, .slice a2 n2 c2], .bool ok]) ∧ Below w.heap.size w w' ∧ Own base w' a2 ts ∧ Arg w' a2 n2 c2 ts ∧ Ans true V gr ts ok := by
  have e : sd g U = decide (V < 0) := by rw [hV]; rfl
  rw [e]
  exact fitS_any V a n c zs w base ho ha (by rw [natAbs_sign hn.nonneg hV]; exact hn)

set_option maxHeartbeats 4000000 in
theorem HalvesI_any (g g' : Bool) (a a' : Option Addr) (n m c c' : Nat) (xs ys : List Int) (w : World) (hx : Arg w a n c xs) (hy : Arg w a' m c' ys) :
    Calls Try.prog 18 #[.agg #[.bool g, .slice a n c], .agg #[.bool g', .slice a' m c']] w (OutA w (goodB g xs && goodB g' ys) (sv g xs * sv g' ys)) := by
  have HX := hide hx
  have HY := hide hy
  clear hx hy
  have B3 := hide (below_three w (.cells #[.bool g, .slice a n c] 25) (.cells #[.bool g', .slice a' m c'] 25) (.cells #[.bool false, .slice none 0 0] 25))
  cases hP : (goodB g xs && goodB g' ys)
  · go_enter Try.func18, Try.ntmps18
    go_wp2_with fail
    refine (pair_any g g' a a' n m c c' xs ys _ ((unhide HX).later (unhide B3)).sl ((unhide HY).later (unhide B3)).sl (unhide HX).len (unhide HY).len (Nat.le_trans (unhide HX).cap (unhide HX).top) (Nat.le_trans (unhide HY).cap (unhide HY).top)).mono ?_
    rintro e w1 ⟨rfl, hb1⟩
    rw [hP]
    have r0 : w1.cell? ⟨w.heap.size + 1 + 1, 0, none⟩ = some (.bool false) := cell_later hb1 (by simp [go_sem])
    have r1 : w1.cell? ⟨w.heap.size + 1 + 1, 1, none⟩ = some (.slice none 0 0) := cell_later hb1 (by simp [go_sem])
    have f0 : ∀ o, w1.frozen? ⟨w.heap.size + 1 + 1, o, none⟩ = false := fun o => frozen_later hb1 (by simp) (by simp [go_sem])
    have HB := hide ((unhide B3).trans (hb1.mono (by simp <;> omega)))
    clear hb1 hP
    go_wp2
    exact bodyPost_ret (v := .tuple #[.agg #[.bool false, .slice none 0 0], .bool false]) (by simp [results, Try.results18, go_sem, r0, r1]) rfl (outA_no (s := w.heap.size + 1 + 1) (by omega) (unhide HB) _ _)
  · have hg1 : goodB g xs = true := by revert hP; cases goodB g xs <;> simp
    have hg2 : goodB g' ys = true := by revert hP; cases goodB g' ys <;> simp
    have NX := hide (num_of_good (unhide HX) hg1)
    have NY := hide (num_of_good (unhide HY) hg2)
    have NL : Hid (n ≤ 200000) := hide (by have := (good_parts hg1).2.2.1; have := (unhide HX).len; omega)
    have ML : Hid (m ≤ 200000) := hide (by have := (good_parts hg2).2.2.1; have := (unhide HY).len; omega)
    have HVS := hide (sv_mul g g' xs ys)
    clear hg1 hg2
    go_enter Try.func18, Try.ntmps18
    go_wp2_with fail
    refine (pair_any g g' a a' n m c c' xs ys _ ((unhide HX).later (unhide B3)).sl ((unhide HY).later (unhide B3)).sl (unhide HX).len (unhide HY).len (Nat.le_trans (unhide HX).cap (unhide HX).top) (Nat.le_trans (unhide HY).cap (unhide HY).top)).mono ?_
    rintro e wA ⟨rfl, hb1⟩
    rw [hP]
    have kA0 : wA.cell? ⟨w.heap.size, 0, none⟩ = some (.bool g) := cell_later hb1 (by simp [go_sem])
    have kA1 : wA.cell? ⟨w.heap.size, 1, none⟩ = some (.slice a n c) := cell_later hb1 (by simp [go_sem])
    have kA2 : wA.cell? ⟨w.heap.size + 1, 0, none⟩ = some (.bool g') := cell_later hb1 (by simp [go_sem])
    have kA3 : wA.cell? ⟨w.heap.size + 1, 1, none⟩ = some (.slice a' m c') := cell_later hb1 (by simp [go_sem])
    have rA0 : wA.cell? ⟨w.heap.size + 1 + 1, 0, none⟩ = some (.bool false) := cell_later hb1 (by simp [go_sem])
    have rA1 : wA.cell? ⟨w.heap.size + 1 + 1, 1, none⟩ = some (.slice none 0 0) := cell_later hb1 (by simp [go_sem])
    have fA : ∀ o, wA.frozen? ⟨w.heap.size + 1 + 1, o, none⟩ = false := fun o => frozen_later hb1 (by simp) (by simp [go_sem])
    have sA : w.heap.size + 1 + 1 + 1 ≤ wA.heap.size := by have := hb1.size; simp at this; omega
    have BA := hide ((unhide B3).trans (hb1.mono (by simp <;> omega)))
    clear hb1 hP B3
    go_upto_region 3 with fail
    go_region_held3 (fun w' => w'.cell? ⟨w.heap.size, 0, none⟩ = some (.bool g) ∧ w'.cell? ⟨w.heap.size, 1, none⟩ = some (.slice a n c) ∧ w'.cell? ⟨w.heap.size + 1, 0, none⟩ = some (.bool g') ∧ w'.cell? ⟨w.heap.size + 1, 1, none⟩ = some (.slice a' m c')) (first | (refine ⟨?_, ?_, ?_, ?_⟩ <;> assumption) | (refine ⟨cs_other (cs_other ?_ ?_) ?_, cs_other (cs_other ?_ ?_) ?_, cs_other (cs_other ?_ ?_) ?_, cs_other (cs_other ?_ ?_) ?_⟩ <;> first | assumption | omega))
      (first
      | (go_at_call 53; refine (halvI_any a a' n m c c' xs ys _ ?_ ?_ (unhide NX).ok (unhide NY).ok (unhide NX).tr (unhide NY).tr ?_ ?_).mono ?_; exact ((unhide NX).arg.later (unhide BA)).drew; exact ((unhide NY).arg.later (unhide BA)).drew; exact unhide NL; exact unhide ML; rintro e w3 ⟨a1, n1, c1, zs, rfl, hb3', ho3, ha3, hn3⟩; have hb3 := below_of_drew hb3'; have k30 : w3.cell? ⟨w.heap.size, 0, none⟩ = some (.bool g) := cell_later hb3 kA0; have k31 : w3.cell? ⟨w.heap.size, 1, none⟩ = some (.slice a n c) := cell_later hb3 kA1; have k32 : w3.cell? ⟨w.heap.size + 1, 0, none⟩ = some (.bool g') := cell_later hb3 kA2; have k33 : w3.cell? ⟨w.heap.size + 1, 1, none⟩ = some (.slice a' m c') := cell_later hb3 kA3; have r30 : w3.cell? ⟨w.heap.size + 1 + 1, 0, none⟩ = some (.bool false) := cell_later hb3 rA0; have r31 : w3.cell? ⟨w.heap.size + 1 + 1, 1, none⟩ = some (.slice none 0 0) := cell_later hb3 rA1; have f3 : ∀ o, w3.frozen? ⟨w.heap.size + 1 + 1, o, none⟩ = false := fun o => frozen_later hb3 (Nat.lt_of_lt_of_le (by omega) sA) (fA o); have s3 := Nat.le_trans sA hb3.size; have B3 := hide (below_on (unhide BA) hb3); have L3 : Hid (n1 ≤ 1048576) := hide (by rw [← ha3.len]; exact mul_len2 hn3 (unhide NX) (unhide NY) (unhide NL) (unhide ML)); have O3 := hide (ho3.mono (base' := w.heap.size + 1 + 1 + 1) sA); clear hb3' hb3 ho3)
      | (go_at_call 49; refine (signI_out _ a1 n1 c1 zs _ (w.heap.size + 1 + 1 + 1) (val xs * val ys) ha3 (unhide O3) hn3.ok hn3.v ?_ (unhide L3)).mono ?_; (exact s3); rintro e w4 ⟨a2, n2, c2, ts, rfl, hb4, ho4, ha4, hn4⟩; have k40 : w4.cell? ⟨w.heap.size, 0, none⟩ = some (.bool g) := cell_later hb4 k30; have k41 : w4.cell? ⟨w.heap.size, 1, none⟩ = some (.slice a n c) := cell_later hb4 k31; have k42 : w4.cell? ⟨w.heap.size + 1, 0, none⟩ = some (.bool g') := cell_later hb4 k32; have k43 : w4.cell? ⟨w.heap.size + 1, 1, none⟩ = some (.slice a' m c') := cell_later hb4 k33; have r40 : w4.cell? ⟨w.heap.size + 1 + 1, 0, none⟩ = some (.bool false) := cell_later hb4 r30; have r41 : w4.cell? ⟨w.heap.size + 1 + 1, 1, none⟩ = some (.slice none 0 0) := cell_later hb4 r31; have f4 : ∀ o, w4.frozen? ⟨w.heap.size + 1 + 1, o, none⟩ = false := fun o => frozen_later hb4 (Nat.lt_of_lt_of_le (by omega) s3) (f3 o); have s4 := Nat.le_trans s3 hb4.size; have B4 := hide (below_on (unhide B3) hb4); have HO4 := hide ho4; have HA4 := hide ha4; have HN4 := hide hn4; clear hb4 ho4 ha4 hn4)
      | (go_at_call 48; refine (fitM _ _ a2 n2 c2 ts _ (w.heap.size + 1 + 1 + 1) (unhide HO4) (unhide HA4) (unhide HN4) (sv g xs * sv g' ys) ?_).mono ?_; exact unhide HVS; rintro e w5 ⟨gr, a3, n3, c3, us, ok, rfl, hb5, ho5, ha5, hans⟩; have k50 : w5.cell? ⟨w.heap.size, 0, none⟩ = some (.bool g) := cell_later hb5 k40; have k51 : w5.cell? ⟨w.heap.size, 1, none⟩ = some (.slice a n c) := cell_later hb5 k41; have k52 : w5.cell? ⟨w.heap.size + 1, 0, none⟩ = some (.bool g') := cell_later hb5 k42; have k53 : w5.cell? ⟨w.heap.size + 1, 1, none⟩ = some (.slice a' m c') := cell_later hb5 k43; have r50 : w5.cell? ⟨w.heap.size + 1 + 1, 0, none⟩ = some (.bool false) := cell_later hb5 r40; have r51 : w5.cell? ⟨w.heap.size + 1 + 1, 1, none⟩ = some (.slice none 0 0) := cell_later hb5 r41; have f5 : ∀ o, w5.frozen? ⟨w.heap.size + 1 + 1, o, none⟩ = false := fun o => frozen_later hb5 (Nat.lt_of_lt_of_le (by omega) s4) (f4 o); have B5 := hide (below_on (unhide B4) hb5); have HO5 := hide ho5; have HA5 := hide ha5; have HS5 := hide hans; clear hb5 ho5 ha5 hans))
    go_wp2
    exact bodyPost_ret (v := .tuple #[.agg #[.bool gr, .slice a3 n3 c3], .bool ok]) (by simp [results, Try.results18, go_sem, r50, r51]) rfl (outA_of (s := w.heap.size + 1 + 1) (by omega) (unhide B5) (unhide HO5) (unhide HA5) (unhide HS5) _ _)

set_option maxHeartbeats 4000000 in
theorem HalvesS_any (g g' : Bool) (a a' : Option Addr) (n m c c' : Nat) (xs ys : List Int) (w : World) (hx : Arg w a n c xs) (hy : Arg w a' m c' ys) :
    Calls Try.prog 19 #[.agg #[.bool g, .slice a n c], .agg #[.bool g', .slice a' m c']] w (OutA w (goodB g xs && goodB g' ys) (sv g xs * sv g' ys)) := by
  have HX := hide hx
  have HY := hide hy
  clear hx hy
  have B3 := hide (below_three w (.cells #[.bool g, .slice a n c] 25) (.cells #[.bool g', .slice a' m c'] 25) (.cells #[.bool false, .slice none 0 0] 25))
  have mx := hide (Nat.le_trans (unhide HX).cap (unhide HX).top)
  have my := hide (Nat.le_trans (unhide HY).cap (unhide HY).top)
  cases hg1 : goodB g xs
  · rw [Bool.false_and]
    go_enter Try.func19, Try.ntmps19
    go_wp2_with fail
    refine (goodS_any g a n c xs _ ((unhide HX).later (unhide B3)).sl (unhide HX).len (unhide mx)).mono ?_
    rintro e w1 ⟨rfl, hb1⟩
    have r0 : w1.cell? ⟨w.heap.size + 1 + 1, 0, none⟩ = some (.bool false) := cell_later hb1 (by simp [go_sem])
    have r1 : w1.cell? ⟨w.heap.size + 1 + 1, 1, none⟩ = some (.slice none 0 0) := cell_later hb1 (by simp [go_sem])
    have f0 : ∀ o, w1.frozen? ⟨w.heap.size + 1 + 1, o, none⟩ = false := fun o => frozen_later hb1 (by simp) (by simp [go_sem])
    have HB := hide ((unhide B3).trans (hb1.mono (by simp <;> omega)))
    clear hb1
    go_wp2
    exact bodyPost_ret (v := .tuple #[.agg #[.bool false, .slice none 0 0], .bool false]) (by simp [results, Try.results19, go_sem, r0, r1]) rfl (outA_no (s := w.heap.size + 1 + 1) (by omega) (unhide HB) _ _)
  · rw [Bool.true_and]
    have NX := hide (num_of_good (unhide HX) hg1)
    cases hg2 : goodB g' ys
    · go_enter Try.func19, Try.ntmps19
      go_wp2_with fail
      refine (goodS_any g a n c xs _ ((unhide HX).later (unhide B3)).sl (unhide HX).len (unhide mx)).mono ?_
      rintro e w1 ⟨rfl, hb1⟩
      have y0 : w1.cell? ⟨w.heap.size + 1, 0, none⟩ = some (.bool g') := cell_later hb1 (by simp [go_sem])
      have y1 : w1.cell? ⟨w.heap.size + 1, 1, none⟩ = some (.slice a' m c') := cell_later hb1 (by simp [go_sem])
      have r0 : w1.cell? ⟨w.heap.size + 1 + 1, 0, none⟩ = some (.bool false) := cell_later hb1 (by simp [go_sem])
      have r1 : w1.cell? ⟨w.heap.size + 1 + 1, 1, none⟩ = some (.slice none 0 0) := cell_later hb1 (by simp [go_sem])
      have f0 : ∀ o, w1.frozen? ⟨w.heap.size + 1 + 1, o, none⟩ = false := fun o => frozen_later hb1 (by simp) (by simp [go_sem])
      have s1 : w.heap.size + 1 + 1 + 1 ≤ w1.heap.size := by have := hb1.size; simp at this; omega
      have HB := hide ((unhide B3).trans (hb1.mono (by simp <;> omega)))
      clear hb1
      go_wp2_with fail
      refine (goodS_any g' a' m c' ys _ ((unhide HY).later (unhide HB)).sl (unhide HY).len (unhide my)).mono ?_
      rintro e w2 ⟨rfl, hb2⟩
      replace r0 := cell_later hb2 r0
      replace r1 := cell_later hb2 r1
      replace f0 : ∀ o, w2.frozen? ⟨w.heap.size + 1 + 1, o, none⟩ = false := fun o => frozen_later hb2 (by omega) (f0 o)
      replace HB := hide (below_on (unhide HB) hb2)
      clear hb2
      go_wp2
      exact bodyPost_ret (v := .tuple #[.agg #[.bool false, .slice none 0 0], .bool false]) (by simp [results, Try.results19, go_sem, r0, r1]) rfl (outA_no (s := w.heap.size + 1 + 1) (by omega) (unhide HB) _ _)
    · have NY := hide (num_of_good (unhide HY) hg2)
      have HVS := hide (sv_mul g g' xs ys)
      have NL : Hid (n ≤ 200000) := hide (by have := (good_parts hg1).2.2.1; have := (unhide HX).len; omega)
      have ML : Hid (m ≤ 200000) := hide (by have := (good_parts hg2).2.2.1; have := (unhide HY).len; omega)
      go_enter Try.func19, Try.ntmps19
      go_wp2_with fail
      refine (goodS_any g a n c xs _ ((unhide HX).later (unhide B3)).sl (unhide HX).len (unhide mx)).mono ?_
      rintro e w1 ⟨rfl, hb1⟩
      have x0 : w1.cell? ⟨w.heap.size, 0, none⟩ = some (.bool g) := cell_later hb1 (by simp [go_sem])
      have x1 : w1.cell? ⟨w.heap.size, 1, none⟩ = some (.slice a n c) := cell_later hb1 (by simp [go_sem])
      have y0 : w1.cell? ⟨w.heap.size + 1, 0, none⟩ = some (.bool g') := cell_later hb1 (by simp [go_sem])
      have y1 : w1.cell? ⟨w.heap.size + 1, 1, none⟩ = some (.slice a' m c') := cell_later hb1 (by simp [go_sem])
      have r0 : w1.cell? ⟨w.heap.size + 1 + 1, 0, none⟩ = some (.bool false) := cell_later hb1 (by simp [go_sem])
      have r1 : w1.cell? ⟨w.heap.size + 1 + 1, 1, none⟩ = some (.slice none 0 0) := cell_later hb1 (by simp [go_sem])
      have f0 : ∀ o, w1.frozen? ⟨w.heap.size + 1 + 1, o, none⟩ = false := fun o => frozen_later hb1 (by simp) (by simp [go_sem])
      have s1 : w.heap.size + 1 + 1 + 1 ≤ w1.heap.size := by have := hb1.size; simp at this; omega
      have HB := hide ((unhide B3).trans (hb1.mono (by simp <;> omega)))
      clear hb1
      go_wp2_with fail
      refine (goodS_any g' a' m c' ys _ ((unhide HY).later (unhide HB)).sl (unhide HY).len (unhide my)).mono ?_
      rintro e w2 ⟨rfl, hb2⟩
      replace x0 := cell_later hb2 x0
      replace x1 := cell_later hb2 x1
      replace y0 := cell_later hb2 y0
      replace y1 := cell_later hb2 y1
      replace r0 := cell_later hb2 r0
      replace r1 := cell_later hb2 r1
      replace f0 : ∀ o, w2.frozen? ⟨w.heap.size + 1 + 1, o, none⟩ = false := fun o => frozen_later hb2 (by omega) (f0 o)
      replace HB := hide (below_on (unhide HB) hb2)
      have s2 : w.heap.size + 1 + 1 + 1 ≤ w2.heap.size := Nat.le_trans s1 hb2.size
      clear hb2 s1
      go_upto_region 3 with fail
      go_region_held3 (fun w' => w'.cell? ⟨w.heap.size, 0, none⟩ = some (.bool g) ∧ w'.cell? ⟨w.heap.size, 1, none⟩ = some (.slice a n c) ∧ w'.cell? ⟨w.heap.size + 1, 0, none⟩ = some (.bool g') ∧ w'.cell? ⟨w.heap.size + 1, 1, none⟩ = some (.slice a' m c')) (first | (refine ⟨?_, ?_, ?_, ?_⟩ <;> assumption) | (refine ⟨cs_other (cs_other ?_ ?_) ?_, cs_other (cs_other ?_ ?_) ?_, cs_other (cs_other ?_ ?_) ?_, cs_other (cs_other ?_ ?_) ?_⟩ <;> first | assumption | omega))
        (first
        | (go_at_call 55; refine (halvS_any a a' n m c c' xs ys _ ?_ ?_ (unhide NX).ok (unhide NY).ok (unhide NX).tr (unhide NY).tr ?_ ?_).mono ?_; exact ((unhide NX).arg.later (unhide HB)).drew; exact ((unhide NY).arg.later (unhide HB)).drew; exact unhide NL; exact unhide ML; rintro e w3 ⟨a1, n1, c1, zs, rfl, hb3', ho3, ha3, hn3⟩; have hb3 := below_of_drew hb3'; have k30 : w3.cell? ⟨w.heap.size, 0, none⟩ = some (.bool g) := cell_later hb3 x0; have k31 : w3.cell? ⟨w.heap.size, 1, none⟩ = some (.slice a n c) := cell_later hb3 x1; have k32 : w3.cell? ⟨w.heap.size + 1, 0, none⟩ = some (.bool g') := cell_later hb3 y0; have k33 : w3.cell? ⟨w.heap.size + 1, 1, none⟩ = some (.slice a' m c') := cell_later hb3 y1; have r30 : w3.cell? ⟨w.heap.size + 1 + 1, 0, none⟩ = some (.bool false) := cell_later hb3 r0; have r31 : w3.cell? ⟨w.heap.size + 1 + 1, 1, none⟩ = some (.slice none 0 0) := cell_later hb3 r1; have f3 : ∀ o, w3.frozen? ⟨w.heap.size + 1 + 1, o, none⟩ = false := fun o => frozen_later hb3 (Nat.lt_of_lt_of_le (by omega) s2) (f0 o); have s3 := Nat.le_trans s2 hb3.size; have B3 := hide (below_on (unhide HB) hb3); have L3 : Hid (n1 ≤ 1048576) := hide (by rw [← ha3.len]; exact mul_len2 hn3 (unhide NX) (unhide NY) (unhide NL) (unhide ML)); have O3 := hide (ho3.mono (base' := w.heap.size + 1 + 1 + 1) s2); clear hb3' hb3 ho3)
        | (go_at_call 54; refine (signS_out _ a1 n1 c1 zs _ (w.heap.size + 1 + 1 + 1) (val xs * val ys) ha3 (unhide O3) hn3.ok hn3.v ?_ (unhide L3)).mono ?_; (exact s3); rintro e w4 ⟨a2, n2, c2, ts, rfl, hb4, ho4, ha4, hn4⟩; have k40 : w4.cell? ⟨w.heap.size, 0, none⟩ = some (.bool g) := cell_later hb4 k30; have k41 : w4.cell? ⟨w.heap.size, 1, none⟩ = some (.slice a n c) := cell_later hb4 k31; have k42 : w4.cell? ⟨w.heap.size + 1, 0, none⟩ = some (.bool g') := cell_later hb4 k32; have k43 : w4.cell? ⟨w.heap.size + 1, 1, none⟩ = some (.slice a' m c') := cell_later hb4 k33; have r40 : w4.cell? ⟨w.heap.size + 1 + 1, 0, none⟩ = some (.bool false) := cell_later hb4 r30; have r41 : w4.cell? ⟨w.heap.size + 1 + 1, 1, none⟩ = some (.slice none 0 0) := cell_later hb4 r31; have f4 : ∀ o, w4.frozen? ⟨w.heap.size + 1 + 1, o, none⟩ = false := fun o => frozen_later hb4 (Nat.lt_of_lt_of_le (by omega) s3) (f3 o); have s4 := Nat.le_trans s3 hb4.size; have B4 := hide (below_on (unhide B3) hb4); have HO4 := hide ho4; have HA4 := hide ha4; have HN4 := hide hn4; clear hb4 ho4 ha4 hn4)
        | (go_at_call 51; refine (fitMS _ _ a2 n2 c2 ts _ (w.heap.size + 1 + 1 + 1) (unhide HO4) (unhide HA4) (unhide HN4) (sv g xs * sv g' ys) ?_).mono ?_; exact unhide HVS; rintro e w5 ⟨gr, a3, n3, c3, us, ok, rfl, hb5, ho5, ha5, hans⟩; have k50 : w5.cell? ⟨w.heap.size, 0, none⟩ = some (.bool g) := cell_later hb5 k40; have k51 : w5.cell? ⟨w.heap.size, 1, none⟩ = some (.slice a n c) := cell_later hb5 k41; have k52 : w5.cell? ⟨w.heap.size + 1, 0, none⟩ = some (.bool g') := cell_later hb5 k42; have k53 : w5.cell? ⟨w.heap.size + 1, 1, none⟩ = some (.slice a' m c') := cell_later hb5 k43; have r50 : w5.cell? ⟨w.heap.size + 1 + 1, 0, none⟩ = some (.bool false) := cell_later hb5 r40; have r51 : w5.cell? ⟨w.heap.size + 1 + 1, 1, none⟩ = some (.slice none 0 0) := cell_later hb5 r41; have f5 : ∀ o, w5.frozen? ⟨w.heap.size + 1 + 1, o, none⟩ = false := fun o => frozen_later hb5 (Nat.lt_of_lt_of_le (by omega) s4) (f4 o); have B5 := hide (below_on (unhide B4) hb5); have HO5 := hide ho5; have HA5 := hide ha5; have HS5 := hide hans; clear hb5 ho5 ha5 hans))
      go_wp2
      exact bodyPost_ret (v := .tuple #[.agg #[.bool gr, .slice a3 n3 c3], .bool ok]) (by simp [results, Try.results19, go_sem, r50, r51]) rfl (outA_of (s := w.heap.size + 1 + 1) (by omega) (unhide B5) (unhide HO5) (unhide HA5) (unhide HS5) _ _)

end Go.Proofs.Ytifiphoapjjhiaa
