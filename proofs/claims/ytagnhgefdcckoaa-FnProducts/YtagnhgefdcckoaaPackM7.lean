/- Parts of limbs and limbs shifted: the program's partsOf and shiftLimbs. No condition beyond those typed. -/
import Derived.Test.YtagnhgefdcckoaaSgs
import Derived.Test.YtagnhgefdcckoaaMulSg
import Derived.Test.YtagnhgefdcckoaaLaw2
namespace Go.Proofs.Ytagnhgefdcckoaa
open Go.RowKit
set_option linter.unusedVariables false
set_option maxRecDepth 100000
set_option linter.unusedSimpArgs false

set_option maxHeartbeats 1000000 in
theorem fitI_in (g : Bool) (a : Option Addr) (n c : Nat) (w : World) (h : n ≤ 40) :
    Calls Try.prog 46 #[.agg #[.bool g, .slice a n c]] w fun e w' => e = .returned (.tuple #[.agg #[.bool g, .slice a n c], .bool true]) ∧ Below w.heap.size w w' := by
  have h' : ¬ (40 : Int) < (n : Int) := by omega
  go_enter Try.func46, Try.ntmps46
  go_wp2
  exact bodyPost_ret (v := .tuple #[.agg #[.bool g, .slice a n c], .bool true]) (by simp [results, Try.results46, go_sem]) rfl ⟨rfl, below_two _ _ _⟩
set_option maxHeartbeats 1000000 in
theorem fitI_out (g : Bool) (a : Option Addr) (n c : Nat) (w : World) (h : 40 < n) :
    Calls Try.prog 46 #[.agg #[.bool g, .slice a n c]] w fun e w' => e = .returned (.tuple #[.agg #[.bool false, .slice none 0 0], .bool false]) ∧ Below w.heap.size w w' := by
  have h' : (40 : Int) < (n : Int) := by omega
  go_enter Try.func46, Try.ntmps46
  go_wp2
  exact bodyPost_ret (v := .tuple #[.agg #[.bool false, .slice none 0 0], .bool false]) (by simp [results, Try.results46, go_sem]) rfl ⟨rfl, below_two _ _ _⟩
/-- What a call answers that tells V, where it fits. -/
theorem fitI_any (V : Int) (a : Option Addr) (n c : Nat) (zs : List Int) (w : World) (base : Nat) (ho : Own base w a zs) (ha : Arg w a n c zs) (hn : Nm zs V.natAbs) :
    Calls Try.prog 46 #[.agg #[.bool (decide (V < 0)), .slice a n c]] w fun e w' => ∃ gr a2 n2 c2 ts ok, e = .returned (.tuple #[.agg #[.bool gr, .slice a2 n2 c2], .bool ok]) ∧ Below w.heap.size w w' ∧ Own base w' a2 ts ∧ Arg w' a2 n2 c2 ts ∧ Ans true V gr ts ok := by
  by_cases h : n ≤ 40
  · refine (fitI_in (decide (V < 0)) a n c w h).mono ?_
    rintro e w' ⟨rfl, hb⟩
    exact ⟨_, a, n, c, zs, true, rfl, hb, ho.later hb, ha.later hb, .inl ⟨rfl, zs, hn, .inl ⟨by rw [ha.len]; exact h, rfl, rfl, rfl⟩⟩⟩
  · refine (fitI_out (decide (V < 0)) a n c w (by omega)).mono ?_
    rintro e w' ⟨rfl, hb⟩
    exact ⟨false, none, 0, 0, [], false, rfl, hb, .inl rfl, Arg.none _, .inl ⟨rfl, zs, hn, .inr ⟨by rw [ha.len]; omega, rfl, rfl, rfl⟩⟩⟩

set_option maxHeartbeats 1000000 in
theorem fitS_in (g : Bool) (a : Option Addr) (n c : Nat) (w : World) (h : n ≤ 40) :
    Calls Try.prog 49 #[.agg #[.bool g, .slice a n c]] w fun e w' => e = .returned (.tuple #[.agg #[.bool g, .slice a n c], .bool true]) ∧ Below w.heap.size w w' := by
  have h' : ¬ (40 : Int) < (n : Int) := by omega
  go_enter Try.func49, Try.ntmps49
  go_wp2
  exact bodyPost_ret (v := .tuple #[.agg #[.bool g, .slice a n c], .bool true]) (by simp [results, Try.results49, go_sem]) rfl ⟨rfl, below_two _ _ _⟩
set_option maxHeartbeats 1000000 in
theorem fitS_out (g : Bool) (a : Option Addr) (n c : Nat) (w : World) (h : 40 < n) :
    Calls Try.prog 49 #[.agg #[.bool g, .slice a n c]] w fun e w' => e = .returned (.tuple #[.agg #[.bool false, .slice none 0 0], .bool false]) ∧ Below w.heap.size w w' := by
  have h' : (40 : Int) < (n : Int) := by omega
  go_enter Try.func49, Try.ntmps49
  go_wp2
  exact bodyPost_ret (v := .tuple #[.agg #[.bool false, .slice none 0 0], .bool false]) (by simp [results, Try.results49, go_sem]) rfl ⟨rfl, below_two _ _ _⟩
/-- What a call answers that tells V, where it fits. -/
theorem fitS_any (V : Int) (a : Option Addr) (n c : Nat) (zs : List Int) (w : World) (base : Nat) (ho : Own base w a zs) (ha : Arg w a n c zs) (hn : Nm zs V.natAbs) :
    Calls Try.prog 49 #[.agg #[.bool (decide (V < 0)), .slice a n c]] w fun e w' => ∃ gr a2 n2 c2 ts ok, e = .returned (.tuple #[.agg #[.bool gr, .slice a2 n2 c2], .bool ok]) ∧ Below w.heap.size w w' ∧ Own base w' a2 ts ∧ Arg w' a2 n2 c2 ts ∧ Ans true V gr ts ok := by
  by_cases h : n ≤ 40
  · refine (fitS_in (decide (V < 0)) a n c w h).mono ?_
    rintro e w' ⟨rfl, hb⟩
    exact ⟨_, a, n, c, zs, true, rfl, hb, ho.later hb, ha.later hb, .inl ⟨rfl, zs, hn, .inl ⟨by rw [ha.len]; exact h, rfl, rfl, rfl⟩⟩⟩
  · refine (fitS_out (decide (V < 0)) a n c w (by omega)).mono ?_
    rintro e w' ⟨rfl, hb⟩
    exact ⟨false, none, 0, 0, [], false, rfl, hb, .inl rfl, Arg.none _, .inl ⟨rfl, zs, hn, .inr ⟨by rw [ha.len]; omega, rfl, rfl, rfl⟩⟩⟩
end Go.Proofs.Ytagnhgefdcckoaa
namespace Go.Proofs.Ytagnhgefdcckoaa
open Go.RowKit
set_option linter.unusedVariables false
set_option maxRecDepth 100000
set_option linter.unusedSimpArgs false

theorem outA_of {w w2 : World} {P : Bool} {V : Int} {gr : Bool} {a : Option Addr} {n c : Nat} {ts : List Int} {ok : Bool} {s : Nat} (hs : w.heap.size ≤ s) (hb : Below w.heap.size w w2) (ho : Own (s + 1) w2 a ts) (ha : Arg w2 a n c ts) (h : Ans P V gr ts ok) (v v' : Value) :
    OutA w P V (.returned (.tuple #[.agg #[.bool gr, .slice a n c], .bool ok])) ((w2.setCell ⟨s, 0, none⟩ v).setCell ⟨s, 1, none⟩ v') := by
  obtain ⟨f1, f2, f3⟩ := fin_set hs hb ho ha v v'
  exact ⟨gr, a, n, c, ts, ok, rfl, f1, f2, f3, h⟩
theorem outA_no {w w2 : World} {V : Int} {s : Nat} (hs : w.heap.size ≤ s) (hb : Below w.heap.size w w2) (v v' : Value) :
    OutA w false V (.returned (.tuple #[.agg #[.bool false, .slice none 0 0], .bool false])) ((w2.setCell ⟨s, 0, none⟩ v).setCell ⟨s, 1, none⟩ v') :=
  ⟨false, none, 0, 0, [], false, rfl, (hb.setCell hs _).setCell hs _, .inl rfl, Arg.none _, .inr ⟨rfl, rfl, rfl, rfl⟩⟩

set_option maxHeartbeats 4000000 in
theorem AddI_any (g g' : Bool) (a a' : Option Addr) (n m c c' : Nat) (xs ys : List Int) (w : World) (hx : Arg w a n c xs) (hy : Arg w a' m c' ys) :
    Calls Try.prog 18 #[.agg #[.bool g, .slice a n c], .agg #[.bool g', .slice a' m c']] w (OutA w (goodB g xs && goodB g' ys) (sv g xs + sv g' ys)) := by
  have HX := hide hx
  have HY := hide hy
  clear hx hy
  have B3 := hide (below_three w (.cells #[.bool g, .slice a n c] 25) (.cells #[.bool g', .slice a' m c'] 25) (.cells #[.bool false, .slice none 0 0] 25))
  cases hP : (goodB g xs && goodB g' ys)
  · go_enter Try.func18, Try.ntmps18
    go_wp2_with fail
    refine (pair_any g g' a a' n m c c' xs ys _ ((unhide HX).later (unhide B3)).sl ((unhide HY).later (unhide B3)).sl (unhide HX).len (unhide HY).len (Nat.le_trans (unhide HX).cap (unhide HX).top) (Nat.le_trans (unhide HY).cap (unhide HY).top)).mono ?_
    rintro e w1 ⟨rfl, hb1⟩
    rw [hP]
    have r0 : w1.cell? ⟨w.heap.size + 1 + 1, 0, none⟩ = some (.bool false) := cell_later hb1 (by simp [go_sem])
    have r1 : w1.cell? ⟨w.heap.size + 1 + 1, 1, none⟩ = some (.slice none 0 0) := cell_later hb1 (by simp [go_sem])
    have f0 : ∀ o, w1.frozen? ⟨w.heap.size + 1 + 1, o, none⟩ = false := fun o => frozen_later hb1 (by simp) (by simp [go_sem])
    have HB := hide ((unhide B3).trans (hb1.mono (by simp <;> omega)))
    clear hb1 hP
    go_wp2
    exact bodyPost_ret (v := .tuple #[.agg #[.bool false, .slice none 0 0], .bool false]) (by simp [results, Try.results18, go_sem, r0, r1]) rfl (outA_no (s := w.heap.size + 1 + 1) (by omega) (unhide HB) _ _)
  · have hg1 : goodB g xs = true := by revert hP; cases goodB g xs <;> simp
    have hg2 : goodB g' ys = true := by revert hP; cases goodB g' ys <;> simp
    have NX := hide (num_of_good (unhide HX) hg1)
    have NY := hide (num_of_good (unhide HY) hg2)
    clear hg1 hg2
    go_enter Try.func18, Try.ntmps18
    go_wp2_with fail
    refine (pair_any g g' a a' n m c c' xs ys _ ((unhide HX).later (unhide B3)).sl ((unhide HY).later (unhide B3)).sl (unhide HX).len (unhide HY).len (Nat.le_trans (unhide HX).cap (unhide HX).top) (Nat.le_trans (unhide HY).cap (unhide HY).top)).mono ?_
    rintro e w1 ⟨rfl, hb1⟩
    rw [hP]
    have x0 : w1.cell? ⟨w.heap.size, 0, none⟩ = some (.bool g) := cell_later hb1 (by simp [go_sem])
    have x1 : w1.cell? ⟨w.heap.size, 1, none⟩ = some (.slice a n c) := cell_later hb1 (by simp [go_sem])
    have y0 : w1.cell? ⟨w.heap.size + 1, 0, none⟩ = some (.bool g') := cell_later hb1 (by simp [go_sem])
    have y1 : w1.cell? ⟨w.heap.size + 1, 1, none⟩ = some (.slice a' m c') := cell_later hb1 (by simp [go_sem])
    have r0 : w1.cell? ⟨w.heap.size + 1 + 1, 0, none⟩ = some (.bool false) := cell_later hb1 (by simp [go_sem])
    have r1 : w1.cell? ⟨w.heap.size + 1 + 1, 1, none⟩ = some (.slice none 0 0) := cell_later hb1 (by simp [go_sem])
    have f0 : ∀ o, w1.frozen? ⟨w.heap.size + 1 + 1, o, none⟩ = false := fun o => frozen_later hb1 (by simp) (by simp [go_sem])
    have s1 : w.heap.size + 1 + 1 + 1 ≤ w1.heap.size := by have := hb1.size; simp at this; omega
    have HB := hide ((unhide B3).trans (hb1.mono (by simp <;> omega)))
    clear hb1 hP
    go_wp2_with fail
    refine (addSgI_any g g' a a' n m c c' xs ys w1 ((unhide NX).later (unhide HB)) ((unhide NY).later (unhide HB))).mono ?_
    rintro e w2 ⟨a2, n2, c2, zs, rfl, hb2, ho2, ha2, hn2⟩
    replace r0 := cell_later hb2 r0
    replace r1 := cell_later hb2 r1
    replace f0 : ∀ o, w2.frozen? ⟨w.heap.size + 1 + 1, o, none⟩ = false := fun o => frozen_later hb2 (by omega) (f0 o)
    replace HB := hide (below_on (unhide HB) hb2)
    have s2 : w.heap.size + 1 + 1 + 1 ≤ w2.heap.size := Nat.le_trans s1 hb2.size
    have HF := hide (fitI_any (sv g xs + sv g' ys) a2 n2 c2 zs w2 (w.heap.size + 1 + 1 + 1) (ho2.mono s1) ha2 hn2)
    clear x0 x1 y0 y1 hb2 ho2 ha2 hn2 s1
    go_wp2_with fail
    refine (unhide HF).mono ?_
    rintro e w3 ⟨gr, a3, n3, c3, ts, ok, rfl, hb3, ho3, ha3, hans⟩
    replace r0 := cell_later hb3 r0
    replace r1 := cell_later hb3 r1
    replace f0 : ∀ o, w3.frozen? ⟨w.heap.size + 1 + 1, o, none⟩ = false := fun o => frozen_later hb3 (by omega) (f0 o)
    replace HB := hide (below_on (unhide HB) hb3)
    have HO := hide ho3
    have HA := hide ha3
    have HS := hide hans
    clear hb3 ho3 ha3 hans s2 HF
    go_wp2
    exact bodyPost_ret (v := .tuple #[.agg #[.bool gr, .slice a3 n3 c3], .bool ok]) (by simp [results, Try.results18, go_sem, r0, r1]) rfl (outA_of (s := w.heap.size + 1 + 1) (by omega) (unhide HB) (unhide HO) (unhide HA) (unhide HS) _ _)

end Go.Proofs.Ytagnhgefdcckoaa
namespace Go.Proofs.Ytagnhgefdcckoaa
open Go.RowKit
set_option linter.unusedVariables false
set_option maxRecDepth 100000
set_option linter.unusedSimpArgs false

theorem fitM (g : Bool) (U : Int) (a : Option Addr) (n c : Nat) (zs : List Int) (w : World) (base : Nat) (ho : Own base w a zs) (ha : Arg w a n c zs) (hn : Nm zs U) (V : Int) (hV : V = if g then -U else U) :
    Calls Try.prog 46 #[.agg #[.bool (sd g U), .slice a n c]] w fun e w' => ∃ gr a2 n2 c2 ts ok, e = .returned (.tuple #[.agg #[.bool gr, .slice a2 n2 c2], .bool ok]) ∧ Below w.heap.size w w' ∧ Own base w' a2 ts ∧ Arg w' a2 n2 c2 ts ∧ Ans true V gr ts ok := by
  have e : sd g U = decide (V < 0) := by rw [hV]; rfl
  rw [e]
  exact fitI_any V a n c zs w base ho ha (by rw [natAbs_sign hn.nonneg hV]; exact hn)

set_option maxHeartbeats 4000000 in
theorem MulI_any (g g' : Bool) (a a' : Option Addr) (n m c c' : Nat) (xs ys : List Int) (w : World) (hx : Arg w a n c xs) (hy : Arg w a' m c' ys) :
    Calls Try.prog 8 #[.agg #[.bool g, .slice a n c], .agg #[.bool g', .slice a' m c']] w (OutA w (goodB g xs && goodB g' ys) (sv g xs * sv g' ys)) := by
  have HX := hide hx
  have HY := hide hy
  clear hx hy
  have B3 := hide (below_three w (.cells #[.bool g, .slice a n c] 25) (.cells #[.bool g', .slice a' m c'] 25) (.cells #[.bool false, .slice none 0 0] 25))
  cases hP : (goodB g xs && goodB g' ys)
  · go_enter Try.func8, Try.ntmps8
    go_wp2_with fail
    refine (pair_any g g' a a' n m c c' xs ys _ ((unhide HX).later (unhide B3)).sl ((unhide HY).later (unhide B3)).sl (unhide HX).len (unhide HY).len (Nat.le_trans (unhide HX).cap (unhide HX).top) (Nat.le_trans (unhide HY).cap (unhide HY).top)).mono ?_
    rintro e w1 ⟨rfl, hb1⟩
    rw [hP]
    have r0 : w1.cell? ⟨w.heap.size + 1 + 1, 0, none⟩ = some (.bool false) := cell_later hb1 (by simp [go_sem])
    have r1 : w1.cell? ⟨w.heap.size + 1 + 1, 1, none⟩ = some (.slice none 0 0) := cell_later hb1 (by simp [go_sem])
    have f0 : ∀ o, w1.frozen? ⟨w.heap.size + 1 + 1, o, none⟩ = false := fun o => frozen_later hb1 (by simp) (by simp [go_sem])
    have HB := hide ((unhide B3).trans (hb1.mono (by simp <;> omega)))
    clear hb1 hP
    go_wp2
    exact bodyPost_ret (v := .tuple #[.agg #[.bool false, .slice none 0 0], .bool false]) (by simp [results, Try.results8, go_sem, r0, r1]) rfl (outA_no (s := w.heap.size + 1 + 1) (by omega) (unhide HB) _ _)
  · have hg1 : goodB g xs = true := by revert hP; cases goodB g xs <;> simp
    have hg2 : goodB g' ys = true := by revert hP; cases goodB g' ys <;> simp
    have NX := hide (num_of_good (unhide HX) hg1)
    have NY := hide (num_of_good (unhide HY) hg2)
    have NL : Hid (n ≤ 500000) := hide (by have := (good_parts hg1).2.2.1; have := (unhide HX).len; omega)
    have ML : Hid (m ≤ 500000) := hide (by have := (good_parts hg2).2.2.1; have := (unhide HY).len; omega)
    clear hg1 hg2
    go_enter Try.func8, Try.ntmps8
    go_wp2_with fail
    refine (pair_any g g' a a' n m c c' xs ys _ ((unhide HX).later (unhide B3)).sl ((unhide HY).later (unhide B3)).sl (unhide HX).len (unhide HY).len (Nat.le_trans (unhide HX).cap (unhide HX).top) (Nat.le_trans (unhide HY).cap (unhide HY).top)).mono ?_
    rintro e w1 ⟨rfl, hb1⟩
    rw [hP]
    have x0 : w1.cell? ⟨w.heap.size, 0, none⟩ = some (.bool g) := cell_later hb1 (by simp [go_sem])
    have x1 : w1.cell? ⟨w.heap.size, 1, none⟩ = some (.slice a n c) := cell_later hb1 (by simp [go_sem])
    have y0 : w1.cell? ⟨w.heap.size + 1, 0, none⟩ = some (.bool g') := cell_later hb1 (by simp [go_sem])
    have y1 : w1.cell? ⟨w.heap.size + 1, 1, none⟩ = some (.slice a' m c') := cell_later hb1 (by simp [go_sem])
    have r0 : w1.cell? ⟨w.heap.size + 1 + 1, 0, none⟩ = some (.bool false) := cell_later hb1 (by simp [go_sem])
    have r1 : w1.cell? ⟨w.heap.size + 1 + 1, 1, none⟩ = some (.slice none 0 0) := cell_later hb1 (by simp [go_sem])
    have f0 : ∀ o, w1.frozen? ⟨w.heap.size + 1 + 1, o, none⟩ = false := fun o => frozen_later hb1 (by simp) (by simp [go_sem])
    have s1 : w.heap.size + 1 + 1 + 1 ≤ w1.heap.size := by have := hb1.size; simp at this; omega
    have HB := hide ((unhide B3).trans (hb1.mono (by simp <;> omega)))
    clear hb1 hP
    go_wp2_with fail
    refine (mulSgI_any g g' a a' n m c c' xs ys w1 ((unhide NX).later (unhide HB)) ((unhide NY).later (unhide HB)) (unhide NL) (unhide ML)).mono ?_
    rintro e w2 ⟨a2, n2, c2, zs, rfl, hb2, ho2, ha2, hn2⟩
    replace r0 := cell_later hb2 r0
    replace r1 := cell_later hb2 r1
    replace f0 : ∀ o, w2.frozen? ⟨w.heap.size + 1 + 1, o, none⟩ = false := fun o => frozen_later hb2 (by omega) (f0 o)
    replace HB := hide (below_on (unhide HB) hb2)
    have s2 : w.heap.size + 1 + 1 + 1 ≤ w2.heap.size := Nat.le_trans s1 hb2.size
    have HF := hide (fitI_any (sv g xs * sv g' ys) a2 n2 c2 zs w2 (w.heap.size + 1 + 1 + 1) (ho2.mono s1) ha2 hn2)
    clear x0 x1 y0 y1 hb2 ho2 ha2 hn2 s1
    go_wp2_with fail
    refine (unhide HF).mono ?_
    rintro e w3 ⟨gr, a3, n3, c3, ts, ok, rfl, hb3, ho3, ha3, hans⟩
    replace r0 := cell_later hb3 r0
    replace r1 := cell_later hb3 r1
    replace f0 : ∀ o, w3.frozen? ⟨w.heap.size + 1 + 1, o, none⟩ = false := fun o => frozen_later hb3 (by omega) (f0 o)
    replace HB := hide (below_on (unhide HB) hb3)
    have HO := hide ho3
    have HA := hide ha3
    have HS := hide hans
    clear hb3 ho3 ha3 hans s2 HF
    go_wp2
    exact bodyPost_ret (v := .tuple #[.agg #[.bool gr, .slice a3 n3 c3], .bool ok]) (by simp [results, Try.results8, go_sem, r0, r1]) rfl (outA_of (s := w.heap.size + 1 + 1) (by omega) (unhide HB) (unhide HO) (unhide HA) (unhide HS) _ _)

set_option maxHeartbeats 4000000 in
theorem MulS_any (g g' : Bool) (a a' : Option Addr) (n m c c' : Nat) (xs ys : List Int) (w : World) (hx : Arg w a n c xs) (hy : Arg w a' m c' ys) :
    Calls Try.prog 9 #[.agg #[.bool g, .slice a n c], .agg #[.bool g', .slice a' m c']] w (OutA w (goodB g xs && goodB g' ys) (sv g xs * sv g' ys)) := by
  have HX := hide hx
  have HY := hide hy
  clear hx hy
  have B3 := hide (below_three w (.cells #[.bool g, .slice a n c] 25) (.cells #[.bool g', .slice a' m c'] 25) (.cells #[.bool false, .slice none 0 0] 25))
  have mx := hide (Nat.le_trans (unhide HX).cap (unhide HX).top)
  have my := hide (Nat.le_trans (unhide HY).cap (unhide HY).top)
  cases hg1 : goodB g xs
  · rw [Bool.false_and]
    go_enter Try.func9, Try.ntmps9
    go_wp2_with fail
    refine (goodS_any g a n c xs _ ((unhide HX).later (unhide B3)).sl (unhide HX).len (unhide mx)).mono ?_
    rintro e w1 ⟨rfl, hb1⟩
    have r0 : w1.cell? ⟨w.heap.size + 1 + 1, 0, none⟩ = some (.bool false) := cell_later hb1 (by simp [go_sem])
    have r1 : w1.cell? ⟨w.heap.size + 1 + 1, 1, none⟩ = some (.slice none 0 0) := cell_later hb1 (by simp [go_sem])
    have f0 : ∀ o, w1.frozen? ⟨w.heap.size + 1 + 1, o, none⟩ = false := fun o => frozen_later hb1 (by simp) (by simp [go_sem])
    have HB := hide ((unhide B3).trans (hb1.mono (by simp <;> omega)))
    clear hb1
    go_wp2
    exact bodyPost_ret (v := .tuple #[.agg #[.bool false, .slice none 0 0], .bool false]) (by simp [results, Try.results9, go_sem, r0, r1]) rfl (outA_no (s := w.heap.size + 1 + 1) (by omega) (unhide HB) _ _)
  · rw [Bool.true_and]
    have NX := hide (num_of_good (unhide HX) hg1)
    cases hg2 : goodB g' ys
    · go_enter Try.func9, Try.ntmps9
      go_wp2_with fail
      refine (goodS_any g a n c xs _ ((unhide HX).later (unhide B3)).sl (unhide HX).len (unhide mx)).mono ?_
      rintro e w1 ⟨rfl, hb1⟩
      have y0 : w1.cell? ⟨w.heap.size + 1, 0, none⟩ = some (.bool g') := cell_later hb1 (by simp [go_sem])
      have y1 : w1.cell? ⟨w.heap.size + 1, 1, none⟩ = some (.slice a' m c') := cell_later hb1 (by simp [go_sem])
      have r0 : w1.cell? ⟨w.heap.size + 1 + 1, 0, none⟩ = some (.bool false) := cell_later hb1 (by simp [go_sem])
      have r1 : w1.cell? ⟨w.heap.size + 1 + 1, 1, none⟩ = some (.slice none 0 0) := cell_later hb1 (by simp [go_sem])
      have f0 : ∀ o, w1.frozen? ⟨w.heap.size + 1 + 1, o, none⟩ = false := fun o => frozen_later hb1 (by simp) (by simp [go_sem])
      have s1 : w.heap.size + 1 + 1 + 1 ≤ w1.heap.size := by have := hb1.size; simp at this; omega
      have HB := hide ((unhide B3).trans (hb1.mono (by simp <;> omega)))
      clear hb1
      go_wp2_with fail
      refine (goodS_any g' a' m c' ys _ ((unhide HY).later (unhide HB)).sl (unhide HY).len (unhide my)).mono ?_
      rintro e w2 ⟨rfl, hb2⟩
      replace r0 := cell_later hb2 r0
      replace r1 := cell_later hb2 r1
      replace f0 : ∀ o, w2.frozen? ⟨w.heap.size + 1 + 1, o, none⟩ = false := fun o => frozen_later hb2 (by omega) (f0 o)
      replace HB := hide (below_on (unhide HB) hb2)
      clear hb2
      go_wp2
      exact bodyPost_ret (v := .tuple #[.agg #[.bool false, .slice none 0 0], .bool false]) (by simp [results, Try.results9, go_sem, r0, r1]) rfl (outA_no (s := w.heap.size + 1 + 1) (by omega) (unhide HB) _ _)
    · have NY := hide (num_of_good (unhide HY) hg2)
      have NL : Hid (n ≤ 500000) := hide (by have := (good_parts hg1).2.2.1; have := (unhide HX).len; omega)
      have ML : Hid (m ≤ 500000) := hide (by have := (good_parts hg2).2.2.1; have := (unhide HY).len; omega)
      go_enter Try.func9, Try.ntmps9
      go_wp2_with fail
      refine (goodS_any g a n c xs _ ((unhide HX).later (unhide B3)).sl (unhide HX).len (unhide mx)).mono ?_
      rintro e w1 ⟨rfl, hb1⟩
      have x0 : w1.cell? ⟨w.heap.size, 0, none⟩ = some (.bool g) := cell_later hb1 (by simp [go_sem])
      have x1 : w1.cell? ⟨w.heap.size, 1, none⟩ = some (.slice a n c) := cell_later hb1 (by simp [go_sem])
      have y0 : w1.cell? ⟨w.heap.size + 1, 0, none⟩ = some (.bool g') := cell_later hb1 (by simp [go_sem])
      have y1 : w1.cell? ⟨w.heap.size + 1, 1, none⟩ = some (.slice a' m c') := cell_later hb1 (by simp [go_sem])
      have r0 : w1.cell? ⟨w.heap.size + 1 + 1, 0, none⟩ = some (.bool false) := cell_later hb1 (by simp [go_sem])
      have r1 : w1.cell? ⟨w.heap.size + 1 + 1, 1, none⟩ = some (.slice none 0 0) := cell_later hb1 (by simp [go_sem])
      have f0 : ∀ o, w1.frozen? ⟨w.heap.size + 1 + 1, o, none⟩ = false := fun o => frozen_later hb1 (by simp) (by simp [go_sem])
      have s1 : w.heap.size + 1 + 1 + 1 ≤ w1.heap.size := by have := hb1.size; simp at this; omega
      have HB := hide ((unhide B3).trans (hb1.mono (by simp <;> omega)))
      clear hb1
      go_wp2_with fail
      refine (goodS_any g' a' m c' ys _ ((unhide HY).later (unhide HB)).sl (unhide HY).len (unhide my)).mono ?_
      rintro e w2 ⟨rfl, hb2⟩
      replace x0 := cell_later hb2 x0
      replace x1 := cell_later hb2 x1
      replace y0 := cell_later hb2 y0
      replace y1 := cell_later hb2 y1
      replace r0 := cell_later hb2 r0
      replace r1 := cell_later hb2 r1
      replace f0 : ∀ o, w2.frozen? ⟨w.heap.size + 1 + 1, o, none⟩ = false := fun o => frozen_later hb2 (by omega) (f0 o)
      replace HB := hide (below_on (unhide HB) hb2)
      have s2 : w.heap.size + 1 + 1 + 1 ≤ w2.heap.size := Nat.le_trans s1 hb2.size
      clear hb2 s1
      go_wp2_with fail
      refine (mulSgS_any g g' a a' n m c c' xs ys w2 ((unhide NX).later (unhide HB)) ((unhide NY).later (unhide HB)) (unhide NL) (unhide ML)).mono ?_
      rintro e w3 ⟨a2, n2, c2, zs, rfl, hb3, ho2, ha2, hn2⟩
      replace r0 := cell_later hb3 r0
      replace r1 := cell_later hb3 r1
      replace f0 : ∀ o, w3.frozen? ⟨w.heap.size + 1 + 1, o, none⟩ = false := fun o => frozen_later hb3 (by omega) (f0 o)
      replace HB := hide (below_on (unhide HB) hb3)
      have s3 : w.heap.size + 1 + 1 + 1 ≤ w3.heap.size := Nat.le_trans s2 hb3.size
      have HF := hide (fitS_any (sv g xs * sv g' ys) a2 n2 c2 zs w3 (w.heap.size + 1 + 1 + 1) (ho2.mono s2) ha2 hn2)
      clear x0 x1 y0 y1 hb3 ho2 ha2 hn2 s2
      go_wp2_with fail
      refine (unhide HF).mono ?_
      rintro e w4 ⟨gr, a3, n3, c3, ts, ok, rfl, hb4, ho3, ha3, hans⟩
      replace r0 := cell_later hb4 r0
      replace r1 := cell_later hb4 r1
      replace f0 : ∀ o, w4.frozen? ⟨w.heap.size + 1 + 1, o, none⟩ = false := fun o => frozen_later hb4 (by omega) (f0 o)
      replace HB := hide (below_on (unhide HB) hb4)
      have HO := hide ho3
      have HA := hide ha3
      have HS := hide hans
      clear hb4 ho3 ha3 hans s3 HF
      go_wp2
      exact bodyPost_ret (v := .tuple #[.agg #[.bool gr, .slice a3 n3 c3], .bool ok]) (by simp [results, Try.results9, go_sem, r0, r1]) rfl (outA_of (s := w.heap.size + 1 + 1) (by omega) (unhide HB) (unhide HO) (unhide HA) (unhide HS) _ _)
end Go.Proofs.Ytagnhgefdcckoaa
namespace Go.Proofs.Ytagnhgefdcckoaa
open Go.RowKit
set_option linter.unusedVariables false
set_option maxRecDepth 100000
set_option linter.unusedSimpArgs false

theorem made_owns (w : World) (b n : Nat) (hm : b + n ≤ maxLen) : (w.alloc (.cells (madeCells #[.int .i64 0] (b + n)) 3)).ownsRow w.heap.size 3 1 (.slice (some ⟨w.heap.size, 0, none⟩) b (b + n)) b ((List.replicate b 0).map (Value.int .i64)) := by
  refine ⟨by simp, .inr ⟨w.heap.size, b + n, madeCells #[.int .i64 0] (b + n), rfl, Nat.le_refl _, ?_, by omega, hm, by simp [size_madeCells], ?_⟩⟩
  · show (w.heap.push _)[w.heap.size]? = _
    simp
  · rw [made_ints]
    rw [← List.map_take, List.take_replicate]
    congr 2
    omega
theorem val_zeros (n : Nat) (xs : List Int) : val (List.replicate n 0 ++ xs) = 65536 ^ n * val xs := by
  induction n with
  | zero => simp
  | succ n ih => simp only [List.replicate_succ, List.cons_append, val, ih, Int.pow_succ, Int.mul_comm (65536 ^ n) 65536, Int.mul_assoc]; omega
theorem okL_zeros (n : Nat) {xs : List Int} (h : okL xs) : okL (List.replicate n 0 ++ xs) := okL_append (fun x hx => by rw [List.eq_of_mem_replicate hx]; omega) h

set_option maxHeartbeats 2000000 in
theorem shiftI_any (a : Option Addr) (n c b : Nat) (xs : List Int) (w : World) (hx : Arg w a n c xs) (ox : okL xs) (h1 : n ≤ 500000) (hb : b ≤ 500000) :
    Calls Try.prog 102 #[.slice a n c, .int .i64 b] w (OutU w (65536 ^ b * val xs) (b + n)) := by
  obtain ⟨i0, hi, hz0, hz1, hz2⟩ := info_parts Try.info3
  have hmk : ∀ w, (Instr.makeSlice 23 (.int .i64 (b : Int)) (.int .i64 ((b : Int) + (n : Int)))).run Try.prog w = .ok (.slice (some ⟨w.heap.size, 0, none⟩) b (b + n)) (w.alloc (.cells (madeCells #[.int .i64 0] (b + n)) 3)) := by
    intro w
    have := run_make (P := Try.prog) w 23 3 i0 (.int .i64 0) Try.underlying23 hi hz0 .i64 .i64 (b : Int) ((b : Int) + (n : Int)) (by omega) (by omega) (by rw [hz2]; omega) (by omega)
    rw [this, hz1]
    simp [show ((b : Int) + (n : Int)).toNat = b + n by omega, Value.cells]
  have hown := hide (made_owns w b n (by unfold maxLen; omega))
  have hnone : Hid (a = none → n = 0 ∧ c = 0) := hide (fun e => by
    rcases hx.addr with ⟨_, hc⟩ | ⟨_, _, h'⟩
    · exact ⟨by have := hx.cap; omega, hc⟩
    · rw [e] at h'; cases h')
  have hcells : Hid (∀ ad, a = some ad → ∀ j u, (xs.map (Value.int .i64))[j]? = some u → (w.alloc (.cells (madeCells #[.int .i64 0] (b + n)) 3)).cell? (ad.add j) = some u) := hide (by
    intro ad e j u hj
    rcases hx.sl with rfl | ⟨b', off', e', hb', hc⟩
    · simp at hj
    · rw [e] at e'
      cases e'
      have := cells_at (w := w.alloc (.cells (madeCells #[.int .i64 0] (b + n)) 3)) (b := b') (off := off') (k := xs.length) (xs := xs) (fun i hi => by
        rw [← hc i hi]; exact ((Below.refl _ _).alloc (Nat.le_refl _) _).cell (by exact hb')) (Nat.le_refl _)
      rw [List.take_length] at this
      exact this j u hj)
  have hlen := hide (show (xs.map (Value.int .i64)).length = n * 1 by simp; exact hx.len)
  have HL := hide hx.len
  clear hx
  go_enter Try.func102, Try.ntmps102
  go_wp2_with (at_builtin; refine wpList_append_fits_any _ rfl (.tmp 10) (.tmp 11) 23 rfl w.heap.size 3 i0 1 Try.underlying23 hi hz1 w.heap.size b (b + n) _ rfl (unhide hown) a n c (xs.map (Value.int .i64)) rfl (unhide hlen) (unhide hnone) (unhide hcells) (one_cells _) (Nat.le_refl _) ?_)
  intro w1 hown1 hg
  have HR : Hid (w1.ownsRow w.heap.size 3 1 (.slice (some ⟨w.heap.size, 0, none⟩) (b + n) (b + n)) (b + n) ((List.replicate b 0 ++ xs).map (Value.int .i64))) := hide (by simpa using hown1)
  have HB := hide (below_alloc_grown hg (fun k e => by simp at e; omega))
  clear hown1 hg hmk
  go_wp2
  go_ret
  have hl : (List.replicate b 0 ++ xs).length = b + n := by simp; exact unhide HL
  have ho := Own.of_owns (unhide HR) hl
  exact ⟨_, _, _, _, rfl, unhide HB, ho, ⟨ho.sl, hl, Nat.le_refl _, by unfold maxLen; omega, .inr ⟨_, _, rfl⟩⟩, okL_zeros b ox, val_zeros b xs, by rw [hl]; exact Nat.le_refl _⟩

set_option maxHeartbeats 2000000 in
theorem parts_le (bb off n c h : Nat) (xs : List Int) (w : World) (hs : Sl w (some ⟨bb, off, none⟩) xs) (hn : xs.length = n) (hnc : n ≤ c) (hcm : c ≤ maxLen) (hh : h ≤ n) :
    Calls Try.prog 99 #[.slice (some ⟨bb, off, none⟩) n c, .int .i64 h] w fun e w' => ∃ a1 n1 c1 a2 c2, e = .returned (.tuple #[.slice a1 n1 c1, .slice a2 (n - h) c2]) ∧ Below w.heap.size w w' ∧ Arg w' a1 n1 c1 (trim (xs.take h)) ∧ Arg w' a2 (n - h) c2 (xs.drop h) := by
  unfold maxLen at hcm
  have HS := hide hs
  have HN := hide hn
  clear hs hn
  have h1 : (h : Int) ≤ (n : Int) := by omega
  have h2 : (0 : Int) ≤ (h : Int) := by omega
  have h3 : (n : Int) ≤ (c : Int) := by omega
  have h4 : (h : Int) ≤ (c : Int) := by omega
  have h5 : h ≤ c := by omega
  have HT : Hid ((xs.take h).length = h) := hide (by rw [List.length_take, unhide HN]; omega)
  have HD : Hid ((xs.drop h).length = n - h) := hide (by rw [List.length_drop, unhide HN])
  by_cases hch : c = h
  · subst hch
    obtain rfl : n = c := by omega
    have HE : Hid (xs.drop n = []) := hide (List.drop_of_length_le (by rw [unhide HN]; exact Nat.le_refl _))
    go_enter Try.func99, Try.ntmps99
    go_upto_region 2 with fail
    go_region_with (first
      | (go_at_call 98; refine (trim_any _ n n (xs.take n) _ ?_).mono ?_; exact ⟨((unhide HS).take n).drew, unhide HT, by omega, by unfold maxLen; omega, .inr ⟨_, _, rfl⟩⟩; rintro e w1 ⟨a1, n1, c1, rfl, rfl, harg, hown⟩; have HA := hide harg; clear harg hown))
    all_goals go_wp2
    all_goals go_ret2
    all_goals exact ⟨a1, n1, c1, some ⟨bb, off, none⟩, 0, by rw [Nat.sub_self]; rfl, (Below.refl _ _).drew, unhide HA _ ⟨((unhide HS).take n).drew, unhide HT, by omega, by unfold maxLen; omega, .inr ⟨_, _, rfl⟩⟩, ⟨by rw [unhide HE]; exact .inl rfl, unhide HD, by omega, Nat.zero_le _, .inr ⟨_, _, rfl⟩⟩⟩
  · have HSd : Hid (Sl w (some ⟨bb, off + h, none⟩) (xs.drop h)) := hide (by
      rcases unhide HS with rfl | ⟨b', off', e, hb, hc⟩
      · exact .inl (by simp)
      · cases e
        refine .inr ⟨bb, off + h, rfl, hb, fun i hi => ?_⟩
        rw [List.length_drop] at hi
        have := hc (h + i) (by omega)
        rw [show off + h + i = off + (h + i) by omega, this]
        simp only [List.getD_eq_getElem?_getD, List.getElem?_drop])
    go_enter Try.func99, Try.ntmps99
    go_upto_region 2 with fail
    go_region_with (first
      | (go_at_call 98; refine (trim_any _ h c (xs.take h) _ ?_).mono ?_; exact ⟨((unhide HS).take h).drew, unhide HT, by omega, by unfold maxLen; omega, .inr ⟨_, _, rfl⟩⟩; rintro e w1 ⟨a1, n1, c1, rfl, rfl, harg, hown⟩; have HA := hide harg; clear harg hown))
    all_goals go_wp2
    all_goals go_ret2
    all_goals exact ⟨a1, n1, c1, _, _, rfl, (Below.refl _ _).drew, unhide HA _ ⟨((unhide HS).take h).drew, unhide HT, by omega, by unfold maxLen; omega, .inr ⟨_, _, rfl⟩⟩, ⟨(unhide HSd).drew, unhide HD, by omega, by unfold maxLen; omega, .inr ⟨_, _, rfl⟩⟩⟩

set_option maxHeartbeats 2000000 in
theorem parts_none (h : Nat) (w : World) (hh : h ≤ 1000000) :
    Calls Try.prog 99 #[.slice none 0 0, .int .i64 h] w fun e w' => e = .returned (.tuple #[.slice none 0 0, .slice none 0 0]) ∧ Below w.heap.size w w' := by
  by_cases h0 : h = 0
  · subst h0
    go_enter Try.func99, Try.ntmps99
    go_upto_region 2 with fail
    go_region_with (first
      | (go_at_call 98; refine (trim_nil_any _ _ _).mono ?_; rintro e w1 ⟨rfl, rfl⟩))
    all_goals go_wp2
    all_goals go_ret2
    all_goals exact ⟨rfl, (Below.refl _ _).drew⟩
  · have h1 : ¬ (h : Int) ≤ 0 := by omega
    go_enter Try.func99, Try.ntmps99
    go_upto_region 2 with fail
    go_region_with (first
      | (go_at_call 98; refine (trim_nil_any _ _ _).mono ?_; rintro e w1 ⟨rfl, rfl⟩))
    all_goals go_wp2
    all_goals go_ret2
    all_goals exact ⟨rfl, (Below.refl _ _).drew⟩
set_option maxHeartbeats 2000000 in
theorem parts_gt (bb off n c h : Nat) (xs : List Int) (w : World) (hs : Sl w (some ⟨bb, off, none⟩) xs) (hn : xs.length = n) (hnc : n ≤ c) (hcm : c ≤ maxLen) (hh : n < h) (hh2 : h ≤ 1000000) :
    Calls Try.prog 99 #[.slice (some ⟨bb, off, none⟩) n c, .int .i64 h] w fun e w' => ∃ a1 n1 c1 a2 c2, e = .returned (.tuple #[.slice a1 n1 c1, .slice a2 0 c2]) ∧ Below w.heap.size w w' ∧ Arg w' a1 n1 c1 (trim xs) ∧ Arg w' a2 0 c2 [] := by
  unfold maxLen at hcm
  have HS := hide hs
  have HN := hide hn
  clear hs hn
  have h1 : ¬ (h : Int) ≤ (n : Int) := by omega
  have h1' : (n : Int) < (h : Int) := by omega
  have h3 : (n : Int) ≤ (c : Int) := by omega
  by_cases hch : c = n
  · subst hch
    go_enter Try.func99, Try.ntmps99
    go_upto_region 2 with fail
    go_region_with (first
      | (go_at_call 98; refine (trim_any _ c c xs _ ?_).mono ?_; exact ⟨(unhide HS).drew, unhide HN, by omega, by unfold maxLen; omega, .inr ⟨_, _, rfl⟩⟩; rintro e w1 ⟨a1, n1, c1, rfl, rfl, harg, hown⟩; have HA := hide harg; clear harg hown))
    all_goals go_wp2
    all_goals go_ret2
    all_goals exact ⟨a1, n1, c1, some ⟨bb, off, none⟩, 0, rfl, (Below.refl _ _).drew, unhide HA _ ⟨(unhide HS).drew, unhide HN, by omega, by unfold maxLen; omega, .inr ⟨_, _, rfl⟩⟩, ⟨.inl rfl, rfl, by omega, by unfold maxLen; omega, .inr ⟨_, _, rfl⟩⟩⟩
  · go_enter Try.func99, Try.ntmps99
    go_upto_region 2 with fail
    go_region_with (first
      | (go_at_call 98; refine (trim_any _ n c xs _ ?_).mono ?_; exact ⟨(unhide HS).drew, unhide HN, by omega, by unfold maxLen; omega, .inr ⟨_, _, rfl⟩⟩; rintro e w1 ⟨a1, n1, c1, rfl, rfl, harg, hown⟩; have HA := hide harg; clear harg hown))
    all_goals go_wp2
    all_goals go_ret2
    all_goals exact ⟨a1, n1, c1, some ⟨bb, off + n, none⟩, c - n, rfl, (Below.refl _ _).drew, unhide HA _ ⟨(unhide HS).drew, unhide HN, by omega, by unfold maxLen; omega, .inr ⟨_, _, rfl⟩⟩, ⟨.inl rfl, rfl, by omega, by unfold maxLen; omega, .inr ⟨_, _, rfl⟩⟩⟩
end Go.Proofs.Ytagnhgefdcckoaa
