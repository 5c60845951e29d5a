/- Texts of fractions: textOfRat, RatText of the program; l2Text, RatText of the specification. No condition beyond those typed. Written by mkrx16.py. -/
import Derived.Test.YtdgonpbponnnaaaGreatDoorBt16
import Derived.Test.YtdgonpbponnnaaaGreatDoorRatH
import Derived.Deep.RegionHeld
import Derived.Deep.RegionHeld3
namespace Go.Proofs.YtdgonpbponnnaaaGreatDoor
open Go.RowKit
set_option linter.unusedVariables false
set_option maxRecDepth 100000
set_option linter.unusedSimpArgs false

/-- A fraction's text. -/
def rtL (g : Bool) (V : Nat) (h : Bool) (U : Nat) : List UInt8 := if U = 1 then txV g V else txV g V ++ [47] ++ txV h U
theorem tx_len {g : Bool} {V : Nat} (h : (Lib.decDigits V).length ≤ 1000) : (txV g V).length ≤ 1001 := by
  unfold txV
  split
  · simp; omega
  · omega
set_option maxHeartbeats 8000000 in
theorem rtI16 (g h : Bool) (a b : Option Addr) (n c p d : Nat) (xs us : List Int) (V U : Nat) (w : World) (hx : Arg w a n c xs) (hu : Arg w b p d us) (hz : Nm xs (V : Int)) (hz2 : Nm us (U : Int)) (l1 : n ≤ 40) (l2 : p ≤ 40) (hg : xs = [] → g = false) (hg2 : us = [] → h = false) (hV : (Lib.decDigits V).length ≤ 1000) (hU : (Lib.decDigits U).length ≤ 1000) (ht : Tab15 w) :
    Calls Tryz.prog 58 #[.agg #[.bool g, .slice a n c, .bool h, .slice b p d]] w fun e w' => e = .returned (.string (st (rtL g V h U))) ∧ Below w.heap.size w w' := by
  have al : Below w.heap.size w (w.alloc (.cells #[.bool g, .slice a n c, .bool h, .slice b p d] 27)) := (Below.refl _ _).alloc (Nat.le_refl _) _
  have C1 := hide (fun w' (k : Arg w' a n c xs) (t : Tab15 w') => textI16 g a n c xs V w' k hz (by omega) hV t)
  have C2 := hide (fun w' (k : Arg w' b p d us) (t : Tab15 w') => textI16 h b p d us U w' k hz2 (by omega) hU t)
  have C0 := hide (fun w' (k : Arg w' b p d us) => one_any b p d us (U : Int) w' k hz2)
  have HT := hide (ht.later al)
  clear ht
  have HX := hide (hx.later al)
  have HU := hide (hu.later al)
  have HB := hide al
  have lx := tx_len (g := g) hV
  have ly := tx_len (g := h) hU
  clear hx hu hz hz2 l1 l2 hg hg2 hV hU
  unfold rtL
  obtain ⟨X, hX⟩ : ∃ X, X = txV g V := ⟨_, rfl⟩
  obtain ⟨Y, hY⟩ : ∃ Y, Y = txV h U := ⟨_, rfl⟩
  rw [← hX] at C1 lx ⊢
  rw [← hY] at C2 ly ⊢
  clear hX hY
  by_cases u1 : U = 1
  · have u2 : decide ((U : Int) = 1) = true := decide_eq_true (by omega)
    rw [if_pos u1]
    rw [u2] at C0
    clear u1 u2
    go_enter Tryz.func58, Tryz.ntmps58
    go_wp2_with fail
    refine (unhide C0 _ (unhide HU)).mono ?_
    rintro e w1 ⟨rfl, hb1⟩
    replace HB := hide (below_on (unhide HB) (hb1))
    have x0 : w1.cell? ⟨w.heap.size, 0, none⟩ = some (.bool g) := cell_later (hb1) (by simp [go_sem])
    have x1 : w1.cell? ⟨w.heap.size, 1, none⟩ = some (.slice a n c) := cell_later (hb1) (by simp [go_sem])
    have x2 : w1.cell? ⟨w.heap.size, 2, none⟩ = some (.bool h) := cell_later (hb1) (by simp [go_sem])
    have x3 : w1.cell? ⟨w.heap.size, 3, none⟩ = some (.slice b p d) := cell_later (hb1) (by simp [go_sem])
    replace HX := hide ((unhide HX).later (hb1))
    replace HU := hide ((unhide HU).later (hb1))
    replace HT := hide ((unhide HT).later (hb1))
    clear hb1 C0 al
    go_wp2_with fail
    refine (unhide C1 _ (unhide HX) (unhide HT)).mono ?_
    rintro e w2 ⟨rfl, hb⟩
    replace HB := hide (below_on (unhide HB) hb)
    clear hb
    go_wp2
    go_ret
    exact ⟨rfl, unhide HB⟩
  · have u2 : decide ((U : Int) = 1) = false := decide_eq_false (by omega)
    rw [if_neg u1]
    rw [u2] at C0
    clear u1 u2
    obtain ⟨K1, k1, k2⟩ : ∃ K, ({ data := #[47] } : ByteArray) = K ∧ K = st [47] := ⟨_, rfl, rfl⟩
    obtain ⟨T1, t1⟩ : ∃ T, T = X ++ [47] := ⟨_, rfl⟩
    obtain ⟨T2, t2⟩ : ∃ T, T = T1 ++ Y := ⟨_, rfl⟩
    have m1 : T1.length = X.length + 1 := by rw [t1]; simp
    have A1 : st X ++ K1 = st T1 := by rw [k2, st_add, t1]
    have A2 : st T1 ++ st Y = st T2 := by rw [st_add, t2]
    have y1 : ¬ (9223372036854775807 < (st X).size + K1.size) := by rw [k2, st_size, st_size]; simp; omega
    have y2 : ¬ (9223372036854775807 < (st T1).size + (st Y).size) := by rw [st_size, st_size]; omega
    rw [← t1, ← t2]
    clear t1 t2 k2 m1 lx ly
    go_enter Tryz.func58, Tryz.ntmps58
    go_wp2_with fail
    refine (unhide C0 _ (unhide HU)).mono ?_
    rintro e w1 ⟨rfl, hb1⟩
    replace HB := hide (below_on (unhide HB) (hb1))
    have x0 : w1.cell? ⟨w.heap.size, 0, none⟩ = some (.bool g) := cell_later (hb1) (by simp [go_sem])
    have x1 : w1.cell? ⟨w.heap.size, 1, none⟩ = some (.slice a n c) := cell_later (hb1) (by simp [go_sem])
    have x2 : w1.cell? ⟨w.heap.size, 2, none⟩ = some (.bool h) := cell_later (hb1) (by simp [go_sem])
    have x3 : w1.cell? ⟨w.heap.size, 3, none⟩ = some (.slice b p d) := cell_later (hb1) (by simp [go_sem])
    replace HX := hide ((unhide HX).later (hb1))
    replace HU := hide ((unhide HU).later (hb1))
    replace HT := hide ((unhide HT).later (hb1))
    clear hb1 C0 al
    go_upto_region 3 with fail
    refine wp_region_held_drew (S := fun w' => w'.cell? ⟨w.heap.size, 0, none⟩ = some (.bool g) ∧ w'.cell? ⟨w.heap.size, 1, none⟩ = some (.slice a n c) ∧ w'.cell? ⟨w.heap.size, 2, none⟩ = some (.bool h) ∧ w'.cell? ⟨w.heap.size, 3, none⟩ = some (.slice b p d)) (by kernel_rfl) ⟨x0, x1, x2, x3⟩ (fun hHeld => ?_)
    simp only [List.size_toArray, List.length_cons, List.length_nil, Nat.reduceAdd, Array.replicate_succ, Array.replicate_zero, List.push_toArray, List.nil_append, List.cons_append]
    refine wpAnyH_take (i := 0) (v := .pointer (some ⟨w.heap.size, 0, none⟩)) rfl (by kernel_rfl) (by kernel_rfl) (by kernel_rfl) (fun _ _ _ h => h) (Or.inl ⟨by rfl, by intro w hSw; (try dsimp only at hSw); go_simp⟩) hHeld ?_
    simp only [List.getElem_toArray, List.getElem_cons_zero, List.getElem_cons_succ, Act.put, List.setIfInBounds_toArray, List.set_cons_zero, List.set_cons_succ]
    refine wpAnyH_take (i := 1) (v := .agg #[.bool g, .slice a n c]) rfl (by kernel_rfl) (by kernel_rfl) (by kernel_rfl) (fun _ _ _ h => h) (Or.inl ⟨by rfl, by intro w hSw; (try dsimp only at hSw); go_simp⟩) hHeld ?_
    simp only [List.getElem_toArray, List.getElem_cons_zero, List.getElem_cons_succ, Act.put, List.setIfInBounds_toArray, List.set_cons_zero, List.set_cons_succ]
    refine wpAnyH_take (i := 4) (v := .pointer (some ⟨w.heap.size, 2, none⟩)) rfl (by kernel_rfl) (by kernel_rfl) (by kernel_rfl) (fun _ _ _ h => h) (Or.inl ⟨by rfl, by intro w hSw; (try dsimp only at hSw); go_simp⟩) hHeld ?_
    simp only [List.getElem_toArray, List.getElem_cons_zero, List.getElem_cons_succ, Act.put, List.setIfInBounds_toArray, List.set_cons_zero, List.set_cons_succ]
    refine wpAnyH_take (i := 5) (v := .agg #[.bool h, .slice b p d]) rfl (by kernel_rfl) (by kernel_rfl) (by kernel_rfl) (fun _ _ _ h => h) (Or.inl ⟨by rfl, by intro w hSw; (try dsimp only at hSw); go_simp⟩) hHeld ?_
    simp only [List.getElem_toArray, List.getElem_cons_zero, List.getElem_cons_succ, Act.put, List.setIfInBounds_toArray, List.set_cons_zero, List.set_cons_succ]
    refine wpAnyH_ready (rs := [2]) (by kernel_rfl) (by simp) (AllReadyH.cons rfl (fun K hK => ?_) AllReadyH.nil)
    go_simp
    refine (unhide C1 _ ((unhide HX).later (Below.refl _ _).drew) ((unhide HT).later (Below.refl _ _).drew)).mono ?_
    rintro e w2 ⟨rfl, hb1⟩
    have hbx := below_of_drew hb1
    replace x0 := cell_later hbx x0
    replace x1 := cell_later hbx x1
    replace x2 := cell_later hbx x2
    replace x3 := cell_later hbx x3
    replace HX := hide ((unhide HX).later hbx)
    replace HU := hide ((unhide HU).later hbx)
    replace HT := hide ((unhide HT).later hbx)
    replace HB := hide (below_on (unhide HB) hbx)
    refine hK.out _ _ ⟨x0, x1, x2, x3⟩ (fun hHeld2 => ?_)
    clear hK K hb1 hbx hHeld
    have hHeld := hHeld2
    clear hHeld2
    simp only [Act.put, List.setIfInBounds_toArray, List.set_cons_zero, List.set_cons_succ]
    refine wpAnyH_take (i := 3) (v := .string (st T1)) rfl (by kernel_rfl) (by kernel_rfl) (by kernel_rfl) (fun _ _ _ h => h) (Or.inl ⟨by rfl, by intro w hSw; (try dsimp only at hSw); go_simp⟩) hHeld ?_
    simp only [List.getElem_toArray, List.getElem_cons_zero, List.getElem_cons_succ, Act.put, List.setIfInBounds_toArray, List.set_cons_zero, List.set_cons_succ]
    refine wpAnyH_ready (rs := [6]) (by kernel_rfl) (by simp) (AllReadyH.cons rfl (fun K hK => ?_) AllReadyH.nil)
    go_simp
    refine (unhide C2 _ (unhide HU) (unhide HT)).mono ?_
    rintro e w3 ⟨rfl, hb1⟩
    have hbx := hb1
    replace x0 := cell_later hbx x0
    replace x1 := cell_later hbx x1
    replace x2 := cell_later hbx x2
    replace x3 := cell_later hbx x3
    replace HX := hide ((unhide HX).later hbx)
    replace HU := hide ((unhide HU).later hbx)
    replace HT := hide ((unhide HT).later hbx)
    replace HB := hide (below_on (unhide HB) hbx)
    refine hK.out _ _ ⟨x0, x1, x2, x3⟩ (fun hHeld2 => ?_)
    clear hK K hb1 hbx hHeld
    have hHeld := hHeld2
    clear hHeld2
    simp only [Act.put, List.setIfInBounds_toArray, List.set_cons_zero, List.set_cons_succ]
    refine wpAnyH_take (i := 7) (v := .string (st T2)) rfl (by kernel_rfl) (by kernel_rfl) (by kernel_rfl) (fun _ _ _ h => h) (Or.inl ⟨by rfl, by intro w hSw; (try dsimp only at hSw); go_simp⟩) hHeld ?_
    simp only [List.getElem_toArray, List.getElem_cons_zero, List.getElem_cons_succ, Act.put, List.setIfInBounds_toArray, List.set_cons_zero, List.set_cons_succ]
    refine wpAnyH_take (i := 8) (v := .string (st T2)) rfl (by kernel_rfl) (by kernel_rfl) (by kernel_rfl) (fun _ _ _ h => h) (Or.inl ⟨by rfl, by intro w hSw; (try dsimp only at hSw); go_simp⟩) hHeld ?_
    simp only [List.getElem_toArray, List.getElem_cons_zero, List.getElem_cons_succ, Act.put, List.setIfInBounds_toArray, List.set_cons_zero, List.set_cons_succ]
    refine wpAnyH_done (by kernel_rfl) ?_ _
    clear hHeld
    go_wp2
    go_ret
    exact ⟨rfl, unhide HB⟩
set_option maxHeartbeats 8000000 in
theorem rtS16 (g h : Bool) (a b : Option Addr) (n c p d : Nat) (xs us : List Int) (V U : Nat) (w : World) (hx : Arg w a n c xs) (hu : Arg w b p d us) (hz : Nm xs (V : Int)) (hz2 : Nm us (U : Int)) (l1 : n ≤ 40) (l2 : p ≤ 40) (hg : xs = [] → g = false) (hg2 : us = [] → h = false) (hV : (Lib.decDigits V).length ≤ 1000) (hU : (Lib.decDigits U).length ≤ 1000) :
    Calls Tryz.prog 60 #[.agg #[.bool g, .slice a n c, .bool h, .slice b p d]] w fun e w' => e = .returned (.string (st (rtL g V h U))) ∧ Below w.heap.size w w' := by
  have al : Below w.heap.size w (w.alloc (.cells #[.bool g, .slice a n c, .bool h, .slice b p d] 27)) := (Below.refl _ _).alloc (Nat.le_refl _) _
  have C1 := hide (fun w' (k : Arg w' a n c xs) => textS16 g a n c xs V w' k hz (by omega) hg hV)
  have C2 := hide (fun w' (k : Arg w' b p d us) => textS16 h b p d us U w' k hz2 (by omega) hg2 hU)
  have C0 := hide (fun w' (x : Nat) (k : Arg w' b p d us) (k' : Arg w' (some ⟨x, 0, none⟩) 1 1 [1]) => cmpS_any b (some ⟨x, 0, none⟩) p 1 d 1 us [1] w' k.sl k'.sl k.len k'.len (Nat.le_trans k.cap k.top) (Nat.le_trans k'.cap k'.top))
  have CE := cmp_one hz2
  generalize cmpL us [1] = cm at *
  have HX := hide (hx.later al)
  have HU := hide (hu.later al)
  have HB := hide al
  have lx := tx_len (g := g) hV
  have ly := tx_len (g := h) hU
  clear hx hu hz hz2 l1 l2 hg hg2 hV hU
  unfold rtL
  obtain ⟨X, hX⟩ : ∃ X, X = txV g V := ⟨_, rfl⟩
  obtain ⟨Y, hY⟩ : ∃ Y, Y = txV h U := ⟨_, rfl⟩
  rw [← hX] at C1 lx ⊢
  rw [← hY] at C2 ly ⊢
  clear hX hY
  by_cases u1 : U = 1
  · have u2 : (cm == 0) = true := by rw [CE]; exact decide_eq_true (by omega)
    rw [if_pos u1]
    clear u1 CE
    go_enter Tryz.func60, Tryz.ntmps60
    go_upto_region 1 with fail
    have z0 : (w.alloc (.cells #[.bool g, .slice a n c, .bool h, .slice b p d] 27)).cell? ⟨w.heap.size, 0, none⟩ = some (.bool g) := by simp [go_sem]
    have z1 : (w.alloc (.cells #[.bool g, .slice a n c, .bool h, .slice b p d] 27)).cell? ⟨w.heap.size, 1, none⟩ = some (.slice a n c) := by simp [go_sem]
    have z2 : (w.alloc (.cells #[.bool g, .slice a n c, .bool h, .slice b p d] 27)).cell? ⟨w.heap.size, 2, none⟩ = some (.bool h) := by simp [go_sem]
    have z3 : (w.alloc (.cells #[.bool g, .slice a n c, .bool h, .slice b p d] 27)).cell? ⟨w.heap.size, 3, none⟩ = some (.slice b p d) := by simp [go_sem]
    clear al
    generalize (w.alloc (.cells #[.bool g, .slice a n c, .bool h, .slice b p d] 27)) = w0 at *
    have C := hide (unhide C0 (w0.alloc (.cells #[.int .i64 1] 3)) w0.heap.size ((unhide HU).later ((Below.refl _ _).alloc (Nat.le_refl _) _)) (one_arg w0 1).1)
    go_wp2_with fail
    refine (unhide C).mono ?_
    rintro e w1 ⟨rfl, hb2⟩
    have hb1 := below_one16 hb2
    replace HB := hide (below_on (unhide HB) hb1)
    have x0 := cell_later hb1 z0
    have x1 := cell_later hb1 z1
    have x2 := cell_later hb1 z2
    have x3 := cell_later hb1 z3
    replace HX := hide ((unhide HX).later hb1)
    replace HU := hide ((unhide HU).later hb1)
    clear hb1 hb2 C0 C z0 z1 z2 z3
    go_wp2_with fail
    refine (unhide C1 _ (unhide HX)).mono ?_
    rintro e w2 ⟨rfl, hb⟩
    replace HB := hide (below_on (unhide HB) hb)
    clear hb
    go_wp2
    go_ret
    exact ⟨rfl, unhide HB⟩
  · have u2 : (cm == 0) = false := by rw [CE]; exact decide_eq_false (by omega)
    rw [if_neg u1]
    clear u1 CE
    obtain ⟨K1, k1, k2⟩ : ∃ K, ({ data := #[47] } : ByteArray) = K ∧ K = st [47] := ⟨_, rfl, rfl⟩
    obtain ⟨T1, t1⟩ : ∃ T, T = X ++ [47] := ⟨_, rfl⟩
    obtain ⟨T2, t2⟩ : ∃ T, T = T1 ++ Y := ⟨_, rfl⟩
    have m1 : T1.length = X.length + 1 := by rw [t1]; simp
    have A1 : st X ++ K1 = st T1 := by rw [k2, st_add, t1]
    have A2 : st T1 ++ st Y = st T2 := by rw [st_add, t2]
    have y1 : ¬ (9223372036854775807 < (st X).size + K1.size) := by rw [k2, st_size, st_size]; simp; omega
    have y2 : ¬ (9223372036854775807 < (st T1).size + (st Y).size) := by rw [st_size, st_size]; omega
    rw [← t1, ← t2]
    clear t1 t2 k2 m1 lx ly
    go_enter Tryz.func60, Tryz.ntmps60
    go_upto_region 1 with fail
    have z0 : (w.alloc (.cells #[.bool g, .slice a n c, .bool h, .slice b p d] 27)).cell? ⟨w.heap.size, 0, none⟩ = some (.bool g) := by simp [go_sem]
    have z1 : (w.alloc (.cells #[.bool g, .slice a n c, .bool h, .slice b p d] 27)).cell? ⟨w.heap.size, 1, none⟩ = some (.slice a n c) := by simp [go_sem]
    have z2 : (w.alloc (.cells #[.bool g, .slice a n c, .bool h, .slice b p d] 27)).cell? ⟨w.heap.size, 2, none⟩ = some (.bool h) := by simp [go_sem]
    have z3 : (w.alloc (.cells #[.bool g, .slice a n c, .bool h, .slice b p d] 27)).cell? ⟨w.heap.size, 3, none⟩ = some (.slice b p d) := by simp [go_sem]
    clear al
    generalize (w.alloc (.cells #[.bool g, .slice a n c, .bool h, .slice b p d] 27)) = w0 at *
    have C := hide (unhide C0 (w0.alloc (.cells #[.int .i64 1] 3)) w0.heap.size ((unhide HU).later ((Below.refl _ _).alloc (Nat.le_refl _) _)) (one_arg w0 1).1)
    go_wp2_with fail
    refine (unhide C).mono ?_
    rintro e w1 ⟨rfl, hb2⟩
    have hb1 := below_one16 hb2
    replace HB := hide (below_on (unhide HB) hb1)
    have x0 := cell_later hb1 z0
    have x1 := cell_later hb1 z1
    have x2 := cell_later hb1 z2
    have x3 := cell_later hb1 z3
    replace HX := hide ((unhide HX).later hb1)
    replace HU := hide ((unhide HU).later hb1)
    clear hb1 hb2 C0 C z0 z1 z2 z3
    go_upto_region 3 with fail
    refine wp_region_held_drew (S := fun w' => w'.cell? ⟨w.heap.size, 0, none⟩ = some (.bool g) ∧ w'.cell? ⟨w.heap.size, 1, none⟩ = some (.slice a n c) ∧ w'.cell? ⟨w.heap.size, 2, none⟩ = some (.bool h) ∧ w'.cell? ⟨w.heap.size, 3, none⟩ = some (.slice b p d)) (by kernel_rfl) ⟨x0, x1, x2, x3⟩ (fun hHeld => ?_)
    simp only [List.size_toArray, List.length_cons, List.length_nil, Nat.reduceAdd, Array.replicate_succ, Array.replicate_zero, List.push_toArray, List.nil_append, List.cons_append]
    refine wpAnyH_take (i := 0) (v := .pointer (some ⟨w.heap.size, 0, none⟩)) rfl (by kernel_rfl) (by kernel_rfl) (by kernel_rfl) (fun _ _ _ h => h) (Or.inl ⟨by rfl, by intro w hSw; (try dsimp only at hSw); go_simp⟩) hHeld ?_
    simp only [List.getElem_toArray, List.getElem_cons_zero, List.getElem_cons_succ, Act.put, List.setIfInBounds_toArray, List.set_cons_zero, List.set_cons_succ]
    refine wpAnyH_take (i := 1) (v := .agg #[.bool g, .slice a n c]) rfl (by kernel_rfl) (by kernel_rfl) (by kernel_rfl) (fun _ _ _ h => h) (Or.inl ⟨by rfl, by intro w hSw; (try dsimp only at hSw); go_simp⟩) hHeld ?_
    simp only [List.getElem_toArray, List.getElem_cons_zero, List.getElem_cons_succ, Act.put, List.setIfInBounds_toArray, List.set_cons_zero, List.set_cons_succ]
    refine wpAnyH_take (i := 4) (v := .pointer (some ⟨w.heap.size, 2, none⟩)) rfl (by kernel_rfl) (by kernel_rfl) (by kernel_rfl) (fun _ _ _ h => h) (Or.inl ⟨by rfl, by intro w hSw; (try dsimp only at hSw); go_simp⟩) hHeld ?_
    simp only [List.getElem_toArray, List.getElem_cons_zero, List.getElem_cons_succ, Act.put, List.setIfInBounds_toArray, List.set_cons_zero, List.set_cons_succ]
    refine wpAnyH_take (i := 5) (v := .agg #[.bool h, .slice b p d]) rfl (by kernel_rfl) (by kernel_rfl) (by kernel_rfl) (fun _ _ _ h => h) (Or.inl ⟨by rfl, by intro w hSw; (try dsimp only at hSw); go_simp⟩) hHeld ?_
    simp only [List.getElem_toArray, List.getElem_cons_zero, List.getElem_cons_succ, Act.put, List.setIfInBounds_toArray, List.set_cons_zero, List.set_cons_succ]
    refine wpAnyH_ready (rs := [2]) (by kernel_rfl) (by simp) (AllReadyH.cons rfl (fun K hK => ?_) AllReadyH.nil)
    go_simp
    refine (unhide C1 _ ((unhide HX).later (Below.refl _ _).drew)).mono ?_
    rintro e w2 ⟨rfl, hb1⟩
    have hbx := below_of_drew hb1
    replace x0 := cell_later hbx x0
    replace x1 := cell_later hbx x1
    replace x2 := cell_later hbx x2
    replace x3 := cell_later hbx x3
    replace HX := hide ((unhide HX).later hbx)
    replace HU := hide ((unhide HU).later hbx)
    replace HB := hide (below_on (unhide HB) hbx)
    refine hK.out _ _ ⟨x0, x1, x2, x3⟩ (fun hHeld2 => ?_)
    clear hK K hb1 hbx hHeld
    have hHeld := hHeld2
    clear hHeld2
    simp only [Act.put, List.setIfInBounds_toArray, List.set_cons_zero, List.set_cons_succ]
    refine wpAnyH_take (i := 3) (v := .string (st T1)) rfl (by kernel_rfl) (by kernel_rfl) (by kernel_rfl) (fun _ _ _ h => h) (Or.inl ⟨by rfl, by intro w hSw; (try dsimp only at hSw); go_simp⟩) hHeld ?_
    simp only [List.getElem_toArray, List.getElem_cons_zero, List.getElem_cons_succ, Act.put, List.setIfInBounds_toArray, List.set_cons_zero, List.set_cons_succ]
    refine wpAnyH_ready (rs := [6]) (by kernel_rfl) (by simp) (AllReadyH.cons rfl (fun K hK => ?_) AllReadyH.nil)
    go_simp
    refine (unhide C2 _ (unhide HU)).mono ?_
    rintro e w3 ⟨rfl, hb1⟩
    have hbx := hb1
    replace x0 := cell_later hbx x0
    replace x1 := cell_later hbx x1
    replace x2 := cell_later hbx x2
    replace x3 := cell_later hbx x3
    replace HX := hide ((unhide HX).later hbx)
    replace HU := hide ((unhide HU).later hbx)
    replace HB := hide (below_on (unhide HB) hbx)
    refine hK.out _ _ ⟨x0, x1, x2, x3⟩ (fun hHeld2 => ?_)
    clear hK K hb1 hbx hHeld
    have hHeld := hHeld2
    clear hHeld2
    simp only [Act.put, List.setIfInBounds_toArray, List.set_cons_zero, List.set_cons_succ]
    refine wpAnyH_take (i := 7) (v := .string (st T2)) rfl (by kernel_rfl) (by kernel_rfl) (by kernel_rfl) (fun _ _ _ h => h) (Or.inl ⟨by rfl, by intro w hSw; (try dsimp only at hSw); go_simp⟩) hHeld ?_
    simp only [List.getElem_toArray, List.getElem_cons_zero, List.getElem_cons_succ, Act.put, List.setIfInBounds_toArray, List.set_cons_zero, List.set_cons_succ]
    refine wpAnyH_take (i := 8) (v := .string (st T2)) rfl (by kernel_rfl) (by kernel_rfl) (by kernel_rfl) (fun _ _ _ h => h) (Or.inl ⟨by rfl, by intro w hSw; (try dsimp only at hSw); go_simp⟩) hHeld ?_
    simp only [List.getElem_toArray, List.getElem_cons_zero, List.getElem_cons_succ, Act.put, List.setIfInBounds_toArray, List.set_cons_zero, List.set_cons_succ]
    refine wpAnyH_done (by kernel_rfl) ?_ _
    clear hHeld
    go_wp2
    go_ret
    exact ⟨rfl, unhide HB⟩
theorem alwaysS16 (x : ByteArray) (w : World) : Calls Tryz.prog 59 #[.string x] w fun e w' => e = .returned (.bool true) ∧ w' = w := by
  go_enter Tryz.func59, Tryz.ntmps59
  go_wp2
  go_ret
  exact ⟨rfl, rfl⟩
theorem whereS16 (x : ByteArray) (w : World) : Calls Tryz.prog 86 #[.string x, .func (Fn.func 59) #[] #[]] w fun e w' => e = .returned (.tuple #[.string x, .bool true]) ∧ w' = w := by
  go_enter Tryz.func86, Tryz.ntmps86
  go_wp2_with fail
  refine (alwaysS16 x w).mono ?_
  rintro e w1 ⟨rfl, rfl⟩
  go_wp2
  go_ret2
  exact ⟨rfl, rfl⟩
/-- What RatText tells. -/
def rtV (g : Bool) (xs : List Int) (h : Bool) (us : List Int) : ByteArray := if goodR g xs h us = true then st (rtL g (val xs).toNat h (val us).toNat) else st []
theorem goodR_parts16 {g h : Bool} {xs us : List Int} (k : goodR g xs h us = true) : goodB g xs = true ∧ goodB h us = true := by
  unfold goodR at k
  rw [Bool.and_eq_true, Bool.and_eq_true] at k
  exact k.1
set_option maxHeartbeats 4000000 in
theorem ofRat16 (g h : Bool) (a b : Option Addr) (n c p d : Nat) (xs us : List Int) (w : World) (hx : Arg w a n c xs) (hu : Arg w b p d us) (ht : Tab15 w) :
    Calls Tryz.prog 57 #[.agg #[.bool g, .slice a n c, .bool h, .slice b p d], .func (Fn.func 58) #[] #[], .func (Fn.func 59) #[] #[]] w fun e w' => e = .returned (.tuple #[.string (rtV g xs h us), .bool (goodR g xs h us)]) ∧ Below w.heap.size w w' := by
  have al : Below w.heap.size w (w.alloc (.cells #[.bool g, .slice a n c, .bool h, .slice b p d] 27)) := (Below.refl _ _).alloc (Nat.le_refl _) _
  have HX := hide (hx.later al)
  have HU := hide (hu.later al)
  have CG := hide (goodRI_any ⟨g, a, n, c, h, b, p, d⟩ xs us (w.alloc (.cells #[.bool g, .slice a n c, .bool h, .slice b p d] 27)) (hx.later al) (hu.later al))
  have HT := hide (ht.later al)
  cases k : goodR g xs h us
  · have E : rtV g xs h us = st [] := by unfold rtV; rw [if_neg (by rw [k]; simp)]
    rw [E]
    rw [k] at CG
    clear E k hx hu HX HU al ht HT
    go_enter Tryz.func57, Tryz.ntmps57
    go_wp2_with fail
    refine (unhide CG).mono ?_
    rintro e w1 ⟨rfl, hb1⟩
    have HB := hide (below_one16 hb1)
    clear hb1
    go_wp2
    go_ret2
    exact ⟨rfl, unhide HB⟩
  · have E : rtV g xs h us = st (rtL g (val xs).toNat h (val us).toNat) := by unfold rtV; rw [if_pos k]
    rw [E]
    rw [k] at CG
    obtain ⟨k1, k2⟩ := goodR_parts16 k
    obtain ⟨p1, p2, p3, p4⟩ := good_parts k1
    obtain ⟨q1, q2, q3, q4⟩ := good_parts k2
    have ln := hx.len
    have lp := hu.len
    have CT := hide (fun w' (k : Arg w' a n c xs) (k' : Arg w' b p d us) (t : Tab15 w') => rtI16 g h a b n c p d xs us _ _ w' k k' (nm_of16 p1 p2) (nm_of16 q1 q2) (by omega) (by omega) p4 q4 (dd_big16 p1 p3) (dd_big16 q1 q3) t)
    generalize rtL g (val xs).toNat h (val us).toNat = R at *
    clear E k k1 k2 p1 p2 p3 p4 q1 q2 q3 q4 ln lp hx hu al ht
    go_enter Tryz.func57, Tryz.ntmps57
    go_wp2_with fail
    refine (unhide CG).mono ?_
    rintro e w1 ⟨rfl, hb1⟩
    have x0 : w1.cell? ⟨w.heap.size, 0, none⟩ = some (.bool g) := cell_later hb1 (by simp [go_sem])
    have x1 : w1.cell? ⟨w.heap.size, 1, none⟩ = some (.slice a n c) := cell_later hb1 (by simp [go_sem])
    have x2 : w1.cell? ⟨w.heap.size, 2, none⟩ = some (.bool h) := cell_later hb1 (by simp [go_sem])
    have x3 : w1.cell? ⟨w.heap.size, 3, none⟩ = some (.slice b p d) := cell_later hb1 (by simp [go_sem])
    have HB := hide (below_one16 hb1)
    replace HX := hide ((unhide HX).later hb1)
    replace HU := hide ((unhide HU).later hb1)
    replace HT := hide ((unhide HT).later hb1)
    clear hb1 CG
    go_wp2_with fail
    refine (unhide CT _ (unhide HX) (unhide HU) (unhide HT)).mono ?_
    rintro e w2 ⟨rfl, hb⟩
    replace HB := hide (below_on (unhide HB) hb)
    clear hb
    go_wp2_with fail
    refine (whereS16 _ _).mono ?_
    rintro e w3 ⟨rfl, rfl⟩
    go_wp2
    go_ret2
    exact ⟨rfl, unhide HB⟩
set_option maxHeartbeats 4000000 in
theorem RatTextS (g h : Bool) (a b : Option Addr) (n c p d : Nat) (xs us : List Int) (w : World) (hx : Arg w a n c xs) (hu : Arg w b p d us) :
    Calls Tryz.prog 23 #[.agg #[.bool g, .slice a n c, .bool h, .slice b p d]] w fun e w' => e = .returned (.tuple #[.string (rtV g xs h us), .bool (goodR g xs h us)]) ∧ Below w.heap.size w w' := by
  have al : Below w.heap.size w (w.alloc (.cells #[.bool g, .slice a n c, .bool h, .slice b p d] 27)) := (Below.refl _ _).alloc (Nat.le_refl _) _
  have HX := hide (hx.later al)
  have HU := hide (hu.later al)
  have CG := hide (goodRS_any ⟨g, a, n, c, h, b, p, d⟩ xs us (w.alloc (.cells #[.bool g, .slice a n c, .bool h, .slice b p d] 27)) (hx.later al) (hu.later al))
  cases k : goodR g xs h us
  · have E : rtV g xs h us = st [] := by unfold rtV; rw [if_neg (by rw [k]; simp)]
    rw [E]
    rw [k] at CG
    clear E k hx hu HX HU al
    go_enter Tryz.func23, Tryz.ntmps23
    go_wp2_with fail
    refine (unhide CG).mono ?_
    rintro e w1 ⟨rfl, hb1⟩
    have HB := hide (below_one16 hb1)
    clear hb1
    go_wp2
    go_ret2
    exact ⟨rfl, unhide HB⟩
  · have E : rtV g xs h us = st (rtL g (val xs).toNat h (val us).toNat) := by unfold rtV; rw [if_pos k]
    rw [E]
    rw [k] at CG
    obtain ⟨k1, k2⟩ := goodR_parts16 k
    obtain ⟨p1, p2, p3, p4⟩ := good_parts k1
    obtain ⟨q1, q2, q3, q4⟩ := good_parts k2
    have ln := hx.len
    have lp := hu.len
    have CT := hide (fun w' (k : Arg w' a n c xs) (k' : Arg w' b p d us) => rtS16 g h a b n c p d xs us _ _ w' k k' (nm_of16 p1 p2) (nm_of16 q1 q2) (by omega) (by omega) p4 q4 (dd_big16 p1 p3) (dd_big16 q1 q3))
    generalize rtL g (val xs).toNat h (val us).toNat = R at *
    clear E k k1 k2 p1 p2 p3 p4 q1 q2 q3 q4 ln lp hx hu al
    go_enter Tryz.func23, Tryz.ntmps23
    go_wp2_with fail
    refine (unhide CG).mono ?_
    rintro e w1 ⟨rfl, hb1⟩
    have x0 : w1.cell? ⟨w.heap.size, 0, none⟩ = some (.bool g) := cell_later hb1 (by simp [go_sem])
    have x1 : w1.cell? ⟨w.heap.size, 1, none⟩ = some (.slice a n c) := cell_later hb1 (by simp [go_sem])
    have x2 : w1.cell? ⟨w.heap.size, 2, none⟩ = some (.bool h) := cell_later hb1 (by simp [go_sem])
    have x3 : w1.cell? ⟨w.heap.size, 3, none⟩ = some (.slice b p d) := cell_later hb1 (by simp [go_sem])
    have HB := hide (below_one16 hb1)
    replace HX := hide ((unhide HX).later hb1)
    replace HU := hide ((unhide HU).later hb1)
    clear hb1 CG
    go_wp2_with fail
    refine (unhide CT _ (unhide HX) (unhide HU)).mono ?_
    rintro e w2 ⟨rfl, hb⟩
    replace HB := hide (below_on (unhide HB) hb)
    clear hb
    go_wp2
    go_ret2
    exact ⟨rfl, unhide HB⟩
set_option maxHeartbeats 4000000 in
theorem RatTextI (g h : Bool) (a b : Option Addr) (n c p d : Nat) (xs us : List Int) (w : World) (hx : Arg w a n c xs) (hu : Arg w b p d us) (ht : Tab15 w) :
    Calls Tryz.prog 22 #[.agg #[.bool g, .slice a n c, .bool h, .slice b p d]] w fun e w' => e = .returned (.tuple #[.string (rtV g xs h us), .bool (goodR g xs h us)]) ∧ Below w.heap.size w w' := by
  have al : Below w.heap.size w (w.alloc (.cells #[.bool g, .slice a n c, .bool h, .slice b p d] 27)) := (Below.refl _ _).alloc (Nat.le_refl _) _
  have CO := hide (ofRat16 g h a b n c p d xs us (w.alloc (.cells #[.bool g, .slice a n c, .bool h, .slice b p d] 27)) (hx.later al) (hu.later al) (ht.later al))
  generalize rtV g xs h us = R at *
  generalize goodR g xs h us = k at *
  clear hx hu ht al
  go_enter Tryz.func22, Tryz.ntmps22
  go_wp2_with fail
  refine (unhide CO).mono ?_
  rintro e w1 ⟨rfl, hb1⟩
  have HB := hide (below_one16 hb1)
  clear hb1
  go_wp2
  go_ret2
  exact ⟨rfl, unhide HB⟩
end Go.Proofs.YtdgonpbponnnaaaGreatDoor
