/- The walk through the law FnExactCropOf: it returns true. No condition beyond those typed. Written by mkilaw.py. -/
import Derived.Test.YtakhgfecjghkpaaCs14
namespace Go.Proofs.Ytakhgfecjghkpaa
open Go.RowKit
set_option linter.unusedVariables false
set_option maxRecDepth 100000
set_option linter.unusedSimpArgs false

set_option maxHeartbeats 8000000 in
theorem lawCropOf_walk (p0 : Int × Int × Int × Int) (a : Option Addr) (n c : Nat) (xs : List Int) (p2 : Int × Int × Int × Int) (w : World) (h : Sl w a xs) (hn : xs.length = n) (hm : n ≤ maxLen) :
    Calls Try.prog 6 #[.agg #[.int .i64 p0.1, .int .i64 p0.2.1, .int .i64 p0.2.2.1, .int .i64 p0.2.2.2], .slice a n c, .agg #[.int .i64 p2.1, .int .i64 p2.2.1, .int .i64 p2.2.2.1, .int .i64 p2.2.2.2]] w fun e w' => e = .returned (.bool true) ∧ Below w.heap.size w w' := by
  by_cases hbig : 1048576 < n
  · have hd : (1048576 : Int) < (n : Int) := by omega
    clear h hn
    have B0 := hide (show Below w.heap.size w ((w.alloc (.cells #[.int .i64 p0.1, .int .i64 p0.2.1, .int .i64 p0.2.2.1, .int .i64 p0.2.2.2] 23)).alloc (.cells #[.int .i64 p2.1, .int .i64 p2.2.1, .int .i64 p2.2.2.1, .int .i64 p2.2.2.2] 23)) from (((Below.refl _ _).alloc (by simp) _).alloc (by simp) _))
    go_enter Try.func6, Try.ntmps6
    go_wp2
    go_ret
    exact ⟨rfl, unhide B0⟩
  have hd : ¬ ((1048576 : Int) < (n : Int)) := by omega
  have n1 : n ≤ 1048576 := by omega
  clear hbig
  have HS := hide h.below8
  have HN := hide hn
  have HM := hide hm
  clear h hn hm
  have CS := hide (fun (a' : Option Addr) (c' : Nat) (w' : World) (k : Arg w' a' n c' xs) => CropS a' n c' xs p0.1 p0.2.1 p0.2.2.1 p0.2.2.2 p2.1 p2.2.1 p2.2.2.1 p2.2.2.2 w' k n1)
  have CI := hide (fun (a' : Option Addr) (c' : Nat) (w' : World) (k : Arg w' a' n c' xs) => CropI a' n c' xs p0.1 p0.2.1 p0.2.2.1 p0.2.2.2 p2.1 p2.2.1 p2.2.2.1 p2.2.2.2 w' k n1)
  generalize crV xs p0.1 p0.2.1 p0.2.2.1 p0.2.2.2 p2.1 p2.2.1 p2.2.2.1 p2.2.2.2 = L0 at CS CI
  generalize crB xs p0.1 p0.2.1 p0.2.2.1 p0.2.2.2 p2.1 p2.2.1 p2.2.2.1 p2.2.2.2 = ok at CS CI
  have x0 : (ok != ok) = false := by simp
  have TI := hide (fun (w' : World) (k : Sl w' a xs) => toI_own a n c xs w' k (unhide HN) n1)
  go_enter Try.func6, Try.ntmps6
  go_upto_region 3 with fail
  have hb : Below w.heap.size w ((w.alloc (.cells #[.int .i64 p0.1, .int .i64 p0.2.1, .int .i64 p0.2.2.1, .int .i64 p0.2.2.2] 23)).alloc (.cells #[.int .i64 p2.1, .int .i64 p2.2.1, .int .i64 p2.2.2.1, .int .i64 p2.2.2.2] 23)) := (((Below.refl _ _).alloc (by simp) _).alloc (by simp) _)
  have k0_0 : ((w.alloc (.cells #[.int .i64 p0.1, .int .i64 p0.2.1, .int .i64 p0.2.2.1, .int .i64 p0.2.2.2] 23)).alloc (.cells #[.int .i64 p2.1, .int .i64 p2.2.1, .int .i64 p2.2.2.1, .int .i64 p2.2.2.2] 23)).cell? ⟨w.heap.size, 0, none⟩ = some (.int .i64 p0.1) := by simp [go_sem]
  have k0_1 : ((w.alloc (.cells #[.int .i64 p0.1, .int .i64 p0.2.1, .int .i64 p0.2.2.1, .int .i64 p0.2.2.2] 23)).alloc (.cells #[.int .i64 p2.1, .int .i64 p2.2.1, .int .i64 p2.2.2.1, .int .i64 p2.2.2.2] 23)).cell? ⟨w.heap.size, 1, none⟩ = some (.int .i64 p0.2.1) := by simp [go_sem]
  have k0_2 : ((w.alloc (.cells #[.int .i64 p0.1, .int .i64 p0.2.1, .int .i64 p0.2.2.1, .int .i64 p0.2.2.2] 23)).alloc (.cells #[.int .i64 p2.1, .int .i64 p2.2.1, .int .i64 p2.2.2.1, .int .i64 p2.2.2.2] 23)).cell? ⟨w.heap.size, 2, none⟩ = some (.int .i64 p0.2.2.1) := by simp [go_sem]
  have k0_3 : ((w.alloc (.cells #[.int .i64 p0.1, .int .i64 p0.2.1, .int .i64 p0.2.2.1, .int .i64 p0.2.2.2] 23)).alloc (.cells #[.int .i64 p2.1, .int .i64 p2.2.1, .int .i64 p2.2.2.1, .int .i64 p2.2.2.2] 23)).cell? ⟨w.heap.size, 3, none⟩ = some (.int .i64 p0.2.2.2) := by simp [go_sem]
  have k1_0 : ((w.alloc (.cells #[.int .i64 p0.1, .int .i64 p0.2.1, .int .i64 p0.2.2.1, .int .i64 p0.2.2.2] 23)).alloc (.cells #[.int .i64 p2.1, .int .i64 p2.2.1, .int .i64 p2.2.2.1, .int .i64 p2.2.2.2] 23)).cell? ⟨w.heap.size + 1, 0, none⟩ = some (.int .i64 p2.1) := by simp [go_sem]
  have k1_1 : ((w.alloc (.cells #[.int .i64 p0.1, .int .i64 p0.2.1, .int .i64 p0.2.2.1, .int .i64 p0.2.2.2] 23)).alloc (.cells #[.int .i64 p2.1, .int .i64 p2.2.1, .int .i64 p2.2.2.1, .int .i64 p2.2.2.2] 23)).cell? ⟨w.heap.size + 1, 1, none⟩ = some (.int .i64 p2.2.1) := by simp [go_sem]
  have k1_2 : ((w.alloc (.cells #[.int .i64 p0.1, .int .i64 p0.2.1, .int .i64 p0.2.2.1, .int .i64 p0.2.2.2] 23)).alloc (.cells #[.int .i64 p2.1, .int .i64 p2.2.1, .int .i64 p2.2.2.1, .int .i64 p2.2.2.2] 23)).cell? ⟨w.heap.size + 1, 2, none⟩ = some (.int .i64 p2.2.2.1) := by simp [go_sem]
  have k1_3 : ((w.alloc (.cells #[.int .i64 p0.1, .int .i64 p0.2.1, .int .i64 p0.2.2.1, .int .i64 p0.2.2.2] 23)).alloc (.cells #[.int .i64 p2.1, .int .i64 p2.2.1, .int .i64 p2.2.2.1, .int .i64 p2.2.2.2] 23)).cell? ⟨w.heap.size + 1, 3, none⟩ = some (.int .i64 p2.2.2.2) := by simp [go_sem]
  have HS := hide ((unhide HS).later hb)
  have szw0 : w.heap.size + 2 ≤ ((w.alloc (.cells #[.int .i64 p0.1, .int .i64 p0.2.1, .int .i64 p0.2.2.1, .int .i64 p0.2.2.2] 23)).alloc (.cells #[.int .i64 p2.1, .int .i64 p2.2.1, .int .i64 p2.2.2.1, .int .i64 p2.2.2.2] 23)).heap.size := by simp
  have HB := hide hb
  clear hb
  generalize ((w.alloc (.cells #[.int .i64 p0.1, .int .i64 p0.2.1, .int .i64 p0.2.2.1, .int .i64 p0.2.2.2] 23)).alloc (.cells #[.int .i64 p2.1, .int .i64 p2.2.1, .int .i64 p2.2.2.1, .int .i64 p2.2.2.2] 23)) = w0 at *
  have ltb0 : w.heap.size < w0.heap.size := World.block_lt_of_cell? _ _ k0_0
  have ltb1 : w.heap.size + 1 < w0.heap.size := World.block_lt_of_cell? _ _ k1_0
  go_upto_region 3 with fail
  go_region_held3 (fun w' => w'.cell? ⟨w.heap.size, 0, none⟩ = some (.int .i64 p0.1) ∧ w'.cell? ⟨w.heap.size, 1, none⟩ = some (.int .i64 p0.2.1) ∧ w'.cell? ⟨w.heap.size, 2, none⟩ = some (.int .i64 p0.2.2.1) ∧ w'.cell? ⟨w.heap.size, 3, none⟩ = some (.int .i64 p0.2.2.2) ∧ w'.cell? ⟨w.heap.size + 1, 0, none⟩ = some (.int .i64 p2.1) ∧ w'.cell? ⟨w.heap.size + 1, 1, none⟩ = some (.int .i64 p2.2.1) ∧ w'.cell? ⟨w.heap.size + 1, 2, none⟩ = some (.int .i64 p2.2.2.1) ∧ w'.cell? ⟨w.heap.size + 1, 3, none⟩ = some (.int .i64 p2.2.2.2)) (with_reducible (first | exact ⟨k0_0, k0_1, k0_2, k0_3, k1_0, k1_1, k1_2, k1_3⟩ | exact ⟨cdP k0_0, cdP k0_1, cdP k0_2, cdP k0_3, cdP k1_0, cdP k1_1, cdP k1_2, cdP k1_3⟩ | fail))
    (first
    | (go_at_call_of 8 (Value.agg #[Value.int IntKind.i64 p0.1, Value.int IntKind.i64 p0.2.1, Value.int IntKind.i64 p0.2.2.1, Value.int IntKind.i64 p0.2.2.2]); refine (toW p0.1 p0.2.1 p0.2.2.1 p0.2.2.2 _).mono ?_; rintro e w2p0 ⟨rfl, hb⟩; have hbx : Below w0.heap.size w0 w2p0 := below_of_drew hb; have szw2p0 := hbx.size; replace k0_0 := cell_later hbx k0_0; replace k0_1 := cell_later hbx k0_1; replace k0_2 := cell_later hbx k0_2; replace k0_3 := cell_later hbx k0_3; replace k1_0 := cell_later hbx k1_0; replace k1_1 := cell_later hbx k1_1; replace k1_2 := cell_later hbx k1_2; replace k1_3 := cell_later hbx k1_3; replace HS := hide ((unhide HS).later hbx); have HBr := hide hbx; clear hbx hb)
    | (go_at_call 24; refine (unhide TI _ (unhide HS).sl).mono ?_; rintro e w2a ⟨gw2, rfl, hb, ow⟩; have hbx : Below w2p0.heap.size w2p0 w2a := hb; have szw2a := hbx.size; replace k0_0 := cell_later hbx k0_0; replace k0_1 := cell_later hbx k0_1; replace k0_2 := cell_later hbx k0_2; replace k0_3 := cell_later hbx k0_3; replace k1_0 := cell_later hbx k1_0; replace k1_1 := cell_later hbx k1_1; replace k1_2 := cell_later hbx k1_2; replace k1_3 := cell_later hbx k1_3; replace HS := hide ((unhide HS).later hbx); have O1 := hide (ow); have HBr := hide (below_on (unhide HBr) hbx); clear hbx hb ow)
    | (go_at_call_of 8 (Value.agg #[Value.int IntKind.i64 p2.1, Value.int IntKind.i64 p2.2.1, Value.int IntKind.i64 p2.2.2.1, Value.int IntKind.i64 p2.2.2.2]); refine (toW p2.1 p2.2.1 p2.2.2.1 p2.2.2.2 _).mono ?_; rintro e w2p2 ⟨rfl, hb⟩; have hbx : Below w2a.heap.size w2a w2p2 := hb; have szw2p2 := hbx.size; replace k0_0 := cell_later hbx k0_0; replace k0_1 := cell_later hbx k0_1; replace k0_2 := cell_later hbx k0_2; replace k0_3 := cell_later hbx k0_3; replace k1_0 := cell_later hbx k1_0; replace k1_1 := cell_later hbx k1_1; replace k1_2 := cell_later hbx k1_2; replace k1_3 := cell_later hbx k1_3; replace HS := hide ((unhide HS).later hbx); replace O1 := hide ((unhide O1).later hbx); have HBr := hide (below_on (unhide HBr) hbx); clear hbx hb)
    | (go_at_call 23; refine (unhide CS _ _ _ (unhide O1).arg).mono ?_; rintro e w2 ⟨a0, m0, c0, rfl, hb, sw, lm⟩; have hbx : Below w2p2.heap.size w2p2 w2 := hb; have szw2 := hbx.size; replace k0_0 := cell_later hbx k0_0; replace k0_1 := cell_later hbx k0_1; replace k0_2 := cell_later hbx k0_2; replace k0_3 := cell_later hbx k0_3; replace k1_0 := cell_later hbx k1_0; replace k1_1 := cell_later hbx k1_1; replace k1_2 := cell_later hbx k1_2; replace k1_3 := cell_later hbx k1_3; replace HS := hide ((unhide HS).later hbx); replace O1 := hide ((unhide O1).later hbx); have LN := hide sw.len; have S0 := hide (sw.sl.below8); have HBr := hide (below_on (unhide HBr) hbx); clear hbx hb sw))
  replace HB := hide (below_on (unhide HB) (unhide HBr))
  clear HBr
  all_goals skip
  clear O1
  have b2 : w.heap.size ≤ w2.heap.size := (unhide HB).size
  go_wp2_with fail
  refine (unhide TI _ (unhide HS).sl).mono ?_
  rintro e w4 ⟨gx, rfl, hb, ow⟩
  have szw4 := hb.size
  replace k0_0 := cell_later hb k0_0
  replace k0_1 := cell_later hb k0_1
  replace k0_2 := cell_later hb k0_2
  replace k0_3 := cell_later hb k0_3
  replace k1_0 := cell_later hb k1_0
  replace k1_1 := cell_later hb k1_1
  replace k1_2 := cell_later hb k1_2
  replace k1_3 := cell_later hb k1_3
  replace HS := hide ((unhide HS).later hb)
  replace S0 := hide ((unhide S0).later hb)
  have O2 := hide (ow)
  replace HB := hide (below_on (unhide HB) hb)
  clear hb
  clear ow
  go_upto_region 5 with fail
  go_region_held3 (fun w' => w'.cell? ⟨w.heap.size, 0, none⟩ = some (.int .i64 p0.1) ∧ w'.cell? ⟨w.heap.size, 1, none⟩ = some (.int .i64 p0.2.1) ∧ w'.cell? ⟨w.heap.size, 2, none⟩ = some (.int .i64 p0.2.2.1) ∧ w'.cell? ⟨w.heap.size, 3, none⟩ = some (.int .i64 p0.2.2.2) ∧ w'.cell? ⟨w.heap.size + 1, 0, none⟩ = some (.int .i64 p2.1) ∧ w'.cell? ⟨w.heap.size + 1, 1, none⟩ = some (.int .i64 p2.2.1) ∧ w'.cell? ⟨w.heap.size + 1, 2, none⟩ = some (.int .i64 p2.2.2.1) ∧ w'.cell? ⟨w.heap.size + 1, 3, none⟩ = some (.int .i64 p2.2.2.2)) (with_reducible (first | exact ⟨k0_0, k0_1, k0_2, k0_3, k1_0, k1_1, k1_2, k1_3⟩ | exact ⟨cdP k0_0, cdP k0_1, cdP k0_2, cdP k0_3, cdP k1_0, cdP k1_1, cdP k1_2, cdP k1_3⟩ | fail))
    (first
    | (go_at_call_of 8 (Value.agg #[Value.int IntKind.i64 p0.1, Value.int IntKind.i64 p0.2.1, Value.int IntKind.i64 p0.2.2.1, Value.int IntKind.i64 p0.2.2.2]); refine (toW p0.1 p0.2.1 p0.2.2.1 p0.2.2.2 _).mono ?_; rintro e w6p0 ⟨rfl, hb⟩; have hbx : Below w4.heap.size w4 w6p0 := below_of_drew hb; have szw6p0 := hbx.size; replace k0_0 := cell_later hbx k0_0; replace k0_1 := cell_later hbx k0_1; replace k0_2 := cell_later hbx k0_2; replace k0_3 := cell_later hbx k0_3; replace k1_0 := cell_later hbx k1_0; replace k1_1 := cell_later hbx k1_1; replace k1_2 := cell_later hbx k1_2; replace k1_3 := cell_later hbx k1_3; replace HS := hide ((unhide HS).later hbx); replace S0 := hide ((unhide S0).later hbx); replace O2 := hide ((unhide O2).later hbx); have HBr := hide hbx; clear hbx hb)
    | (go_at_call_of 8 (Value.agg #[Value.int IntKind.i64 p2.1, Value.int IntKind.i64 p2.2.1, Value.int IntKind.i64 p2.2.2.1, Value.int IntKind.i64 p2.2.2.2]); refine (toW p2.1 p2.2.1 p2.2.2.1 p2.2.2.2 _).mono ?_; rintro e w6p2 ⟨rfl, hb⟩; have hbx : Below w6p0.heap.size w6p0 w6p2 := hb; have szw6p2 := hbx.size; replace k0_0 := cell_later hbx k0_0; replace k0_1 := cell_later hbx k0_1; replace k0_2 := cell_later hbx k0_2; replace k0_3 := cell_later hbx k0_3; replace k1_0 := cell_later hbx k1_0; replace k1_1 := cell_later hbx k1_1; replace k1_2 := cell_later hbx k1_2; replace k1_3 := cell_later hbx k1_3; replace HS := hide ((unhide HS).later hbx); replace S0 := hide ((unhide S0).later hbx); replace O2 := hide ((unhide O2).later hbx); have HBr := hide (below_on (unhide HBr) hbx); clear hbx hb)
    | (go_at_call 25; refine (unhide CI _ _ _ (unhide O2).arg).mono ?_; rintro e w6 ⟨a1, m1, c1, rfl, hb, rt, lm1⟩; have hbx : Below w6p2.heap.size w6p2 w6 := hb; have szw6 := hbx.size; replace k0_0 := cell_later hbx k0_0; replace k0_1 := cell_later hbx k0_1; replace k0_2 := cell_later hbx k0_2; replace k0_3 := cell_later hbx k0_3; replace k1_0 := cell_later hbx k1_0; replace k1_1 := cell_later hbx k1_1; replace k1_2 := cell_later hbx k1_2; replace k1_3 := cell_later hbx k1_3; replace HS := hide ((unhide HS).later hbx); replace S0 := hide ((unhide S0).later hbx); replace O2 := hide ((unhide O2).later hbx); have szw6 := hb.size; obtain rfl : m1 = m0 := rt.len.symm.trans (unhide LN); have R1 := hide (rt); have HBr := hide (below_on (unhide HBr) hbx); clear hbx hb rt lm1))
  replace HB := hide (below_on (unhide HB) (unhide HBr))
  clear HBr
  all_goals skip
  go_wp2_with fail
  refine (eqI_same a1 a0 m1 c1 c0 L0 _ (unhide R1).sl (unhide S0).sl (unhide LN) (by unfold maxLen; omega)).mono ?_
  rintro e w7 ⟨rfl, hb⟩
  have szw7 := hb.size
  replace k0_0 := cell_later hb k0_0
  replace k0_1 := cell_later hb k0_1
  replace k0_2 := cell_later hb k0_2
  replace k0_3 := cell_later hb k0_3
  replace k1_0 := cell_later hb k1_0
  replace k1_1 := cell_later hb k1_1
  replace k1_2 := cell_later hb k1_2
  replace k1_3 := cell_later hb k1_3
  replace HS := hide ((unhide HS).later hb)
  replace S0 := hide ((unhide S0).later hb)
  replace O2 := hide ((unhide O2).later hb)
  replace R1 := hide ((unhide R1).later hb)
  replace HB := hide (below_on (unhide HB) hb)
  clear hb
  go_wp2_with fail
  refine (unhide TI _ (unhide HS).sl).mono ?_
  rintro e w8 ⟨gy, rfl, hb, ow⟩
  have szw8 := hb.size
  replace k0_0 := cell_later hb k0_0
  replace k0_1 := cell_later hb k0_1
  replace k0_2 := cell_later hb k0_2
  replace k0_3 := cell_later hb k0_3
  replace k1_0 := cell_later hb k1_0
  replace k1_1 := cell_later hb k1_1
  replace k1_2 := cell_later hb k1_2
  replace k1_3 := cell_later hb k1_3
  replace HS := hide ((unhide HS).later hb)
  replace S0 := hide ((unhide S0).later hb)
  replace O2 := hide ((unhide O2).later hb)
  replace R1 := hide ((unhide R1).later hb)
  have O3 := hide (ow)
  replace HB := hide (below_on (unhide HB) hb)
  clear hb
  clear ow
  go_wp2_with fail
  refine (eqI_same _ _ n n n xs _ (unhide O2).arg.sl (unhide O3).arg.sl (unhide HN) (unhide HM)).mono ?_
  rintro e w9 ⟨rfl, hb⟩
  have szw9 := hb.size
  replace k0_0 := cell_later hb k0_0
  replace k0_1 := cell_later hb k0_1
  replace k0_2 := cell_later hb k0_2
  replace k0_3 := cell_later hb k0_3
  replace k1_0 := cell_later hb k1_0
  replace k1_1 := cell_later hb k1_1
  replace k1_2 := cell_later hb k1_2
  replace k1_3 := cell_later hb k1_3
  replace HS := hide ((unhide HS).later hb)
  replace S0 := hide ((unhide S0).later hb)
  replace O2 := hide ((unhide O2).later hb)
  replace R1 := hide ((unhide R1).later hb)
  replace O3 := hide ((unhide O3).later hb)
  replace HB := hide (below_on (unhide HB) hb)
  clear hb
  clear O3
  go_wp2_with fail
  refine (mark_own _ n n xs 1 _ _ _ (unhide O2).own (unhide HN) n1 (by omega) (by omega)).mono ?_
  rintro e w10 ⟨rfl, hb, _⟩
  replace k0_0 := hb.cell k0_0 (.inl (show w.heap.size < w2.heap.size by omega))
  replace k0_1 := hb.cell k0_1 (.inl (show w.heap.size < w2.heap.size by omega))
  replace k0_2 := hb.cell k0_2 (.inl (show w.heap.size < w2.heap.size by omega))
  replace k0_3 := hb.cell k0_3 (.inl (show w.heap.size < w2.heap.size by omega))
  replace k1_0 := hb.cell k1_0 (.inl (show w.heap.size + 1 < w2.heap.size by omega))
  replace k1_1 := hb.cell k1_1 (.inl (show w.heap.size + 1 < w2.heap.size by omega))
  replace k1_2 := hb.cell k1_2 (.inl (show w.heap.size + 1 < w2.heap.size by omega))
  replace k1_3 := hb.cell k1_3 (.inl (show w.heap.size + 1 < w2.heap.size by omega))
  replace HS := hide ((unhide HS).keep hb (by omega))
  replace S0 := hide ((unhide S0).keep hb (by omega))
  replace R1 := hide ((unhide R1).keep2 hb (by omega))
  replace HB := hide (hb.below (unhide HB) (by omega) (by have := (unhide HB).size; omega))
  have szw10 := hb.size
  clear hb O2
  have d1 : decide ((1 : Int) + (n : Int) < 0) = false := decide_eq_false (by omega)
  go_wp2_with fail
  refine (eqI_same a1 a0 m1 c1 c0 L0 _ (unhide R1).sl (unhide S0).sl (unhide LN) (by unfold maxLen; omega)).mono ?_
  rintro e w11 ⟨rfl, hb⟩
  have szw11 := hb.size
  replace k0_0 := cell_later hb k0_0
  replace k0_1 := cell_later hb k0_1
  replace k0_2 := cell_later hb k0_2
  replace k0_3 := cell_later hb k0_3
  replace k1_0 := cell_later hb k1_0
  replace k1_1 := cell_later hb k1_1
  replace k1_2 := cell_later hb k1_2
  replace k1_3 := cell_later hb k1_3
  replace HS := hide ((unhide HS).later hb)
  replace S0 := hide ((unhide S0).later hb)
  replace R1 := hide ((unhide R1).later hb)
  replace HB := hide (below_on (unhide HB) hb)
  clear hb
  clear d1
  go_wp2_with fail
  refine (markRtI _ a1 m1 c1 1 L0 _ (unhide R1) (by omega) (by omega) (by omega) (by omega)).mono ?_
  rintro e w12 ⟨rfl, hb, rt⟩
  replace k0_0 := (below_but8 hb (Nat.le_refl _)).cell k0_0 (.inl (by omega))
  replace k0_1 := (below_but8 hb (Nat.le_refl _)).cell k0_1 (.inl (by omega))
  replace k0_2 := (below_but8 hb (Nat.le_refl _)).cell k0_2 (.inl (by omega))
  replace k0_3 := (below_but8 hb (Nat.le_refl _)).cell k0_3 (.inl (by omega))
  replace k1_0 := (below_but8 hb (Nat.le_refl _)).cell k1_0 (.inl (by omega))
  replace k1_1 := (below_but8 hb (Nat.le_refl _)).cell k1_1 (.inl (by omega))
  replace k1_2 := (below_but8 hb (Nat.le_refl _)).cell k1_2 (.inl (by omega))
  replace k1_3 := (below_but8 hb (Nat.le_refl _)).cell k1_3 (.inl (by omega))
  replace HS := hide ((unhide HS).keep (below_but8 hb (Nat.le_refl _)) (by omega))
  replace S0 := hide ((unhide S0).keep (below_but8 hb (Nat.le_refl _)) (by omega))
  replace R1 := hide rt
  replace HB := hide ((unhide HB).trans (hb.mono (by omega)))
  have szw12 := hb.size
  clear hb rt
  have d2 : decide ((1 : Int) + (m1 : Int) < 0) = false := decide_eq_false (by omega)
  have d3 : ((1 : Int) + (m1 : Int) != 1 + (m1 : Int)) = false := by simp
  go_wp2_with fail
  refine (heldRtI a1 m1 c1 1 _ (unhide R1).sl (by omega) (by omega) (by omega)).mono ?_
  rintro e w13 ⟨rfl, hb⟩
  replace k0_0 := cell_later hb k0_0
  replace k0_1 := cell_later hb k0_1
  replace k0_2 := cell_later hb k0_2
  replace k0_3 := cell_later hb k0_3
  replace k1_0 := cell_later hb k1_0
  replace k1_1 := cell_later hb k1_1
  replace k1_2 := cell_later hb k1_2
  replace k1_3 := cell_later hb k1_3
  replace HS := hide ((unhide HS).later hb)
  replace S0 := hide ((unhide S0).later hb)
  replace R1 := hide ((unhide R1).later hb)
  replace HB := hide (below_on (unhide HB) hb)
  clear hb
  go_upto_region 22 with fail
  go_region_held3 (fun w' => w'.cell? ⟨w.heap.size, 0, none⟩ = some (.int .i64 p0.1) ∧ w'.cell? ⟨w.heap.size, 1, none⟩ = some (.int .i64 p0.2.1) ∧ w'.cell? ⟨w.heap.size, 2, none⟩ = some (.int .i64 p0.2.2.1) ∧ w'.cell? ⟨w.heap.size, 3, none⟩ = some (.int .i64 p0.2.2.2) ∧ w'.cell? ⟨w.heap.size + 1, 0, none⟩ = some (.int .i64 p2.1) ∧ w'.cell? ⟨w.heap.size + 1, 1, none⟩ = some (.int .i64 p2.2.1) ∧ w'.cell? ⟨w.heap.size + 1, 2, none⟩ = some (.int .i64 p2.2.2.1) ∧ w'.cell? ⟨w.heap.size + 1, 3, none⟩ = some (.int .i64 p2.2.2.2)) (with_reducible (first | exact ⟨k0_0, k0_1, k0_2, k0_3, k1_0, k1_1, k1_2, k1_3⟩ | exact ⟨cdP k0_0, cdP k0_1, cdP k0_2, cdP k0_3, cdP k1_0, cdP k1_1, cdP k1_2, cdP k1_3⟩ | fail))
    (first
    | (go_at_call_of 8 (Value.agg #[Value.int IntKind.i64 p0.1, Value.int IntKind.i64 p0.2.1, Value.int IntKind.i64 p0.2.2.1, Value.int IntKind.i64 p0.2.2.2]); refine (toW p0.1 p0.2.1 p0.2.2.1 p0.2.2.2 _).mono ?_; rintro e w14p0 ⟨rfl, hb⟩; have hbx : Below w13.heap.size w13 w14p0 := below_of_drew hb; have szw14p0 := hbx.size; replace k0_0 := cell_later hbx k0_0; replace k0_1 := cell_later hbx k0_1; replace k0_2 := cell_later hbx k0_2; replace k0_3 := cell_later hbx k0_3; replace k1_0 := cell_later hbx k1_0; replace k1_1 := cell_later hbx k1_1; replace k1_2 := cell_later hbx k1_2; replace k1_3 := cell_later hbx k1_3; replace HS := hide ((unhide HS).later hbx); replace S0 := hide ((unhide S0).later hbx); replace R1 := hide ((unhide R1).later hbx); have HBr := hide hbx; clear hbx hb)
    | (go_at_call 24; refine (unhide TI _ (unhide HS).sl).mono ?_; rintro e w14a ⟨gw14, rfl, hb, ow⟩; have hbx : Below w14p0.heap.size w14p0 w14a := hb; have szw14a := hbx.size; replace k0_0 := cell_later hbx k0_0; replace k0_1 := cell_later hbx k0_1; replace k0_2 := cell_later hbx k0_2; replace k0_3 := cell_later hbx k0_3; replace k1_0 := cell_later hbx k1_0; replace k1_1 := cell_later hbx k1_1; replace k1_2 := cell_later hbx k1_2; replace k1_3 := cell_later hbx k1_3; replace HS := hide ((unhide HS).later hbx); replace S0 := hide ((unhide S0).later hbx); replace R1 := hide ((unhide R1).later hbx); have O4 := hide (ow); have HBr := hide (below_on (unhide HBr) hbx); clear hbx hb ow)
    | (go_at_call_of 8 (Value.agg #[Value.int IntKind.i64 p2.1, Value.int IntKind.i64 p2.2.1, Value.int IntKind.i64 p2.2.2.1, Value.int IntKind.i64 p2.2.2.2]); refine (toW p2.1 p2.2.1 p2.2.2.1 p2.2.2.2 _).mono ?_; rintro e w14p2 ⟨rfl, hb⟩; have hbx : Below w14a.heap.size w14a w14p2 := hb; have szw14p2 := hbx.size; replace k0_0 := cell_later hbx k0_0; replace k0_1 := cell_later hbx k0_1; replace k0_2 := cell_later hbx k0_2; replace k0_3 := cell_later hbx k0_3; replace k1_0 := cell_later hbx k1_0; replace k1_1 := cell_later hbx k1_1; replace k1_2 := cell_later hbx k1_2; replace k1_3 := cell_later hbx k1_3; replace HS := hide ((unhide HS).later hbx); replace S0 := hide ((unhide S0).later hbx); replace R1 := hide ((unhide R1).later hbx); replace O4 := hide ((unhide O4).later hbx); have HBr := hide (below_on (unhide HBr) hbx); clear hbx hb)
    | (go_at_call 25; refine (unhide CI _ _ _ (unhide O4).arg).mono ?_; rintro e w14 ⟨a2, m2, c2, rfl, hb, rt, lm2⟩; have hbx : Below w14p2.heap.size w14p2 w14 := hb; have szw14 := hbx.size; replace k0_0 := cell_later hbx k0_0; replace k0_1 := cell_later hbx k0_1; replace k0_2 := cell_later hbx k0_2; replace k0_3 := cell_later hbx k0_3; replace k1_0 := cell_later hbx k1_0; replace k1_1 := cell_later hbx k1_1; replace k1_2 := cell_later hbx k1_2; replace k1_3 := cell_later hbx k1_3; replace HS := hide ((unhide HS).later hbx); replace S0 := hide ((unhide S0).later hbx); replace R1 := hide ((unhide R1).later hbx); replace O4 := hide ((unhide O4).later hbx); obtain rfl : m2 = m1 := rt.len.symm.trans (unhide LN); have R2 := hide (rt); have HBr := hide (below_on (unhide HBr) hbx); clear hbx hb rt lm2))
  replace HB := hide (below_on (unhide HB) (unhide HBr))
  clear HBr
  all_goals skip
  clear O4
  go_wp2_with fail
  refine (eqI_same a2 a0 m2 c2 c0 L0 _ (unhide R2).sl (unhide S0).sl (unhide LN) (by unfold maxLen; omega)).mono ?_
  rintro e w15 ⟨rfl, hb⟩
  clear k0_0 k0_1 k0_2 k0_3 k1_0 k1_1 k1_2 k1_3
  replace HS := hide ((unhide HS).later hb)
  replace S0 := hide ((unhide S0).later hb)
  replace R1 := hide ((unhide R1).later hb)
  replace R2 := hide ((unhide R2).later hb)
  replace HB := hide (below_on (unhide HB) hb)
  clear hb
  go_wp2_with fail
  refine (heldRtI a1 m2 c1 1 _ (unhide R1).sl (by omega) (by omega) (by omega)).mono ?_
  rintro e w16 ⟨rfl, hb⟩
  replace HS := hide ((unhide HS).later hb)
  replace S0 := hide ((unhide S0).later hb)
  replace R1 := hide ((unhide R1).later hb)
  replace R2 := hide ((unhide R2).later hb)
  replace HB := hide (below_on (unhide HB) hb)
  clear hb
  go_wp2_with fail
  go_ret
  exact ⟨rfl, unhide HB⟩
end Go.Proofs.Ytakhgfecjghkpaa
