/- Products of numbers with signs: the program's mulSigned, the specification's l1Mul. No condition beyond those typed. -/
import Derived.Test.YtdgonpbponnnaaaGreatDoorMulI
import Derived.Test.YtdgonpbponnnaaaGreatDoorSgs
import Derived.Test.YtdgonpbponnnaaaGreatDoorLaw2
namespace Go.Proofs.YtdgonpbponnnaaaGreatDoor
open Go.RowKit
set_option linter.unusedVariables false
set_option maxRecDepth 100000
set_option linter.unusedSimpArgs false

theorem mul_len {w : World} {zs xs ys : List Int} {a a' : Option Addr} {n m c c' : Nat} (h : Nm zs (val xs * val ys)) (hx : Num w a n c xs) (hy : Num w a' m c' ys) (hn : n ≤ 500000) (hm : m ≤ 500000) : zs.length ≤ 1048576 := by
  by_cases h0 : zs.length = 0
  · omega
  have h1 := top_le h.ok h.tr (by omega)
  have h2 := val_lt hx.ok
  have h3 := val_lt hy.ok
  have p2 := val_nonneg hx.ok
  have p3 := val_nonneg hy.ok
  rw [h.v] at h1
  rw [hx.arg.len] at h2
  rw [hy.arg.len] at h3
  have h4 : val xs * val ys ≤ 65536 ^ n * 65536 ^ m := Int.mul_le_mul (by omega) (by omega) p3 (by omega)
  rw [← Int.pow_add] at h4
  by_cases hl : zs.length ≤ 1048576
  · exact hl
  · have h5 := pow_mono (show n + m + 1 ≤ zs.length - 1 by omega)
    rw [Int.pow_succ] at h5
    have h7 : (0 : Int) < 65536 ^ (n + m) := Int.pow_pos (by omega)
    omega
theorem sv_mul (g g' : Bool) (xs ys : List Int) : sv g xs * sv g' ys = if (!(g == g')) then -(val xs * val ys) else val xs * val ys := by
  cases g <;> cases g' <;> simp [sv, Int.mul_neg, Int.neg_mul]
set_option maxHeartbeats 4000000 in
theorem mulSgS_any (g g' : Bool) (a a' : Option Addr) (n m c c' : Nat) (xs ys : List Int) (w : World) (hx : Num w a n c xs) (hy : Num w a' m c' ys) (hnl : n ≤ 500000) (hml : m ≤ 500000) :
    Calls Tryz.prog 69 #[.agg #[.bool g, .slice a n c], .agg #[.bool g', .slice a' m c']] w (OutB w (sv g xs * sv g' ys)) := by
  have NX := hide hx
  have NY := hide hy
  have NL := hide hnl
  have ML := hide hml
  clear hx hy hnl hml
  have BA := hide (below_three w (.cells #[.bool g, .slice a n c] 25) (.cells #[.bool g', .slice a' m c'] 25) (.cells #[.bool false, .slice none 0 0] 25))
  go_enter Tryz.func69, Tryz.ntmps69
  go_upto_region 1 with fail
  obtain ⟨wA, hwA⟩ : ∃ wA, wA = (((w.alloc (.cells #[.bool g, .slice a n c] 25)).alloc (.cells #[.bool g', .slice a' m c'] 25)).alloc (.cells #[.bool false, .slice none 0 0] 25)) := ⟨_, rfl⟩
  have kA0 : wA.cell? ⟨w.heap.size, 0, none⟩ = some (.bool g) := by rw [hwA]; simp [go_sem]
  have kA1 : wA.cell? ⟨w.heap.size, 1, none⟩ = some (.slice a n c) := by rw [hwA]; simp [go_sem]
  have kA2 : wA.cell? ⟨w.heap.size + 1, 0, none⟩ = some (.bool g') := by rw [hwA]; simp [go_sem]
  have kA3 : wA.cell? ⟨w.heap.size + 1, 1, none⟩ = some (.slice a' m c') := by rw [hwA]; simp [go_sem]
  have rA0 : wA.cell? ⟨w.heap.size + 1 + 1, 0, none⟩ = some (.bool false) := by rw [hwA]; simp [go_sem]
  have rA1 : wA.cell? ⟨w.heap.size + 1 + 1, 1, none⟩ = some (.slice none 0 0) := by rw [hwA]; simp [go_sem]
  have fA : ∀ o, wA.frozen? ⟨w.heap.size + 1 + 1, o, none⟩ = false := by intro o; rw [hwA]; simp [go_sem]
  have sA : w.heap.size + 1 + 1 + 1 ≤ wA.heap.size := by rw [hwA]; simp
  rw [← hwA] at BA ⊢
  clear hwA
  go_region_held3 (fun w' => w'.cell? ⟨w.heap.size, 0, none⟩ = some (.bool g) ∧ w'.cell? ⟨w.heap.size, 1, none⟩ = some (.slice a n c) ∧ w'.cell? ⟨w.heap.size + 1, 0, none⟩ = some (.bool g') ∧ w'.cell? ⟨w.heap.size + 1, 1, none⟩ = some (.slice a' m c')) (first | (refine ⟨?_, ?_, ?_, ?_⟩ <;> assumption) | (refine ⟨cs_other (cs_other ?_ ?_) ?_, cs_other (cs_other ?_ ?_) ?_, cs_other (cs_other ?_ ?_) ?_, cs_other (cs_other ?_ ?_) ?_⟩ <;> first | assumption | omega))
    (first
    | (go_at_call 96; refine (mulS_any a a' n m c c' xs ys _ ?_ ?_ (unhide NX).ok (unhide NY).ok ?_ ?_).mono ?_; exact ((unhide NX).arg.later (unhide BA)).drew; exact ((unhide NY).arg.later (unhide BA)).drew; exact unhide NL; exact unhide ML; rintro e w3 ⟨a1, n1, c1, zs, rfl, hb3', ho3, ha3, hn3⟩; have hb3 := below_of_drew hb3'; have k30 : w3.cell? ⟨w.heap.size, 0, none⟩ = some (.bool g) := cell_later hb3 kA0; have k31 : w3.cell? ⟨w.heap.size, 1, none⟩ = some (.slice a n c) := cell_later hb3 kA1; have k32 : w3.cell? ⟨w.heap.size + 1, 0, none⟩ = some (.bool g') := cell_later hb3 kA2; have k33 : w3.cell? ⟨w.heap.size + 1, 1, none⟩ = some (.slice a' m c') := cell_later hb3 kA3; have r30 : w3.cell? ⟨w.heap.size + 1 + 1, 0, none⟩ = some (.bool false) := cell_later hb3 rA0; have r31 : w3.cell? ⟨w.heap.size + 1 + 1, 1, none⟩ = some (.slice none 0 0) := cell_later hb3 rA1; have f3 : ∀ o, w3.frozen? ⟨w.heap.size + 1 + 1, o, none⟩ = false := fun o => frozen_later hb3 (Nat.lt_of_lt_of_le (by omega) sA) (fA o); have s3 := Nat.le_trans sA hb3.size; have B3 := hide (below_on (unhide BA) hb3); have L3 : Hid (n1 ≤ 1048576) := hide (by rw [← ha3.len]; exact mul_len hn3 (unhide NX) (unhide NY) (unhide NL) (unhide ML)); have O3 := hide (ho3.mono (base' := w.heap.size + 1 + 1 + 1) sA); clear hb3' hb3 ho3)
    | (go_at_call 67; refine (signS_out _ a1 n1 c1 zs _ (w.heap.size + 1 + 1 + 1) (val xs * val ys) ha3 (unhide O3) hn3.ok hn3.v ?_ (unhide L3)).mono ?_; (exact s3); rintro e w4 ⟨a2, n2, c2, ts, rfl, hb4, ho4, ha4, hn4⟩; have k40 : w4.cell? ⟨w.heap.size, 0, none⟩ = some (.bool g) := cell_later hb4 k30; have k41 : w4.cell? ⟨w.heap.size, 1, none⟩ = some (.slice a n c) := cell_later hb4 k31; have k42 : w4.cell? ⟨w.heap.size + 1, 0, none⟩ = some (.bool g') := cell_later hb4 k32; have k43 : w4.cell? ⟨w.heap.size + 1, 1, none⟩ = some (.slice a' m c') := cell_later hb4 k33; have r40 : w4.cell? ⟨w.heap.size + 1 + 1, 0, none⟩ = some (.bool false) := cell_later hb4 r30; have r41 : w4.cell? ⟨w.heap.size + 1 + 1, 1, none⟩ = some (.slice none 0 0) := cell_later hb4 r31; have f4 : ∀ o, w4.frozen? ⟨w.heap.size + 1 + 1, o, none⟩ = false := fun o => frozen_later hb4 (Nat.lt_of_lt_of_le (by omega) s3) (f3 o); have s4 := Nat.le_trans s3 hb4.size; have B4 := hide (below_on (unhide B3) hb4); have HO4 := hide ho4; have HA4 := hide ha4; have HN4 := hide hn4; clear hb4 ho4 ha4 hn4))
  go_wp2
  refine bodyPost_ret (v := .agg #[.bool (sd (!(g == g')) (val xs * val ys)), .slice a2 n2 c2]) (by simp [results, Tryz.results69, go_sem, r40, r41]) rfl ?_
  exact outB_of (s := w.heap.size + 1 + 1) (g := (!(g == g'))) (by omega) (unhide B4) (unhide HO4) (unhide HA4) (unhide HN4) (sv_mul g g' xs ys) _ _

set_option maxHeartbeats 4000000 in
theorem mulSgI_any (g g' : Bool) (a a' : Option Addr) (n m c c' : Nat) (xs ys : List Int) (w : World) (hx : Num w a n c xs) (hy : Num w a' m c' ys) (hnl : n ≤ 500000) (hml : m ≤ 500000) :
    Calls Tryz.prog 65 #[.agg #[.bool g, .slice a n c], .agg #[.bool g', .slice a' m c']] w (OutB w (sv g xs * sv g' ys)) := by
  have NX := hide hx
  have NY := hide hy
  have NL := hide hnl
  have ML := hide hml
  clear hx hy hnl hml
  have BA := hide (below_three w (.cells #[.bool g, .slice a n c] 25) (.cells #[.bool g', .slice a' m c'] 25) (.cells #[.bool false, .slice none 0 0] 25))
  go_enter Tryz.func65, Tryz.ntmps65
  go_upto_region 1 with fail
  obtain ⟨wA, hwA⟩ : ∃ wA, wA = (((w.alloc (.cells #[.bool g, .slice a n c] 25)).alloc (.cells #[.bool g', .slice a' m c'] 25)).alloc (.cells #[.bool false, .slice none 0 0] 25)) := ⟨_, rfl⟩
  have kA0 : wA.cell? ⟨w.heap.size, 0, none⟩ = some (.bool g) := by rw [hwA]; simp [go_sem]
  have kA1 : wA.cell? ⟨w.heap.size, 1, none⟩ = some (.slice a n c) := by rw [hwA]; simp [go_sem]
  have kA2 : wA.cell? ⟨w.heap.size + 1, 0, none⟩ = some (.bool g') := by rw [hwA]; simp [go_sem]
  have kA3 : wA.cell? ⟨w.heap.size + 1, 1, none⟩ = some (.slice a' m c') := by rw [hwA]; simp [go_sem]
  have rA0 : wA.cell? ⟨w.heap.size + 1 + 1, 0, none⟩ = some (.bool false) := by rw [hwA]; simp [go_sem]
  have rA1 : wA.cell? ⟨w.heap.size + 1 + 1, 1, none⟩ = some (.slice none 0 0) := by rw [hwA]; simp [go_sem]
  have fA : ∀ o, wA.frozen? ⟨w.heap.size + 1 + 1, o, none⟩ = false := by intro o; rw [hwA]; simp [go_sem]
  have sA : w.heap.size + 1 + 1 + 1 ≤ wA.heap.size := by rw [hwA]; simp
  rw [← hwA] at BA ⊢
  clear hwA
  go_region_held3 (fun w' => w'.cell? ⟨w.heap.size, 0, none⟩ = some (.bool g) ∧ w'.cell? ⟨w.heap.size, 1, none⟩ = some (.slice a n c) ∧ w'.cell? ⟨w.heap.size + 1, 0, none⟩ = some (.bool g') ∧ w'.cell? ⟨w.heap.size + 1, 1, none⟩ = some (.slice a' m c')) (first | (refine ⟨?_, ?_, ?_, ?_⟩ <;> assumption) | (refine ⟨cs_other (cs_other ?_ ?_) ?_, cs_other (cs_other ?_ ?_) ?_, cs_other (cs_other ?_ ?_) ?_, cs_other (cs_other ?_ ?_) ?_⟩ <;> first | assumption | omega))
    (first
    | (go_at_call 93; refine (mulI_any a a' n m c c' xs ys _ ?_ ?_ (unhide NX).ok (unhide NY).ok ?_ ?_).mono ?_; exact ((unhide NX).arg.later (unhide BA)).drew; exact ((unhide NY).arg.later (unhide BA)).drew; exact unhide NL; exact unhide ML; rintro e w3 ⟨a1, n1, c1, zs, rfl, hb3', ho3, ha3, hn3⟩; have hb3 := below_of_drew hb3'; have k30 : w3.cell? ⟨w.heap.size, 0, none⟩ = some (.bool g) := cell_later hb3 kA0; have k31 : w3.cell? ⟨w.heap.size, 1, none⟩ = some (.slice a n c) := cell_later hb3 kA1; have k32 : w3.cell? ⟨w.heap.size + 1, 0, none⟩ = some (.bool g') := cell_later hb3 kA2; have k33 : w3.cell? ⟨w.heap.size + 1, 1, none⟩ = some (.slice a' m c') := cell_later hb3 kA3; have r30 : w3.cell? ⟨w.heap.size + 1 + 1, 0, none⟩ = some (.bool false) := cell_later hb3 rA0; have r31 : w3.cell? ⟨w.heap.size + 1 + 1, 1, none⟩ = some (.slice none 0 0) := cell_later hb3 rA1; have f3 : ∀ o, w3.frozen? ⟨w.heap.size + 1 + 1, o, none⟩ = false := fun o => frozen_later hb3 (Nat.lt_of_lt_of_le (by omega) sA) (fA o); have s3 := Nat.le_trans sA hb3.size; have B3 := hide (below_on (unhide BA) hb3); have L3 : Hid (n1 ≤ 1048576) := hide (by rw [← ha3.len]; exact mul_len hn3 (unhide NX) (unhide NY) (unhide NL) (unhide ML)); have O3 := hide (ho3.mono (base' := w.heap.size + 1 + 1 + 1) sA); clear hb3' hb3 ho3)
    | (go_at_call 83; refine (signI_out _ a1 n1 c1 zs _ (w.heap.size + 1 + 1 + 1) (val xs * val ys) ha3 (unhide O3) hn3.ok hn3.v ?_ (unhide L3)).mono ?_; (exact s3); rintro e w4 ⟨a2, n2, c2, ts, rfl, hb4, ho4, ha4, hn4⟩; have k40 : w4.cell? ⟨w.heap.size, 0, none⟩ = some (.bool g) := cell_later hb4 k30; have k41 : w4.cell? ⟨w.heap.size, 1, none⟩ = some (.slice a n c) := cell_later hb4 k31; have k42 : w4.cell? ⟨w.heap.size + 1, 0, none⟩ = some (.bool g') := cell_later hb4 k32; have k43 : w4.cell? ⟨w.heap.size + 1, 1, none⟩ = some (.slice a' m c') := cell_later hb4 k33; have r40 : w4.cell? ⟨w.heap.size + 1 + 1, 0, none⟩ = some (.bool false) := cell_later hb4 r30; have r41 : w4.cell? ⟨w.heap.size + 1 + 1, 1, none⟩ = some (.slice none 0 0) := cell_later hb4 r31; have f4 : ∀ o, w4.frozen? ⟨w.heap.size + 1 + 1, o, none⟩ = false := fun o => frozen_later hb4 (Nat.lt_of_lt_of_le (by omega) s3) (f3 o); have s4 := Nat.le_trans s3 hb4.size; have B4 := hide (below_on (unhide B3) hb4); have HO4 := hide ho4; have HA4 := hide ha4; have HN4 := hide hn4; clear hb4 ho4 ha4 hn4))
  go_wp2
  refine bodyPost_ret (v := .agg #[.bool (sd (!(g == g')) (val xs * val ys)), .slice a2 n2 c2]) (by simp [results, Tryz.results65, go_sem, r40, r41]) rfl ?_
  exact outB_of (s := w.heap.size + 1 + 1) (g := (!(g == g'))) (by omega) (unhide B4) (unhide HO4) (unhide HA4) (unhide HN4) (sv_mul g g' xs ys) _ _
end Go.Proofs.YtdgonpbponnnaaaGreatDoor
