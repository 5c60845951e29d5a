/- Fractions compared by value; GoodSpan and WidthOf of both sides. No condition beyond those typed. Written by mkcmp.py. -/
import Derived.Test.YtdgonpbponnnaaaGreatDoorRatF
import Derived.Test.YtdgonpbponnnaaaGreatDoorFlatS
namespace Go.Proofs.YtdgonpbponnnaaaGreatDoor
open Go.RowKit
set_option linter.unusedVariables false
set_option maxRecDepth 100000
set_option linter.unusedSimpArgs false

/-- -1, 0 or 1. -/
def cmpZ (A B : Int) : Int := if A < B then -1 else if B < A then 1 else 0
theorem cmpTop_range (xs ys : List Int) (k : Nat) : cmpTop xs ys k = -1 ∨ cmpTop xs ys k = 0 ∨ cmpTop xs ys k = 1 := by
  induction k with
  | zero => right; left; rfl
  | succ k ih =>
    unfold cmpTop
    split
    · left; rfl
    · split
      · right; right; rfl
      · exact ih
theorem cmpL_range (xs ys : List Int) : cmpL xs ys = -1 ∨ cmpL xs ys = 0 ∨ cmpL xs ys = 1 := by
  unfold cmpL
  split
  · left; rfl
  · split
    · right; right; rfl
    · exact cmpTop_range _ _ _
theorem cmpB_val {A B : Int} {ts us : List Int} (h : Nm ts A.natAbs) (k : Nm us B.natAbs) : cmpB (decide (A < 0)) ts (decide (B < 0)) us = cmpZ A B := by
  have h1 := cmpL_val h.ok k.ok h.tr k.tr
  have h2 := cmpL_val k.ok h.ok k.tr h.tr
  have r1 := cmpL_range ts us
  have r2 := cmpL_range us ts
  rw [h.v, k.v] at h1 h2
  unfold cmpB cmpZ
  by_cases a : A < 0 <;> by_cases b : B < 0
  · rw [decide_eq_true a, decide_eq_true b, if_pos rfl, if_pos rfl]
    split
    · omega
    · split <;> omega
  · rw [decide_eq_true a, decide_eq_false b, if_neg (by simp), if_pos rfl, if_pos (by omega)]
  · rw [decide_eq_false a, decide_eq_true b, if_neg (by simp), if_neg (by simp), if_neg (by omega), if_pos (by omega)]
  · rw [decide_eq_false a, decide_eq_false b, if_pos rfl, if_neg (by simp)]
    split
    · omega
    · split <;> omega
theorem cmpI_v (b b' : BV) (V V' : Int) (w : World) (h : IsB w b V) (h' : IsB w b' V') :
    Calls Tryz.prog 73 #[.agg #[.bool b.g, .slice b.a b.n b.c], .agg #[.bool b'.g, .slice b'.a b'.n b'.c]] w fun e w' => e = .returned (.int .i64 (cmpZ V V')) ∧ Below w.heap.size w w' := by
  obtain ⟨xs, h1, n1⟩ := h
  obtain ⟨ys, h2, n2⟩ := h'
  refine (cmpBI_any b.g b'.g b.a b'.a b.n b'.n b.c b'.c xs ys w h1.ar.sl h2.ar.sl h1.ar.len h2.ar.len (Nat.le_trans h1.ar.cap h1.ar.top) (Nat.le_trans h2.ar.cap h2.ar.top)).mono ?_
  rintro e w' ⟨rfl, hb⟩
  exact ⟨by rw [h1.sg, h2.sg, cmpB_val n1 n2], hb⟩
theorem cmpS_v (b b' : BV) (V V' : Int) (w : World) (h : IsB w b V) (h' : IsB w b' V') :
    Calls Tryz.prog 74 #[.agg #[.bool b.g, .slice b.a b.n b.c], .agg #[.bool b'.g, .slice b'.a b'.n b'.c]] w fun e w' => e = .returned (.int .i64 (cmpZ V V')) ∧ Below w.heap.size w w' := by
  obtain ⟨xs, h1, n1⟩ := h
  obtain ⟨ys, h2, n2⟩ := h'
  refine (cmpBS_any b.g b'.g b.a b'.a b.n b'.n b.c b'.c xs ys w h1.ar.sl h2.ar.sl h1.ar.len h2.ar.len (Nat.le_trans h1.ar.cap h1.ar.top) (Nat.le_trans h2.ar.cap h2.ar.top)).mono ?_
  rintro e w' ⟨rfl, hb⟩
  exact ⟨by rw [h1.sg, h2.sg, cmpB_val n1 n2], hb⟩

set_option maxHeartbeats 4000000 in
theorem cmpQI (q q' : QV) (N D N' D' : Int) (w : World) (h : IsQ w q N D) (h' : IsQ w q' N' D') (k1 : Bd N 200000) (k2 : Bd D 200000) (k3 : Bd N' 200000) (k4 : Bd D' 200000) :
    Calls Tryz.prog 39 #[.agg #[.bool q.num.g, .slice q.num.a q.num.n q.num.c, .bool q.den.g, .slice q.den.a q.den.n q.den.c], .agg #[.bool q'.num.g, .slice q'.num.a q'.num.n q'.num.c, .bool q'.den.g, .slice q'.den.a q'.den.n q'.den.c]] w fun e w' => e = .returned (.int .i64 (cmpZ (N * D') (N' * D))) ∧ Below w.heap.size w w' := by
  have H1 := hide h
  have H2 := hide h'
  have K1 := hide (k1.mono (show 200000 ≤ 400000 by omega))
  have K2 := hide (k2.mono (show 200000 ≤ 400000 by omega))
  have K3 := hide (k3.mono (show 200000 ≤ 400000 by omega))
  have K4 := hide (k4.mono (show 200000 ≤ 400000 by omega))
  clear h h' k1 k2 k3 k4
  go_enter Tryz.func39, Tryz.ntmps39
  go_upto_region 1 with fail
  have hb : Below w.heap.size w ((w.alloc (.cells #[.bool q.num.g, .slice q.num.a q.num.n q.num.c, .bool q.den.g, .slice q.den.a q.den.n q.den.c] 27)).alloc (.cells #[.bool q'.num.g, .slice q'.num.a q'.num.n q'.num.c, .bool q'.den.g, .slice q'.den.a q'.den.n q'.den.c] 27)) := (((Below.refl _ _).alloc (by simp) _).alloc (by simp) _)
  have k0_0 : ((w.alloc (.cells #[.bool q.num.g, .slice q.num.a q.num.n q.num.c, .bool q.den.g, .slice q.den.a q.den.n q.den.c] 27)).alloc (.cells #[.bool q'.num.g, .slice q'.num.a q'.num.n q'.num.c, .bool q'.den.g, .slice q'.den.a q'.den.n q'.den.c] 27)).cell? ⟨w.heap.size, 0, none⟩ = some (.bool q.num.g) := by simp [go_sem]
  have k0_1 : ((w.alloc (.cells #[.bool q.num.g, .slice q.num.a q.num.n q.num.c, .bool q.den.g, .slice q.den.a q.den.n q.den.c] 27)).alloc (.cells #[.bool q'.num.g, .slice q'.num.a q'.num.n q'.num.c, .bool q'.den.g, .slice q'.den.a q'.den.n q'.den.c] 27)).cell? ⟨w.heap.size, 1, none⟩ = some (.slice q.num.a q.num.n q.num.c) := by simp [go_sem]
  have k0_2 : ((w.alloc (.cells #[.bool q.num.g, .slice q.num.a q.num.n q.num.c, .bool q.den.g, .slice q.den.a q.den.n q.den.c] 27)).alloc (.cells #[.bool q'.num.g, .slice q'.num.a q'.num.n q'.num.c, .bool q'.den.g, .slice q'.den.a q'.den.n q'.den.c] 27)).cell? ⟨w.heap.size, 2, none⟩ = some (.bool q.den.g) := by simp [go_sem]
  have k0_3 : ((w.alloc (.cells #[.bool q.num.g, .slice q.num.a q.num.n q.num.c, .bool q.den.g, .slice q.den.a q.den.n q.den.c] 27)).alloc (.cells #[.bool q'.num.g, .slice q'.num.a q'.num.n q'.num.c, .bool q'.den.g, .slice q'.den.a q'.den.n q'.den.c] 27)).cell? ⟨w.heap.size, 3, none⟩ = some (.slice q.den.a q.den.n q.den.c) := by simp [go_sem]
  have k1_0 : ((w.alloc (.cells #[.bool q.num.g, .slice q.num.a q.num.n q.num.c, .bool q.den.g, .slice q.den.a q.den.n q.den.c] 27)).alloc (.cells #[.bool q'.num.g, .slice q'.num.a q'.num.n q'.num.c, .bool q'.den.g, .slice q'.den.a q'.den.n q'.den.c] 27)).cell? ⟨w.heap.size + 1, 0, none⟩ = some (.bool q'.num.g) := by simp [go_sem]
  have k1_1 : ((w.alloc (.cells #[.bool q.num.g, .slice q.num.a q.num.n q.num.c, .bool q.den.g, .slice q.den.a q.den.n q.den.c] 27)).alloc (.cells #[.bool q'.num.g, .slice q'.num.a q'.num.n q'.num.c, .bool q'.den.g, .slice q'.den.a q'.den.n q'.den.c] 27)).cell? ⟨w.heap.size + 1, 1, none⟩ = some (.slice q'.num.a q'.num.n q'.num.c) := by simp [go_sem]
  have k1_2 : ((w.alloc (.cells #[.bool q.num.g, .slice q.num.a q.num.n q.num.c, .bool q.den.g, .slice q.den.a q.den.n q.den.c] 27)).alloc (.cells #[.bool q'.num.g, .slice q'.num.a q'.num.n q'.num.c, .bool q'.den.g, .slice q'.den.a q'.den.n q'.den.c] 27)).cell? ⟨w.heap.size + 1, 2, none⟩ = some (.bool q'.den.g) := by simp [go_sem]
  have k1_3 : ((w.alloc (.cells #[.bool q.num.g, .slice q.num.a q.num.n q.num.c, .bool q.den.g, .slice q.den.a q.den.n q.den.c] 27)).alloc (.cells #[.bool q'.num.g, .slice q'.num.a q'.num.n q'.num.c, .bool q'.den.g, .slice q'.den.a q'.den.n q'.den.c] 27)).cell? ⟨w.heap.size + 1, 3, none⟩ = some (.slice q'.den.a q'.den.n q'.den.c) := by simp [go_sem]
  have Q1 := hide ((unhide H1).later hb)
  have Q2 := hide ((unhide H2).later hb)
  have szw0 : w.heap.size + 2 ≤ ((w.alloc (.cells #[.bool q.num.g, .slice q.num.a q.num.n q.num.c, .bool q.den.g, .slice q.den.a q.den.n q.den.c] 27)).alloc (.cells #[.bool q'.num.g, .slice q'.num.a q'.num.n q'.num.c, .bool q'.den.g, .slice q'.den.a q'.den.n q'.den.c] 27)).heap.size := by simp
  have HB := hide hb
  clear hb
  generalize ((w.alloc (.cells #[.bool q.num.g, .slice q.num.a q.num.n q.num.c, .bool q.den.g, .slice q.den.a q.den.n q.den.c] 27)).alloc (.cells #[.bool q'.num.g, .slice q'.num.a q'.num.n q'.num.c, .bool q'.den.g, .slice q'.den.a q'.den.n q'.den.c] 27)) = w0 at *
  go_region_held3 (fun w' => w'.cell? ⟨w.heap.size, 0, none⟩ = some (.bool q.num.g) ∧ w'.cell? ⟨w.heap.size, 1, none⟩ = some (.slice q.num.a q.num.n q.num.c) ∧ w'.cell? ⟨w.heap.size, 2, none⟩ = some (.bool q.den.g) ∧ w'.cell? ⟨w.heap.size, 3, none⟩ = some (.slice q.den.a q.den.n q.den.c) ∧ w'.cell? ⟨w.heap.size + 1, 0, none⟩ = some (.bool q'.num.g) ∧ w'.cell? ⟨w.heap.size + 1, 1, none⟩ = some (.slice q'.num.a q'.num.n q'.num.c) ∧ w'.cell? ⟨w.heap.size + 1, 2, none⟩ = some (.bool q'.den.g) ∧ w'.cell? ⟨w.heap.size + 1, 3, none⟩ = some (.slice q'.den.a q'.den.n q'.den.c)) (with_reducible (first | exact ⟨k0_0, k0_1, k0_2, k0_3, k1_0, k1_1, k1_2, k1_3⟩ | exact ⟨cd_other k0_0, cd_other k0_1, cd_other k0_2, cd_other k0_3, cd_other k1_0, cd_other k1_1, cd_other k1_2, cd_other k1_3⟩ | fail))
    (first
    | (go_at_call_of 65 (Value.agg #[Value.bool q.num.g, Value.slice q.num.a q.num.n q.num.c]); refine (mulI_v q.num q'.den N D' _ ?_ ?_ (unhide K1) (unhide K4)).mono ?_; exact (unhide Q1).1.later (Below.refl _ _).drew; exact (unhide Q2).2.later (Below.refl _ _).drew; rintro e w1 ⟨x1, lx1, rfl, hb, ox1, ax1, nx1⟩; have hbx : Below w0.heap.size w0 w1 := below_of_drew hb; have szw1 := hbx.size; replace k0_0 := cell_later hbx k0_0; replace k0_1 := cell_later hbx k0_1; replace k0_2 := cell_later hbx k0_2; replace k0_3 := cell_later hbx k0_3; replace k1_0 := cell_later hbx k1_0; replace k1_1 := cell_later hbx k1_1; replace k1_2 := cell_later hbx k1_2; replace k1_3 := cell_later hbx k1_3; replace Q1 := hide ((unhide Q1).later hbx); replace Q2 := hide ((unhide Q2).later hbx); have Px1 := hide (outN_ow ox1 ax1 nx1); have HBr := hide hbx; clear hbx hb ox1 ax1 nx1)
    | (go_at_call_of 65 (Value.agg #[Value.bool q'.num.g, Value.slice q'.num.a q'.num.n q'.num.c]); refine (mulI_v q'.num q.den N' D _ ?_ ?_ (unhide K3) (unhide K2)).mono ?_; exact (unhide Q2).1.later (Below.refl _ _); exact (unhide Q1).2.later (Below.refl _ _); rintro e w2 ⟨x2, lx2, rfl, hb, ox2, ax2, nx2⟩; have hbx : Below w1.heap.size w1 w2 := hb; have szw2 := hbx.size; replace k0_0 := cell_later hbx k0_0; replace k0_1 := cell_later hbx k0_1; replace k0_2 := cell_later hbx k0_2; replace k0_3 := cell_later hbx k0_3; replace k1_0 := cell_later hbx k1_0; replace k1_1 := cell_later hbx k1_1; replace k1_2 := cell_later hbx k1_2; replace k1_3 := cell_later hbx k1_3; replace Q1 := hide ((unhide Q1).later hbx); replace Q2 := hide ((unhide Q2).later hbx); replace Px1 := hide ((unhide Px1).later hbx); have Px2 := hide (outN_ow ox2 ax2 nx2); have HBr := hide (below_on (unhide HBr) hbx); clear hbx hb ox2 ax2 nx2)
    | (go_at_call 73; refine (cmpI_v x1 x2 (N * D') (N' * D) _ ?_ ?_).mono ?_; exact (unhide Px1).is.later (Below.refl _ _); exact (unhide Px2).is.later (Below.refl _ _); rintro e w3 ⟨rfl, hb⟩; have hbx : Below w2.heap.size w2 w3 := hb; have szw3 := hbx.size; replace k0_0 := cell_later hbx k0_0; replace k0_1 := cell_later hbx k0_1; replace k0_2 := cell_later hbx k0_2; replace k0_3 := cell_later hbx k0_3; replace k1_0 := cell_later hbx k1_0; replace k1_1 := cell_later hbx k1_1; replace k1_2 := cell_later hbx k1_2; replace k1_3 := cell_later hbx k1_3; replace Q1 := hide ((unhide Q1).later hbx); replace Q2 := hide ((unhide Q2).later hbx); replace Px1 := hide ((unhide Px1).later hbx); replace Px2 := hide ((unhide Px2).later hbx); have HBr := hide (below_on (unhide HBr) hbx); clear hbx hb))
  replace HB := hide (below_on (unhide HB) (unhide HBr))
  clear HBr
  go_wp2
  go_ret
  exact ⟨rfl, unhide HB⟩

set_option maxHeartbeats 4000000 in
theorem cmpQS (q q' : QV) (N D N' D' : Int) (w : World) (h : IsQ w q N D) (h' : IsQ w q' N' D') (k1 : Bd N 200000) (k2 : Bd D 200000) (k3 : Bd N' 200000) (k4 : Bd D' 200000) :
    Calls Tryz.prog 41 #[.agg #[.bool q.num.g, .slice q.num.a q.num.n q.num.c, .bool q.den.g, .slice q.den.a q.den.n q.den.c], .agg #[.bool q'.num.g, .slice q'.num.a q'.num.n q'.num.c, .bool q'.den.g, .slice q'.den.a q'.den.n q'.den.c]] w fun e w' => e = .returned (.int .i64 (cmpZ (N * D') (N' * D))) ∧ Below w.heap.size w w' := by
  have H1 := hide h
  have H2 := hide h'
  have K1 := hide (k1.mono (show 200000 ≤ 400000 by omega))
  have K2 := hide (k2.mono (show 200000 ≤ 400000 by omega))
  have K3 := hide (k3.mono (show 200000 ≤ 400000 by omega))
  have K4 := hide (k4.mono (show 200000 ≤ 400000 by omega))
  clear h h' k1 k2 k3 k4
  go_enter Tryz.func41, Tryz.ntmps41
  go_upto_region 1 with fail
  have hb : Below w.heap.size w ((w.alloc (.cells #[.bool q.num.g, .slice q.num.a q.num.n q.num.c, .bool q.den.g, .slice q.den.a q.den.n q.den.c] 27)).alloc (.cells #[.bool q'.num.g, .slice q'.num.a q'.num.n q'.num.c, .bool q'.den.g, .slice q'.den.a q'.den.n q'.den.c] 27)) := (((Below.refl _ _).alloc (by simp) _).alloc (by simp) _)
  have k0_0 : ((w.alloc (.cells #[.bool q.num.g, .slice q.num.a q.num.n q.num.c, .bool q.den.g, .slice q.den.a q.den.n q.den.c] 27)).alloc (.cells #[.bool q'.num.g, .slice q'.num.a q'.num.n q'.num.c, .bool q'.den.g, .slice q'.den.a q'.den.n q'.den.c] 27)).cell? ⟨w.heap.size, 0, none⟩ = some (.bool q.num.g) := by simp [go_sem]
  have k0_1 : ((w.alloc (.cells #[.bool q.num.g, .slice q.num.a q.num.n q.num.c, .bool q.den.g, .slice q.den.a q.den.n q.den.c] 27)).alloc (.cells #[.bool q'.num.g, .slice q'.num.a q'.num.n q'.num.c, .bool q'.den.g, .slice q'.den.a q'.den.n q'.den.c] 27)).cell? ⟨w.heap.size, 1, none⟩ = some (.slice q.num.a q.num.n q.num.c) := by simp [go_sem]
  have k0_2 : ((w.alloc (.cells #[.bool q.num.g, .slice q.num.a q.num.n q.num.c, .bool q.den.g, .slice q.den.a q.den.n q.den.c] 27)).alloc (.cells #[.bool q'.num.g, .slice q'.num.a q'.num.n q'.num.c, .bool q'.den.g, .slice q'.den.a q'.den.n q'.den.c] 27)).cell? ⟨w.heap.size, 2, none⟩ = some (.bool q.den.g) := by simp [go_sem]
  have k0_3 : ((w.alloc (.cells #[.bool q.num.g, .slice q.num.a q.num.n q.num.c, .bool q.den.g, .slice q.den.a q.den.n q.den.c] 27)).alloc (.cells #[.bool q'.num.g, .slice q'.num.a q'.num.n q'.num.c, .bool q'.den.g, .slice q'.den.a q'.den.n q'.den.c] 27)).cell? ⟨w.heap.size, 3, none⟩ = some (.slice q.den.a q.den.n q.den.c) := by simp [go_sem]
  have k1_0 : ((w.alloc (.cells #[.bool q.num.g, .slice q.num.a q.num.n q.num.c, .bool q.den.g, .slice q.den.a q.den.n q.den.c] 27)).alloc (.cells #[.bool q'.num.g, .slice q'.num.a q'.num.n q'.num.c, .bool q'.den.g, .slice q'.den.a q'.den.n q'.den.c] 27)).cell? ⟨w.heap.size + 1, 0, none⟩ = some (.bool q'.num.g) := by simp [go_sem]
  have k1_1 : ((w.alloc (.cells #[.bool q.num.g, .slice q.num.a q.num.n q.num.c, .bool q.den.g, .slice q.den.a q.den.n q.den.c] 27)).alloc (.cells #[.bool q'.num.g, .slice q'.num.a q'.num.n q'.num.c, .bool q'.den.g, .slice q'.den.a q'.den.n q'.den.c] 27)).cell? ⟨w.heap.size + 1, 1, none⟩ = some (.slice q'.num.a q'.num.n q'.num.c) := by simp [go_sem]
  have k1_2 : ((w.alloc (.cells #[.bool q.num.g, .slice q.num.a q.num.n q.num.c, .bool q.den.g, .slice q.den.a q.den.n q.den.c] 27)).alloc (.cells #[.bool q'.num.g, .slice q'.num.a q'.num.n q'.num.c, .bool q'.den.g, .slice q'.den.a q'.den.n q'.den.c] 27)).cell? ⟨w.heap.size + 1, 2, none⟩ = some (.bool q'.den.g) := by simp [go_sem]
  have k1_3 : ((w.alloc (.cells #[.bool q.num.g, .slice q.num.a q.num.n q.num.c, .bool q.den.g, .slice q.den.a q.den.n q.den.c] 27)).alloc (.cells #[.bool q'.num.g, .slice q'.num.a q'.num.n q'.num.c, .bool q'.den.g, .slice q'.den.a q'.den.n q'.den.c] 27)).cell? ⟨w.heap.size + 1, 3, none⟩ = some (.slice q'.den.a q'.den.n q'.den.c) := by simp [go_sem]
  have Q1 := hide ((unhide H1).later hb)
  have Q2 := hide ((unhide H2).later hb)
  have szw0 : w.heap.size + 2 ≤ ((w.alloc (.cells #[.bool q.num.g, .slice q.num.a q.num.n q.num.c, .bool q.den.g, .slice q.den.a q.den.n q.den.c] 27)).alloc (.cells #[.bool q'.num.g, .slice q'.num.a q'.num.n q'.num.c, .bool q'.den.g, .slice q'.den.a q'.den.n q'.den.c] 27)).heap.size := by simp
  have HB := hide hb
  clear hb
  generalize ((w.alloc (.cells #[.bool q.num.g, .slice q.num.a q.num.n q.num.c, .bool q.den.g, .slice q.den.a q.den.n q.den.c] 27)).alloc (.cells #[.bool q'.num.g, .slice q'.num.a q'.num.n q'.num.c, .bool q'.den.g, .slice q'.den.a q'.den.n q'.den.c] 27)) = w0 at *
  go_region_held3 (fun w' => w'.cell? ⟨w.heap.size, 0, none⟩ = some (.bool q.num.g) ∧ w'.cell? ⟨w.heap.size, 1, none⟩ = some (.slice q.num.a q.num.n q.num.c) ∧ w'.cell? ⟨w.heap.size, 2, none⟩ = some (.bool q.den.g) ∧ w'.cell? ⟨w.heap.size, 3, none⟩ = some (.slice q.den.a q.den.n q.den.c) ∧ w'.cell? ⟨w.heap.size + 1, 0, none⟩ = some (.bool q'.num.g) ∧ w'.cell? ⟨w.heap.size + 1, 1, none⟩ = some (.slice q'.num.a q'.num.n q'.num.c) ∧ w'.cell? ⟨w.heap.size + 1, 2, none⟩ = some (.bool q'.den.g) ∧ w'.cell? ⟨w.heap.size + 1, 3, none⟩ = some (.slice q'.den.a q'.den.n q'.den.c)) (with_reducible (first | exact ⟨k0_0, k0_1, k0_2, k0_3, k1_0, k1_1, k1_2, k1_3⟩ | exact ⟨cd_other k0_0, cd_other k0_1, cd_other k0_2, cd_other k0_3, cd_other k1_0, cd_other k1_1, cd_other k1_2, cd_other k1_3⟩ | fail))
    (first
    | (go_at_call_of 69 (Value.agg #[Value.bool q.num.g, Value.slice q.num.a q.num.n q.num.c]); refine (mulS_v q.num q'.den N D' _ ?_ ?_ (unhide K1) (unhide K4)).mono ?_; exact (unhide Q1).1.later (Below.refl _ _).drew; exact (unhide Q2).2.later (Below.refl _ _).drew; rintro e w1 ⟨x1, lx1, rfl, hb, ox1, ax1, nx1⟩; have hbx : Below w0.heap.size w0 w1 := below_of_drew hb; have szw1 := hbx.size; replace k0_0 := cell_later hbx k0_0; replace k0_1 := cell_later hbx k0_1; replace k0_2 := cell_later hbx k0_2; replace k0_3 := cell_later hbx k0_3; replace k1_0 := cell_later hbx k1_0; replace k1_1 := cell_later hbx k1_1; replace k1_2 := cell_later hbx k1_2; replace k1_3 := cell_later hbx k1_3; replace Q1 := hide ((unhide Q1).later hbx); replace Q2 := hide ((unhide Q2).later hbx); have Px1 := hide (outN_ow ox1 ax1 nx1); have HBr := hide hbx; clear hbx hb ox1 ax1 nx1)
    | (go_at_call_of 69 (Value.agg #[Value.bool q'.num.g, Value.slice q'.num.a q'.num.n q'.num.c]); refine (mulS_v q'.num q.den N' D _ ?_ ?_ (unhide K3) (unhide K2)).mono ?_; exact (unhide Q2).1.later (Below.refl _ _); exact (unhide Q1).2.later (Below.refl _ _); rintro e w2 ⟨x2, lx2, rfl, hb, ox2, ax2, nx2⟩; have hbx : Below w1.heap.size w1 w2 := hb; have szw2 := hbx.size; replace k0_0 := cell_later hbx k0_0; replace k0_1 := cell_later hbx k0_1; replace k0_2 := cell_later hbx k0_2; replace k0_3 := cell_later hbx k0_3; replace k1_0 := cell_later hbx k1_0; replace k1_1 := cell_later hbx k1_1; replace k1_2 := cell_later hbx k1_2; replace k1_3 := cell_later hbx k1_3; replace Q1 := hide ((unhide Q1).later hbx); replace Q2 := hide ((unhide Q2).later hbx); replace Px1 := hide ((unhide Px1).later hbx); have Px2 := hide (outN_ow ox2 ax2 nx2); have HBr := hide (below_on (unhide HBr) hbx); clear hbx hb ox2 ax2 nx2)
    | (go_at_call 74; refine (cmpS_v x1 x2 (N * D') (N' * D) _ ?_ ?_).mono ?_; exact (unhide Px1).is.later (Below.refl _ _); exact (unhide Px2).is.later (Below.refl _ _); rintro e w3 ⟨rfl, hb⟩; have hbx : Below w2.heap.size w2 w3 := hb; have szw3 := hbx.size; replace k0_0 := cell_later hbx k0_0; replace k0_1 := cell_later hbx k0_1; replace k0_2 := cell_later hbx k0_2; replace k0_3 := cell_later hbx k0_3; replace k1_0 := cell_later hbx k1_0; replace k1_1 := cell_later hbx k1_1; replace k1_2 := cell_later hbx k1_2; replace k1_3 := cell_later hbx k1_3; replace Q1 := hide ((unhide Q1).later hbx); replace Q2 := hide ((unhide Q2).later hbx); replace Px1 := hide ((unhide Px1).later hbx); replace Px2 := hide ((unhide Px2).later hbx); have HBr := hide (below_on (unhide HBr) hbx); clear hbx hb))
  replace HB := hide (below_on (unhide HB) (unhide HBr))
  clear HBr
  go_wp2
  go_ret
  exact ⟨rfl, unhide HB⟩

def gS (d : SD) : Bool := (gQ d.lo && gQ d.hi) && decide (nQ d.lo * dQ d.hi ≤ nQ d.hi * dQ d.lo)
theorem cmpZ_le (A B : Int) : decide (cmpZ A B ≤ 0) = decide (A ≤ B) := by
  unfold cmpZ
  split
  · exact decide_eq_decide.2 (by omega)
  · split <;> exact decide_eq_decide.2 (by omega)
theorem AllAr.lo {w : World} {v : SV} {d : SD} (h : AllAr w [(v.lo.num, d.lo.num), (v.lo.den, d.lo.den), (v.hi.num, d.hi.num), (v.hi.den, d.hi.den)]) : AllAr w [(v.lo.num, d.lo.num), (v.lo.den, d.lo.den)] := h.Sl
theorem AllAr.hi {w : World} {v : SV} {d : SD} (h : AllAr w [(v.lo.num, d.lo.num), (v.lo.den, d.lo.den), (v.hi.num, d.hi.num), (v.hi.den, d.hi.den)]) : AllAr w [(v.hi.num, d.hi.num), (v.hi.den, d.hi.den)] := h.Sr

structure IsGoodS (w : World) (v : SV) (d : SD) : Prop where
  lo : IsGood w v.lo d.lo
  hi : IsGood w v.hi d.hi
  le : nQ d.lo * dQ d.hi ≤ nQ d.hi * dQ d.lo
theorem isGoodS_of {w : World} {v : SV} {d : SD} (h : AllAr w [(v.lo.num, d.lo.num), (v.lo.den, d.lo.den), (v.hi.num, d.hi.num), (v.hi.den, d.hi.den)]) (hg : gS d = true) : IsGoodS w v d := by
  unfold gS at hg
  simp only [Bool.and_eq_true, decide_eq_true_eq] at hg
  exact ⟨isGood_of h.lo hg.1.1, isGood_of h.hi hg.1.2, hg.2⟩
theorem IsGoodS.later {w w' : World} {v : SV} {d : SD} (h : IsGoodS w v d) (hb : Below w.heap.size w w') : IsGoodS w' v d := ⟨h.lo.later hb, h.hi.later hb, h.le⟩

end Go.Proofs.YtdgonpbponnnaaaGreatDoor
