/- Marks in slices of fractions: the laws' markRatS and heldRatS. No condition beyond those typed. Written by mkmark.py. -/
import Derived.Test.YtcbmecnipldcfaaGreatFlatQ
import Derived.Test.YtcbmecnipldcfaaGreatRatF
import Derived.Test.YtcbmecnipldcfaaGreatLow
namespace Go.Proofs.YtcbmecnipldcfaaGreat
open Go.RowKit
set_option linter.unusedVariables false
set_option maxRecDepth 100000
set_option linter.unusedSimpArgs false

theorem AllSl.Sl {w : World} {v : SV} {d : SD} (h : AllSl w [(v.lo.num, d.lo.num), (v.lo.den, d.lo.den), (v.hi.num, d.hi.num), (v.hi.den, d.hi.den)]) : AllSl w [(v.lo.num, d.lo.num), (v.lo.den, d.lo.den)] := fun p hp => h p (show p ∈ [(v.lo.num, d.lo.num), (v.lo.den, d.lo.den), (v.hi.num, d.hi.num), (v.hi.den, d.hi.den)] from (List.mem_append_left [(v.hi.num, d.hi.num), (v.hi.den, d.hi.den)] hp : p ∈ [(v.lo.num, d.lo.num), (v.lo.den, d.lo.den)] ++ [(v.hi.num, d.hi.num), (v.hi.den, d.hi.den)]))
theorem AllSl.Sr {w : World} {v : SV} {d : SD} (h : AllSl w [(v.lo.num, d.lo.num), (v.lo.den, d.lo.den), (v.hi.num, d.hi.num), (v.hi.den, d.hi.den)]) : AllSl w [(v.hi.num, d.hi.num), (v.hi.den, d.hi.den)] := fun p hp => h p (show p ∈ [(v.lo.num, d.lo.num), (v.lo.den, d.lo.den), (v.hi.num, d.hi.num), (v.hi.den, d.hi.den)] from (List.mem_append_right [(v.lo.num, d.lo.num), (v.lo.den, d.lo.den)] hp : p ∈ [(v.lo.num, d.lo.num), (v.lo.den, d.lo.den)] ++ [(v.hi.num, d.hi.num), (v.hi.den, d.hi.den)]))
theorem AllAr.Sl {w : World} {v : SV} {d : SD} (h : AllAr w [(v.lo.num, d.lo.num), (v.lo.den, d.lo.den), (v.hi.num, d.hi.num), (v.hi.den, d.hi.den)]) : AllAr w [(v.lo.num, d.lo.num), (v.lo.den, d.lo.den)] := fun p hp => h p (show p ∈ [(v.lo.num, d.lo.num), (v.lo.den, d.lo.den), (v.hi.num, d.hi.num), (v.hi.den, d.hi.den)] from (List.mem_append_left [(v.hi.num, d.hi.num), (v.hi.den, d.hi.den)] hp : p ∈ [(v.lo.num, d.lo.num), (v.lo.den, d.lo.den)] ++ [(v.hi.num, d.hi.num), (v.hi.den, d.hi.den)]))
theorem AllAr.Sr {w : World} {v : SV} {d : SD} (h : AllAr w [(v.lo.num, d.lo.num), (v.lo.den, d.lo.den), (v.hi.num, d.hi.num), (v.hi.den, d.hi.den)]) : AllAr w [(v.hi.num, d.hi.num), (v.hi.den, d.hi.den)] := fun p hp => h p (show p ∈ [(v.lo.num, d.lo.num), (v.lo.den, d.lo.den), (v.hi.num, d.hi.num), (v.hi.den, d.hi.den)] from (List.mem_append_right [(v.lo.num, d.lo.num), (v.lo.den, d.lo.den)] hp : p ∈ [(v.lo.num, d.lo.num), (v.lo.den, d.lo.den)] ++ [(v.hi.num, d.hi.num), (v.hi.den, d.hi.den)]))

end Go.Proofs.YtcbmecnipldcfaaGreat
namespace Go.Proofs.YtcbmecnipldcfaaGreat
open Go.RowKit
set_option linter.unusedVariables false
set_option maxRecDepth 100000
set_option linter.unusedSimpArgs false

/-- -1, 0 or 1. -/
def cmpZ (A B : Int) : Int := if A < B then -1 else if B < A then 1 else 0
theorem cmpTop_range (xs ys : List Int) (k : Nat) : cmpTop xs ys k = -1 ∨ cmpTop xs ys k = 0 ∨ cmpTop xs ys k = 1 := by
  induction k with
  | zero => right; left; rfl
  | succ k ih =>
    unfold cmpTop
    split
    · left; rfl
    · split
      · right; right; rfl
      · exact ih
theorem cmpL_range (xs ys : List Int) : cmpL xs ys = -1 ∨ cmpL xs ys = 0 ∨ cmpL xs ys = 1 := by
  unfold cmpL
  split
  · left; rfl
  · split
    · right; right; rfl
    · exact cmpTop_range _ _ _
theorem cmpB_val {A B : Int} {ts us : List Int} (h : Nm ts A.natAbs) (k : Nm us B.natAbs) : cmpB (decide (A < 0)) ts (decide (B < 0)) us = cmpZ A B := by
  have h1 := cmpL_val h.ok k.ok h.tr k.tr
  have h2 := cmpL_val k.ok h.ok k.tr h.tr
  have r1 := cmpL_range ts us
  have r2 := cmpL_range us ts
  rw [h.v, k.v] at h1 h2
  unfold cmpB cmpZ
  by_cases a : A < 0 <;> by_cases b : B < 0
  · rw [decide_eq_true a, decide_eq_true b, if_pos rfl, if_pos rfl]
    split
    · omega
    · split <;> omega
  · rw [decide_eq_true a, decide_eq_false b, if_neg (by simp), if_pos rfl, if_pos (by omega)]
  · rw [decide_eq_false a, decide_eq_true b, if_neg (by simp), if_neg (by simp), if_neg (by omega), if_pos (by omega)]
  · rw [decide_eq_false a, decide_eq_false b, if_pos rfl, if_neg (by simp)]
    split
    · omega
    · split <;> omega
theorem cmpI_v (b b' : BV) (V V' : Int) (w : World) (h : IsB w b V) (h' : IsB w b' V') :
    Calls Tryz.prog 117 #[.agg #[.bool b.g, .slice b.a b.n b.c], .agg #[.bool b'.g, .slice b'.a b'.n b'.c]] w fun e w' => e = .returned (.int .i64 (cmpZ V V')) ∧ Below w.heap.size w w' := by
  obtain ⟨xs, h1, n1⟩ := h
  obtain ⟨ys, h2, n2⟩ := h'
  refine (cmpBI_any b.g b'.g b.a b'.a b.n b'.n b.c b'.c xs ys w h1.ar.sl h2.ar.sl h1.ar.len h2.ar.len (Nat.le_trans h1.ar.cap h1.ar.top) (Nat.le_trans h2.ar.cap h2.ar.top)).mono ?_
  rintro e w' ⟨rfl, hb⟩
  exact ⟨by rw [h1.sg, h2.sg, cmpB_val n1 n2], hb⟩
theorem cmpS_v (b b' : BV) (V V' : Int) (w : World) (h : IsB w b V) (h' : IsB w b' V') :
    Calls Tryz.prog 106 #[.agg #[.bool b.g, .slice b.a b.n b.c], .agg #[.bool b'.g, .slice b'.a b'.n b'.c]] w fun e w' => e = .returned (.int .i64 (cmpZ V V')) ∧ Below w.heap.size w w' := by
  obtain ⟨xs, h1, n1⟩ := h
  obtain ⟨ys, h2, n2⟩ := h'
  refine (cmpBS_any b.g b'.g b.a b'.a b.n b'.n b.c b'.c xs ys w h1.ar.sl h2.ar.sl h1.ar.len h2.ar.len (Nat.le_trans h1.ar.cap h1.ar.top) (Nat.le_trans h2.ar.cap h2.ar.top)).mono ?_
  rintro e w' ⟨rfl, hb⟩
  exact ⟨by rw [h1.sg, h2.sg, cmpB_val n1 n2], hb⟩

set_option maxHeartbeats 4000000 in
theorem cmpQI (q q' : QV) (N D N' D' : Int) (w : World) (h : IsQ w q N D) (h' : IsQ w q' N' D') (k1 : Bd N 200000) (k2 : Bd D 200000) (k3 : Bd N' 200000) (k4 : Bd D' 200000) :
    Calls Tryz.prog 76 #[.agg #[.bool q.num.g, .slice q.num.a q.num.n q.num.c, .bool q.den.g, .slice q.den.a q.den.n q.den.c], .agg #[.bool q'.num.g, .slice q'.num.a q'.num.n q'.num.c, .bool q'.den.g, .slice q'.den.a q'.den.n q'.den.c]] w fun e w' => e = .returned (.int .i64 (cmpZ (N * D') (N' * D))) ∧ Below w.heap.size w w' := by
  have H1 := hide h
  have H2 := hide h'
  have K1 := hide (k1.mono (show 200000 ≤ 400000 by omega))
  have K2 := hide (k2.mono (show 200000 ≤ 400000 by omega))
  have K3 := hide (k3.mono (show 200000 ≤ 400000 by omega))
  have K4 := hide (k4.mono (show 200000 ≤ 400000 by omega))
  clear h h' k1 k2 k3 k4
  go_enter Tryz.func76, Tryz.ntmps76
  go_upto_region 1 with fail
  have hb : Below w.heap.size w ((w.alloc (.cells #[.bool q.num.g, .slice q.num.a q.num.n q.num.c, .bool q.den.g, .slice q.den.a q.den.n q.den.c] 32)).alloc (.cells #[.bool q'.num.g, .slice q'.num.a q'.num.n q'.num.c, .bool q'.den.g, .slice q'.den.a q'.den.n q'.den.c] 32)) := (((Below.refl _ _).alloc (by simp) _).alloc (by simp) _)
  have k0_0 : ((w.alloc (.cells #[.bool q.num.g, .slice q.num.a q.num.n q.num.c, .bool q.den.g, .slice q.den.a q.den.n q.den.c] 32)).alloc (.cells #[.bool q'.num.g, .slice q'.num.a q'.num.n q'.num.c, .bool q'.den.g, .slice q'.den.a q'.den.n q'.den.c] 32)).cell? ⟨w.heap.size, 0, none⟩ = some (.bool q.num.g) := by simp [go_sem]
  have k0_1 : ((w.alloc (.cells #[.bool q.num.g, .slice q.num.a q.num.n q.num.c, .bool q.den.g, .slice q.den.a q.den.n q.den.c] 32)).alloc (.cells #[.bool q'.num.g, .slice q'.num.a q'.num.n q'.num.c, .bool q'.den.g, .slice q'.den.a q'.den.n q'.den.c] 32)).cell? ⟨w.heap.size, 1, none⟩ = some (.slice q.num.a q.num.n q.num.c) := by simp [go_sem]
  have k0_2 : ((w.alloc (.cells #[.bool q.num.g, .slice q.num.a q.num.n q.num.c, .bool q.den.g, .slice q.den.a q.den.n q.den.c] 32)).alloc (.cells #[.bool q'.num.g, .slice q'.num.a q'.num.n q'.num.c, .bool q'.den.g, .slice q'.den.a q'.den.n q'.den.c] 32)).cell? ⟨w.heap.size, 2, none⟩ = some (.bool q.den.g) := by simp [go_sem]
  have k0_3 : ((w.alloc (.cells #[.bool q.num.g, .slice q.num.a q.num.n q.num.c, .bool q.den.g, .slice q.den.a q.den.n q.den.c] 32)).alloc (.cells #[.bool q'.num.g, .slice q'.num.a q'.num.n q'.num.c, .bool q'.den.g, .slice q'.den.a q'.den.n q'.den.c] 32)).cell? ⟨w.heap.size, 3, none⟩ = some (.slice q.den.a q.den.n q.den.c) := by simp [go_sem]
  have k1_0 : ((w.alloc (.cells #[.bool q.num.g, .slice q.num.a q.num.n q.num.c, .bool q.den.g, .slice q.den.a q.den.n q.den.c] 32)).alloc (.cells #[.bool q'.num.g, .slice q'.num.a q'.num.n q'.num.c, .bool q'.den.g, .slice q'.den.a q'.den.n q'.den.c] 32)).cell? ⟨w.heap.size + 1, 0, none⟩ = some (.bool q'.num.g) := by simp [go_sem]
  have k1_1 : ((w.alloc (.cells #[.bool q.num.g, .slice q.num.a q.num.n q.num.c, .bool q.den.g, .slice q.den.a q.den.n q.den.c] 32)).alloc (.cells #[.bool q'.num.g, .slice q'.num.a q'.num.n q'.num.c, .bool q'.den.g, .slice q'.den.a q'.den.n q'.den.c] 32)).cell? ⟨w.heap.size + 1, 1, none⟩ = some (.slice q'.num.a q'.num.n q'.num.c) := by simp [go_sem]
  have k1_2 : ((w.alloc (.cells #[.bool q.num.g, .slice q.num.a q.num.n q.num.c, .bool q.den.g, .slice q.den.a q.den.n q.den.c] 32)).alloc (.cells #[.bool q'.num.g, .slice q'.num.a q'.num.n q'.num.c, .bool q'.den.g, .slice q'.den.a q'.den.n q'.den.c] 32)).cell? ⟨w.heap.size + 1, 2, none⟩ = some (.bool q'.den.g) := by simp [go_sem]
  have k1_3 : ((w.alloc (.cells #[.bool q.num.g, .slice q.num.a q.num.n q.num.c, .bool q.den.g, .slice q.den.a q.den.n q.den.c] 32)).alloc (.cells #[.bool q'.num.g, .slice q'.num.a q'.num.n q'.num.c, .bool q'.den.g, .slice q'.den.a q'.den.n q'.den.c] 32)).cell? ⟨w.heap.size + 1, 3, none⟩ = some (.slice q'.den.a q'.den.n q'.den.c) := by simp [go_sem]
  have Q1 := hide ((unhide H1).later hb)
  have Q2 := hide ((unhide H2).later hb)
  have szw0 : w.heap.size + 2 ≤ ((w.alloc (.cells #[.bool q.num.g, .slice q.num.a q.num.n q.num.c, .bool q.den.g, .slice q.den.a q.den.n q.den.c] 32)).alloc (.cells #[.bool q'.num.g, .slice q'.num.a q'.num.n q'.num.c, .bool q'.den.g, .slice q'.den.a q'.den.n q'.den.c] 32)).heap.size := by simp
  have HB := hide hb
  clear hb
  generalize ((w.alloc (.cells #[.bool q.num.g, .slice q.num.a q.num.n q.num.c, .bool q.den.g, .slice q.den.a q.den.n q.den.c] 32)).alloc (.cells #[.bool q'.num.g, .slice q'.num.a q'.num.n q'.num.c, .bool q'.den.g, .slice q'.den.a q'.den.n q'.den.c] 32)) = w0 at *
  go_region_held3 (fun w' => w'.cell? ⟨w.heap.size, 0, none⟩ = some (.bool q.num.g) ∧ w'.cell? ⟨w.heap.size, 1, none⟩ = some (.slice q.num.a q.num.n q.num.c) ∧ w'.cell? ⟨w.heap.size, 2, none⟩ = some (.bool q.den.g) ∧ w'.cell? ⟨w.heap.size, 3, none⟩ = some (.slice q.den.a q.den.n q.den.c) ∧ w'.cell? ⟨w.heap.size + 1, 0, none⟩ = some (.bool q'.num.g) ∧ w'.cell? ⟨w.heap.size + 1, 1, none⟩ = some (.slice q'.num.a q'.num.n q'.num.c) ∧ w'.cell? ⟨w.heap.size + 1, 2, none⟩ = some (.bool q'.den.g) ∧ w'.cell? ⟨w.heap.size + 1, 3, none⟩ = some (.slice q'.den.a q'.den.n q'.den.c)) (with_reducible (first | exact ⟨k0_0, k0_1, k0_2, k0_3, k1_0, k1_1, k1_2, k1_3⟩ | exact ⟨cd_other k0_0, cd_other k0_1, cd_other k0_2, cd_other k0_3, cd_other k1_0, cd_other k1_1, cd_other k1_2, cd_other k1_3⟩ | fail))
    (first
    | (go_at_call_of 118 (Value.agg #[Value.bool q.num.g, Value.slice q.num.a q.num.n q.num.c]); refine (mulI_v q.num q'.den N D' _ ?_ ?_ (unhide K1) (unhide K4)).mono ?_; exact (unhide Q1).1.later (Below.refl _ _).drew; exact (unhide Q2).2.later (Below.refl _ _).drew; rintro e w1 ⟨x1, lx1, rfl, hb, ox1, ax1, nx1⟩; have hbx : Below w0.heap.size w0 w1 := below_of_drew hb; have szw1 := hbx.size; replace k0_0 := cell_later hbx k0_0; replace k0_1 := cell_later hbx k0_1; replace k0_2 := cell_later hbx k0_2; replace k0_3 := cell_later hbx k0_3; replace k1_0 := cell_later hbx k1_0; replace k1_1 := cell_later hbx k1_1; replace k1_2 := cell_later hbx k1_2; replace k1_3 := cell_later hbx k1_3; replace Q1 := hide ((unhide Q1).later hbx); replace Q2 := hide ((unhide Q2).later hbx); have Px1 := hide (outN_ow ox1 ax1 nx1); have HBr := hide hbx; clear hbx hb ox1 ax1 nx1)
    | (go_at_call_of 118 (Value.agg #[Value.bool q'.num.g, Value.slice q'.num.a q'.num.n q'.num.c]); refine (mulI_v q'.num q.den N' D _ ?_ ?_ (unhide K3) (unhide K2)).mono ?_; exact (unhide Q2).1.later (Below.refl _ _); exact (unhide Q1).2.later (Below.refl _ _); rintro e w2 ⟨x2, lx2, rfl, hb, ox2, ax2, nx2⟩; have hbx : Below w1.heap.size w1 w2 := hb; have szw2 := hbx.size; replace k0_0 := cell_later hbx k0_0; replace k0_1 := cell_later hbx k0_1; replace k0_2 := cell_later hbx k0_2; replace k0_3 := cell_later hbx k0_3; replace k1_0 := cell_later hbx k1_0; replace k1_1 := cell_later hbx k1_1; replace k1_2 := cell_later hbx k1_2; replace k1_3 := cell_later hbx k1_3; replace Q1 := hide ((unhide Q1).later hbx); replace Q2 := hide ((unhide Q2).later hbx); replace Px1 := hide ((unhide Px1).later hbx); have Px2 := hide (outN_ow ox2 ax2 nx2); have HBr := hide (below_on (unhide HBr) hbx); clear hbx hb ox2 ax2 nx2)
    | (go_at_call 117; refine (cmpI_v x1 x2 (N * D') (N' * D) _ ?_ ?_).mono ?_; exact (unhide Px1).is.later (Below.refl _ _); exact (unhide Px2).is.later (Below.refl _ _); rintro e w3 ⟨rfl, hb⟩; have hbx : Below w2.heap.size w2 w3 := hb; have szw3 := hbx.size; replace k0_0 := cell_later hbx k0_0; replace k0_1 := cell_later hbx k0_1; replace k0_2 := cell_later hbx k0_2; replace k0_3 := cell_later hbx k0_3; replace k1_0 := cell_later hbx k1_0; replace k1_1 := cell_later hbx k1_1; replace k1_2 := cell_later hbx k1_2; replace k1_3 := cell_later hbx k1_3; replace Q1 := hide ((unhide Q1).later hbx); replace Q2 := hide ((unhide Q2).later hbx); replace Px1 := hide ((unhide Px1).later hbx); replace Px2 := hide ((unhide Px2).later hbx); have HBr := hide (below_on (unhide HBr) hbx); clear hbx hb))
  replace HB := hide (below_on (unhide HB) (unhide HBr))
  clear HBr
  go_wp2
  go_ret
  exact ⟨rfl, unhide HB⟩

set_option maxHeartbeats 4000000 in
theorem cmpQS (q q' : QV) (N D N' D' : Int) (w : World) (h : IsQ w q N D) (h' : IsQ w q' N' D') (k1 : Bd N 200000) (k2 : Bd D 200000) (k3 : Bd N' 200000) (k4 : Bd D' 200000) :
    Calls Tryz.prog 66 #[.agg #[.bool q.num.g, .slice q.num.a q.num.n q.num.c, .bool q.den.g, .slice q.den.a q.den.n q.den.c], .agg #[.bool q'.num.g, .slice q'.num.a q'.num.n q'.num.c, .bool q'.den.g, .slice q'.den.a q'.den.n q'.den.c]] w fun e w' => e = .returned (.int .i64 (cmpZ (N * D') (N' * D))) ∧ Below w.heap.size w w' := by
  have H1 := hide h
  have H2 := hide h'
  have K1 := hide (k1.mono (show 200000 ≤ 400000 by omega))
  have K2 := hide (k2.mono (show 200000 ≤ 400000 by omega))
  have K3 := hide (k3.mono (show 200000 ≤ 400000 by omega))
  have K4 := hide (k4.mono (show 200000 ≤ 400000 by omega))
  clear h h' k1 k2 k3 k4
  go_enter Tryz.func66, Tryz.ntmps66
  go_upto_region 1 with fail
  have hb : Below w.heap.size w ((w.alloc (.cells #[.bool q.num.g, .slice q.num.a q.num.n q.num.c, .bool q.den.g, .slice q.den.a q.den.n q.den.c] 32)).alloc (.cells #[.bool q'.num.g, .slice q'.num.a q'.num.n q'.num.c, .bool q'.den.g, .slice q'.den.a q'.den.n q'.den.c] 32)) := (((Below.refl _ _).alloc (by simp) _).alloc (by simp) _)
  have k0_0 : ((w.alloc (.cells #[.bool q.num.g, .slice q.num.a q.num.n q.num.c, .bool q.den.g, .slice q.den.a q.den.n q.den.c] 32)).alloc (.cells #[.bool q'.num.g, .slice q'.num.a q'.num.n q'.num.c, .bool q'.den.g, .slice q'.den.a q'.den.n q'.den.c] 32)).cell? ⟨w.heap.size, 0, none⟩ = some (.bool q.num.g) := by simp [go_sem]
  have k0_1 : ((w.alloc (.cells #[.bool q.num.g, .slice q.num.a q.num.n q.num.c, .bool q.den.g, .slice q.den.a q.den.n q.den.c] 32)).alloc (.cells #[.bool q'.num.g, .slice q'.num.a q'.num.n q'.num.c, .bool q'.den.g, .slice q'.den.a q'.den.n q'.den.c] 32)).cell? ⟨w.heap.size, 1, none⟩ = some (.slice q.num.a q.num.n q.num.c) := by simp [go_sem]
  have k0_2 : ((w.alloc (.cells #[.bool q.num.g, .slice q.num.a q.num.n q.num.c, .bool q.den.g, .slice q.den.a q.den.n q.den.c] 32)).alloc (.cells #[.bool q'.num.g, .slice q'.num.a q'.num.n q'.num.c, .bool q'.den.g, .slice q'.den.a q'.den.n q'.den.c] 32)).cell? ⟨w.heap.size, 2, none⟩ = some (.bool q.den.g) := by simp [go_sem]
  have k0_3 : ((w.alloc (.cells #[.bool q.num.g, .slice q.num.a q.num.n q.num.c, .bool q.den.g, .slice q.den.a q.den.n q.den.c] 32)).alloc (.cells #[.bool q'.num.g, .slice q'.num.a q'.num.n q'.num.c, .bool q'.den.g, .slice q'.den.a q'.den.n q'.den.c] 32)).cell? ⟨w.heap.size, 3, none⟩ = some (.slice q.den.a q.den.n q.den.c) := by simp [go_sem]
  have k1_0 : ((w.alloc (.cells #[.bool q.num.g, .slice q.num.a q.num.n q.num.c, .bool q.den.g, .slice q.den.a q.den.n q.den.c] 32)).alloc (.cells #[.bool q'.num.g, .slice q'.num.a q'.num.n q'.num.c, .bool q'.den.g, .slice q'.den.a q'.den.n q'.den.c] 32)).cell? ⟨w.heap.size + 1, 0, none⟩ = some (.bool q'.num.g) := by simp [go_sem]
  have k1_1 : ((w.alloc (.cells #[.bool q.num.g, .slice q.num.a q.num.n q.num.c, .bool q.den.g, .slice q.den.a q.den.n q.den.c] 32)).alloc (.cells #[.bool q'.num.g, .slice q'.num.a q'.num.n q'.num.c, .bool q'.den.g, .slice q'.den.a q'.den.n q'.den.c] 32)).cell? ⟨w.heap.size + 1, 1, none⟩ = some (.slice q'.num.a q'.num.n q'.num.c) := by simp [go_sem]
  have k1_2 : ((w.alloc (.cells #[.bool q.num.g, .slice q.num.a q.num.n q.num.c, .bool q.den.g, .slice q.den.a q.den.n q.den.c] 32)).alloc (.cells #[.bool q'.num.g, .slice q'.num.a q'.num.n q'.num.c, .bool q'.den.g, .slice q'.den.a q'.den.n q'.den.c] 32)).cell? ⟨w.heap.size + 1, 2, none⟩ = some (.bool q'.den.g) := by simp [go_sem]
  have k1_3 : ((w.alloc (.cells #[.bool q.num.g, .slice q.num.a q.num.n q.num.c, .bool q.den.g, .slice q.den.a q.den.n q.den.c] 32)).alloc (.cells #[.bool q'.num.g, .slice q'.num.a q'.num.n q'.num.c, .bool q'.den.g, .slice q'.den.a q'.den.n q'.den.c] 32)).cell? ⟨w.heap.size + 1, 3, none⟩ = some (.slice q'.den.a q'.den.n q'.den.c) := by simp [go_sem]
  have Q1 := hide ((unhide H1).later hb)
  have Q2 := hide ((unhide H2).later hb)
  have szw0 : w.heap.size + 2 ≤ ((w.alloc (.cells #[.bool q.num.g, .slice q.num.a q.num.n q.num.c, .bool q.den.g, .slice q.den.a q.den.n q.den.c] 32)).alloc (.cells #[.bool q'.num.g, .slice q'.num.a q'.num.n q'.num.c, .bool q'.den.g, .slice q'.den.a q'.den.n q'.den.c] 32)).heap.size := by simp
  have HB := hide hb
  clear hb
  generalize ((w.alloc (.cells #[.bool q.num.g, .slice q.num.a q.num.n q.num.c, .bool q.den.g, .slice q.den.a q.den.n q.den.c] 32)).alloc (.cells #[.bool q'.num.g, .slice q'.num.a q'.num.n q'.num.c, .bool q'.den.g, .slice q'.den.a q'.den.n q'.den.c] 32)) = w0 at *
  go_region_held3 (fun w' => w'.cell? ⟨w.heap.size, 0, none⟩ = some (.bool q.num.g) ∧ w'.cell? ⟨w.heap.size, 1, none⟩ = some (.slice q.num.a q.num.n q.num.c) ∧ w'.cell? ⟨w.heap.size, 2, none⟩ = some (.bool q.den.g) ∧ w'.cell? ⟨w.heap.size, 3, none⟩ = some (.slice q.den.a q.den.n q.den.c) ∧ w'.cell? ⟨w.heap.size + 1, 0, none⟩ = some (.bool q'.num.g) ∧ w'.cell? ⟨w.heap.size + 1, 1, none⟩ = some (.slice q'.num.a q'.num.n q'.num.c) ∧ w'.cell? ⟨w.heap.size + 1, 2, none⟩ = some (.bool q'.den.g) ∧ w'.cell? ⟨w.heap.size + 1, 3, none⟩ = some (.slice q'.den.a q'.den.n q'.den.c)) (with_reducible (first | exact ⟨k0_0, k0_1, k0_2, k0_3, k1_0, k1_1, k1_2, k1_3⟩ | exact ⟨cd_other k0_0, cd_other k0_1, cd_other k0_2, cd_other k0_3, cd_other k1_0, cd_other k1_1, cd_other k1_2, cd_other k1_3⟩ | fail))
    (first
    | (go_at_call_of 70 (Value.agg #[Value.bool q.num.g, Value.slice q.num.a q.num.n q.num.c]); refine (mulS_v q.num q'.den N D' _ ?_ ?_ (unhide K1) (unhide K4)).mono ?_; exact (unhide Q1).1.later (Below.refl _ _).drew; exact (unhide Q2).2.later (Below.refl _ _).drew; rintro e w1 ⟨x1, lx1, rfl, hb, ox1, ax1, nx1⟩; have hbx : Below w0.heap.size w0 w1 := below_of_drew hb; have szw1 := hbx.size; replace k0_0 := cell_later hbx k0_0; replace k0_1 := cell_later hbx k0_1; replace k0_2 := cell_later hbx k0_2; replace k0_3 := cell_later hbx k0_3; replace k1_0 := cell_later hbx k1_0; replace k1_1 := cell_later hbx k1_1; replace k1_2 := cell_later hbx k1_2; replace k1_3 := cell_later hbx k1_3; replace Q1 := hide ((unhide Q1).later hbx); replace Q2 := hide ((unhide Q2).later hbx); have Px1 := hide (outN_ow ox1 ax1 nx1); have HBr := hide hbx; clear hbx hb ox1 ax1 nx1)
    | (go_at_call_of 70 (Value.agg #[Value.bool q'.num.g, Value.slice q'.num.a q'.num.n q'.num.c]); refine (mulS_v q'.num q.den N' D _ ?_ ?_ (unhide K3) (unhide K2)).mono ?_; exact (unhide Q2).1.later (Below.refl _ _); exact (unhide Q1).2.later (Below.refl _ _); rintro e w2 ⟨x2, lx2, rfl, hb, ox2, ax2, nx2⟩; have hbx : Below w1.heap.size w1 w2 := hb; have szw2 := hbx.size; replace k0_0 := cell_later hbx k0_0; replace k0_1 := cell_later hbx k0_1; replace k0_2 := cell_later hbx k0_2; replace k0_3 := cell_later hbx k0_3; replace k1_0 := cell_later hbx k1_0; replace k1_1 := cell_later hbx k1_1; replace k1_2 := cell_later hbx k1_2; replace k1_3 := cell_later hbx k1_3; replace Q1 := hide ((unhide Q1).later hbx); replace Q2 := hide ((unhide Q2).later hbx); replace Px1 := hide ((unhide Px1).later hbx); have Px2 := hide (outN_ow ox2 ax2 nx2); have HBr := hide (below_on (unhide HBr) hbx); clear hbx hb ox2 ax2 nx2)
    | (go_at_call 106; refine (cmpS_v x1 x2 (N * D') (N' * D) _ ?_ ?_).mono ?_; exact (unhide Px1).is.later (Below.refl _ _); exact (unhide Px2).is.later (Below.refl _ _); rintro e w3 ⟨rfl, hb⟩; have hbx : Below w2.heap.size w2 w3 := hb; have szw3 := hbx.size; replace k0_0 := cell_later hbx k0_0; replace k0_1 := cell_later hbx k0_1; replace k0_2 := cell_later hbx k0_2; replace k0_3 := cell_later hbx k0_3; replace k1_0 := cell_later hbx k1_0; replace k1_1 := cell_later hbx k1_1; replace k1_2 := cell_later hbx k1_2; replace k1_3 := cell_later hbx k1_3; replace Q1 := hide ((unhide Q1).later hbx); replace Q2 := hide ((unhide Q2).later hbx); replace Px1 := hide ((unhide Px1).later hbx); replace Px2 := hide ((unhide Px2).later hbx); have HBr := hide (below_on (unhide HBr) hbx); clear hbx hb))
  replace HB := hide (below_on (unhide HB) (unhide HBr))
  clear HBr
  go_wp2
  go_ret
  exact ⟨rfl, unhide HB⟩

theorem cmpZ_le (A B : Int) : decide (cmpZ A B ≤ 0) = decide (A ≤ B) := by
  unfold cmpZ
  split
  · exact decide_eq_decide.2 (by omega)
  · split <;> exact decide_eq_decide.2 (by omega)
theorem AllAr.lo {w : World} {v : SV} {d : SD} (h : AllAr w [(v.lo.num, d.lo.num), (v.lo.den, d.lo.den), (v.hi.num, d.hi.num), (v.hi.den, d.hi.den)]) : AllAr w [(v.lo.num, d.lo.num), (v.lo.den, d.lo.den)] := h.Sl
theorem AllAr.hi {w : World} {v : SV} {d : SD} (h : AllAr w [(v.lo.num, d.lo.num), (v.lo.den, d.lo.den), (v.hi.num, d.hi.num), (v.hi.den, d.hi.den)]) : AllAr w [(v.hi.num, d.hi.num), (v.hi.den, d.hi.den)] := h.Sr

structure IsGoodS (w : World) (v : SV) (d : SD) : Prop where
  lo : IsGood w v.lo d.lo
  hi : IsGood w v.hi d.hi
  le : nQ d.lo * dQ d.hi ≤ nQ d.hi * dQ d.lo
theorem IsGoodS.later {w w' : World} {v : SV} {d : SD} (h : IsGoodS w v d) (hb : Below w.heap.size w w') : IsGoodS w' v d := ⟨h.lo.later hb, h.hi.later hb, h.le⟩

end Go.Proofs.YtcbmecnipldcfaaGreat
namespace Go.Proofs.YtcbmecnipldcfaaGreat
open Go.RowKit
set_option linter.unusedVariables false
set_option maxRecDepth 100000
set_option linter.unusedSimpArgs false

/-- A variable of the law's own: its box at block G, what it leads to at blocks from lo to below hi. -/
structure VarS (wx : World) (G lo hi : Nat) (v : SV) (d : SD) : Prop where
  c0 : wx.cell? ⟨G, 0, none⟩ = some (.bool v.lo.num.g)
  c1 : wx.cell? ⟨G, 1, none⟩ = some (.slice v.lo.num.a v.lo.num.n v.lo.num.c)
  c2 : wx.cell? ⟨G, 2, none⟩ = some (.bool v.lo.den.g)
  c3 : wx.cell? ⟨G, 3, none⟩ = some (.slice v.lo.den.a v.lo.den.n v.lo.den.c)
  c4 : wx.cell? ⟨G, 4, none⟩ = some (.bool v.hi.num.g)
  c5 : wx.cell? ⟨G, 5, none⟩ = some (.slice v.hi.num.a v.hi.num.n v.hi.num.c)
  c6 : wx.cell? ⟨G, 6, none⟩ = some (.bool v.hi.den.g)
  c7 : wx.cell? ⟨G, 7, none⟩ = some (.slice v.hi.den.a v.hi.den.n v.hi.den.c)
  own : AllOwn lo hi wx [(v.lo.num, d.lo.num), (v.lo.den, d.lo.den), (v.hi.num, d.hi.num), (v.hi.den, d.hi.den)]
theorem VarS.later {wx wy : World} {G lo hi : Nat} {v : SV} {d : SD} (h : VarS wx G lo hi v d) (hb : Below wx.heap.size wx wy) : VarS wy G lo hi v d :=
  ⟨cell_later hb h.c0, cell_later hb h.c1, cell_later hb h.c2, cell_later hb h.c3, cell_later hb h.c4, cell_later hb h.c5, cell_later hb h.c6, cell_later hb h.c7, h.own.later hb⟩
theorem VarS.but {wx wy : World} {G lo hi lo' hi' : Nat} {v : SV} {d : SD} (h : VarS wx G lo hi v d) (hb : But lo' hi' wx wy) (hG : G < lo' ∨ hi' ≤ G) (hd : hi ≤ lo' ∨ hi' ≤ lo) : VarS wy G lo hi v d :=
  ⟨hb.cell h.c0 hG, hb.cell h.c1 hG, hb.cell h.c2 hG, hb.cell h.c3 hG, hb.cell h.c4 hG, hb.cell h.c5 hG, hb.cell h.c6 hG, hb.cell h.c7 hG, h.own.but hb hd⟩
theorem VarS.mark {wx wy : World} {G lo hi : Nat} {v : SV} {d d' : SD} (h : VarS wx G lo hi v d) (hb : But lo hi wx wy) (hG : G < lo ∨ hi ≤ G) (ho : AllOwn lo hi wy [(v.lo.num, d'.lo.num), (v.lo.den, d'.lo.den), (v.hi.num, d'.hi.num), (v.hi.den, d'.hi.den)]) : VarS wy G lo hi v d' :=
  ⟨hb.cell h.c0 hG, hb.cell h.c1 hG, hb.cell h.c2 hG, hb.cell h.c3 hG, hb.cell h.c4 hG, hb.cell h.c5 hG, hb.cell h.c6 hG, hb.cell h.c7 hG, ho⟩
theorem VarS.low {wx : World} {G lo hi lo' : Nat} {v : SV} {d : SD} (h : VarS wx G lo hi v d) (hl : lo' ≤ lo) : VarS wx G lo' hi v d := ⟨h.c0, h.c1, h.c2, h.c3, h.c4, h.c5, h.c6, h.c7, h.own.wide hl (Nat.le_refl _)⟩
theorem VarS.start {wx : World} {lo : Nat} {v : SV} {d : SD} (t : TypeId) (h : AllOwn lo wx.heap.size wx [(v.lo.num, d.lo.num), (v.lo.den, d.lo.den), (v.hi.num, d.hi.num), (v.hi.den, d.hi.den)]) : VarS (wx.alloc (.cells #[.bool v.lo.num.g, .slice v.lo.num.a v.lo.num.n v.lo.num.c, .bool v.lo.den.g, .slice v.lo.den.a v.lo.den.n v.lo.den.c, .bool v.hi.num.g, .slice v.hi.num.a v.hi.num.n v.hi.num.c, .bool v.hi.den.g, .slice v.hi.den.a v.hi.den.n v.hi.den.c] t)) wx.heap.size lo wx.heap.size v d :=
  ⟨by simp [go_sem], by simp [go_sem], by simp [go_sem], by simp [go_sem], by simp [go_sem], by simp [go_sem], by simp [go_sem], by simp [go_sem], h.later ((Below.refl _ _).alloc (Nat.le_refl _) _)⟩
theorem VarS.gt {wx : World} {G lo hi : Nat} {v : SV} {d : SD} (h : VarS wx G lo hi v d) : G < wx.heap.size := World.block_lt_of_cell? _ _ h.c0
end Go.Proofs.YtcbmecnipldcfaaGreat
namespace Go.Proofs.YtcbmecnipldcfaaGreat
open Go.RowKit
set_option linter.unusedVariables false
set_option maxRecDepth 100000
set_option linter.unusedSimpArgs false

set_option maxHeartbeats 4000000 in
theorem copyB (b : BV) (V : Int) (w : World) (h : IsB w b V) (k : Bd V 400000) : Calls Tryz.prog 142 #[.agg #[.bool b.g, .slice b.a b.n b.c]] w (OutN w V) := by
  obtain ⟨xs, hx, _, hl, nx, sx⟩ := h.num k (by omega)
  have HX := hide hx.arg
  have NX := hide nx
  have SX : Hid (sU b.g (V.natAbs : Int) = V) := hide (by rw [sx]; unfold sU; by_cases e : V < 0 <;> simp [e] <;> omega)
  clear h hx nx sx
  go_enter Tryz.func142, Tryz.ntmps142
  go_upto_region 1 with fail
  have hb : Below w.heap.size w ((w.alloc (.cells #[.bool b.g, .slice b.a b.n b.c] 30)).alloc (.cells #[.bool false, .slice none 0 0] 30)) := (((Below.refl _ _).alloc (by simp) _).alloc (by simp) _)
  have k0_0 : ((w.alloc (.cells #[.bool b.g, .slice b.a b.n b.c] 30)).alloc (.cells #[.bool false, .slice none 0 0] 30)).cell? ⟨w.heap.size, 0, none⟩ = some (.bool b.g) := by simp [go_sem]
  have k0_1 : ((w.alloc (.cells #[.bool b.g, .slice b.a b.n b.c] 30)).alloc (.cells #[.bool false, .slice none 0 0] 30)).cell? ⟨w.heap.size, 1, none⟩ = some (.slice b.a b.n b.c) := by simp [go_sem]
  have k1_0 : ((w.alloc (.cells #[.bool b.g, .slice b.a b.n b.c] 30)).alloc (.cells #[.bool false, .slice none 0 0] 30)).cell? ⟨w.heap.size + 1, 0, none⟩ = some (.bool false) := by simp [go_sem]
  have k1_1 : ((w.alloc (.cells #[.bool b.g, .slice b.a b.n b.c] 30)).alloc (.cells #[.bool false, .slice none 0 0] 30)).cell? ⟨w.heap.size + 1, 1, none⟩ = some (.slice none 0 0) := by simp [go_sem]
  have z1 : ∀ o, ((w.alloc (.cells #[.bool b.g, .slice b.a b.n b.c] 30)).alloc (.cells #[.bool false, .slice none 0 0] 30)).frozen? ⟨w.heap.size + 1, o, none⟩ = false := fun o => by simp [go_sem]
  have A := hide ((unhide HX).later hb)
  have szw0 : w.heap.size + 2 ≤ ((w.alloc (.cells #[.bool b.g, .slice b.a b.n b.c] 30)).alloc (.cells #[.bool false, .slice none 0 0] 30)).heap.size := by simp
  have HB := hide hb
  clear hb
  generalize ((w.alloc (.cells #[.bool b.g, .slice b.a b.n b.c] 30)).alloc (.cells #[.bool false, .slice none 0 0] 30)) = w0 at *
  have ne0_1 : w.heap.size ≠ w.heap.size + 1 := by omega
  go_region_held3 (fun w' => w'.cell? ⟨w.heap.size, 0, none⟩ = some (.bool b.g) ∧ w'.cell? ⟨w.heap.size, 1, none⟩ = some (.slice b.a b.n b.c)) (with_reducible (first | exact ⟨k0_0, k0_1⟩ | exact ⟨cd_other k0_0, cd_other k0_1⟩ | exact ⟨cs_other (cs_other (k0_0) ne0_1) ne0_1, cs_other (cs_other (k0_1) ne0_1) ne0_1⟩ | fail))
    (first
    | (go_at_call 136; refine (clone_any b.a b.n b.c xs _ ?_ (by omega)).mono ?_; exact (unhide A).later (Below.refl _ _).drew; rintro e w1 ⟨a1, c1, rfl, hb, ho, ha⟩; have hbx : Below w0.heap.size w0 w1 := below_of_drew hb; have szw1 := hbx.size; replace z1 := fun o => frozen_later hbx (World.block_lt_of_cell? _ _ k1_0) (z1 o); replace k0_0 := cell_later hbx k0_0; replace k0_1 := cell_later hbx k0_1; replace k1_0 := cell_later hbx k1_0; replace k1_1 := cell_later hbx k1_1; replace A := hide ((unhide A).later hbx); have A1 := hide (ha); have O1 := hide (ho.two); have HBr := hide hbx; clear hbx hb ho ha)
    | (go_at_call 79; refine (signI_v _ a1 b.n c1 xs _ w0.heap.size w1.heap.size (V.natAbs : Int) ?_ ?_ (unhide NX)).mono ?_; exact (unhide A1).later (Below.refl _ _); exact (unhide O1).later (Below.refl _ _); rintro e w2 ⟨x1, rfl, hb, ow, ar⟩; have hbx : Below w1.heap.size w1 w2 := hb; have szw2 := hbx.size; replace z1 := fun o => frozen_later hbx (World.block_lt_of_cell? _ _ k1_0) (z1 o); replace k0_0 := cell_later hbx k0_0; replace k0_1 := cell_later hbx k0_1; replace k1_0 := cell_later hbx k1_0; replace k1_1 := cell_later hbx k1_1; replace A := hide ((unhide A).later hbx); replace A1 := hide ((unhide A1).later hbx); replace O1 := hide ((unhide O1).later hbx); rw [unhide SX] at ow ar; have OW := hide (ow); have AR := hide (ar); have HBr := hide (below_on (unhide HBr) hbx); clear hbx hb ow ar))
  replace HB := hide (below_on (unhide HB) (unhide HBr))
  clear HBr
  go_wp2
  refine bodyPost_ret (v := .agg #[.bool x1.g, .slice x1.a x1.n x1.c]) (by simp [results, Tryz.results142, go_sem, k1_0, k1_1]) rfl ?_
  exact outN_fin (b := x1) (R := w.heap.size + 1) (by omega) (unhide HB) (metB_but (w5 := w2) (v := x1) (G := w.heap.size + 1)) ((unhide OW).wide (by omega) (by omega)) (unhide AR) (unhide NX)

set_option maxHeartbeats 4000000 in
theorem copyQ (q : QV) (N D : Int) (w : World) (h : IsQ w q N D) (k1 : Bd N 400000) (k2 : Bd D 400000) : Calls Tryz.prog 125 #[.agg #[.bool q.num.g, .slice q.num.a q.num.n q.num.c, .bool q.den.g, .slice q.den.a q.den.n q.den.c]] w (OutQ w N D) := by
  have H1 := hide h
  have K1 := hide k1
  have K2 := hide k2
  clear h k1 k2
  go_enter Tryz.func125, Tryz.ntmps125
  go_upto_region 1 with fail
  have hb : Below w.heap.size w ((w.alloc (.cells #[.bool q.num.g, .slice q.num.a q.num.n q.num.c, .bool q.den.g, .slice q.den.a q.den.n q.den.c] 32)).alloc (.cells #[.bool false, .slice none 0 0, .bool false, .slice none 0 0] 32)) := (((Below.refl _ _).alloc (by simp) _).alloc (by simp) _)
  have k0_0 : ((w.alloc (.cells #[.bool q.num.g, .slice q.num.a q.num.n q.num.c, .bool q.den.g, .slice q.den.a q.den.n q.den.c] 32)).alloc (.cells #[.bool false, .slice none 0 0, .bool false, .slice none 0 0] 32)).cell? ⟨w.heap.size, 0, none⟩ = some (.bool q.num.g) := by simp [go_sem]
  have k0_1 : ((w.alloc (.cells #[.bool q.num.g, .slice q.num.a q.num.n q.num.c, .bool q.den.g, .slice q.den.a q.den.n q.den.c] 32)).alloc (.cells #[.bool false, .slice none 0 0, .bool false, .slice none 0 0] 32)).cell? ⟨w.heap.size, 1, none⟩ = some (.slice q.num.a q.num.n q.num.c) := by simp [go_sem]
  have k0_2 : ((w.alloc (.cells #[.bool q.num.g, .slice q.num.a q.num.n q.num.c, .bool q.den.g, .slice q.den.a q.den.n q.den.c] 32)).alloc (.cells #[.bool false, .slice none 0 0, .bool false, .slice none 0 0] 32)).cell? ⟨w.heap.size, 2, none⟩ = some (.bool q.den.g) := by simp [go_sem]
  have k0_3 : ((w.alloc (.cells #[.bool q.num.g, .slice q.num.a q.num.n q.num.c, .bool q.den.g, .slice q.den.a q.den.n q.den.c] 32)).alloc (.cells #[.bool false, .slice none 0 0, .bool false, .slice none 0 0] 32)).cell? ⟨w.heap.size, 3, none⟩ = some (.slice q.den.a q.den.n q.den.c) := by simp [go_sem]
  have k1_0 : ((w.alloc (.cells #[.bool q.num.g, .slice q.num.a q.num.n q.num.c, .bool q.den.g, .slice q.den.a q.den.n q.den.c] 32)).alloc (.cells #[.bool false, .slice none 0 0, .bool false, .slice none 0 0] 32)).cell? ⟨w.heap.size + 1, 0, none⟩ = some (.bool false) := by simp [go_sem]
  have k1_1 : ((w.alloc (.cells #[.bool q.num.g, .slice q.num.a q.num.n q.num.c, .bool q.den.g, .slice q.den.a q.den.n q.den.c] 32)).alloc (.cells #[.bool false, .slice none 0 0, .bool false, .slice none 0 0] 32)).cell? ⟨w.heap.size + 1, 1, none⟩ = some (.slice none 0 0) := by simp [go_sem]
  have k1_2 : ((w.alloc (.cells #[.bool q.num.g, .slice q.num.a q.num.n q.num.c, .bool q.den.g, .slice q.den.a q.den.n q.den.c] 32)).alloc (.cells #[.bool false, .slice none 0 0, .bool false, .slice none 0 0] 32)).cell? ⟨w.heap.size + 1, 2, none⟩ = some (.bool false) := by simp [go_sem]
  have k1_3 : ((w.alloc (.cells #[.bool q.num.g, .slice q.num.a q.num.n q.num.c, .bool q.den.g, .slice q.den.a q.den.n q.den.c] 32)).alloc (.cells #[.bool false, .slice none 0 0, .bool false, .slice none 0 0] 32)).cell? ⟨w.heap.size + 1, 3, none⟩ = some (.slice none 0 0) := by simp [go_sem]
  have z1 : ∀ o, ((w.alloc (.cells #[.bool q.num.g, .slice q.num.a q.num.n q.num.c, .bool q.den.g, .slice q.den.a q.den.n q.den.c] 32)).alloc (.cells #[.bool false, .slice none 0 0, .bool false, .slice none 0 0] 32)).frozen? ⟨w.heap.size + 1, o, none⟩ = false := fun o => by simp [go_sem]
  have Q1 := hide ((unhide H1).later hb)
  have szw0 : w.heap.size + 2 ≤ ((w.alloc (.cells #[.bool q.num.g, .slice q.num.a q.num.n q.num.c, .bool q.den.g, .slice q.den.a q.den.n q.den.c] 32)).alloc (.cells #[.bool false, .slice none 0 0, .bool false, .slice none 0 0] 32)).heap.size := by simp
  have HB := hide hb
  clear hb
  generalize ((w.alloc (.cells #[.bool q.num.g, .slice q.num.a q.num.n q.num.c, .bool q.den.g, .slice q.den.a q.den.n q.den.c] 32)).alloc (.cells #[.bool false, .slice none 0 0, .bool false, .slice none 0 0] 32)) = w0 at *
  have ne0_1 : w.heap.size ≠ w.heap.size + 1 := by omega
  go_region_held3 (fun w' => w'.cell? ⟨w.heap.size, 0, none⟩ = some (.bool q.num.g) ∧ w'.cell? ⟨w.heap.size, 1, none⟩ = some (.slice q.num.a q.num.n q.num.c) ∧ w'.cell? ⟨w.heap.size, 2, none⟩ = some (.bool q.den.g) ∧ w'.cell? ⟨w.heap.size, 3, none⟩ = some (.slice q.den.a q.den.n q.den.c)) (with_reducible (first | exact ⟨k0_0, k0_1, k0_2, k0_3⟩ | exact ⟨cd_other k0_0, cd_other k0_1, cd_other k0_2, cd_other k0_3⟩ | exact ⟨cs_other (cs_other (cs_other (cs_other (k0_0) ne0_1) ne0_1) ne0_1) ne0_1, cs_other (cs_other (cs_other (cs_other (k0_1) ne0_1) ne0_1) ne0_1) ne0_1, cs_other (cs_other (cs_other (cs_other (k0_2) ne0_1) ne0_1) ne0_1) ne0_1, cs_other (cs_other (cs_other (cs_other (k0_3) ne0_1) ne0_1) ne0_1) ne0_1⟩ | fail))
    (first
    | (go_at_call_of 142 (Value.agg #[Value.bool q.num.g, Value.slice q.num.a q.num.n q.num.c]); refine (copyB q.num N _ ?_ (unhide K1)).mono ?_; exact (unhide Q1).1.later (Below.refl _ _).drew; rintro e w1 ⟨x1, l1, rfl, hb, o1, a1, n1⟩; have hbx : Below w0.heap.size w0 w1 := below_of_drew hb; have szw1 := hbx.size; replace z1 := fun o => frozen_later hbx (World.block_lt_of_cell? _ _ k1_0) (z1 o); replace k0_0 := cell_later hbx k0_0; replace k0_1 := cell_later hbx k0_1; replace k0_2 := cell_later hbx k0_2; replace k0_3 := cell_later hbx k0_3; replace k1_0 := cell_later hbx k1_0; replace k1_1 := cell_later hbx k1_1; replace k1_2 := cell_later hbx k1_2; replace k1_3 := cell_later hbx k1_3; replace Q1 := hide ((unhide Q1).later hbx); have o1x : AllOwn w0.heap.size w1.heap.size w1 [(x1, ⟨decide (N < 0), l1⟩)] := o1; have P1 := hide (outN_ow o1x a1 n1); have HBr := hide hbx; clear hbx hb o1 a1 n1 o1x)
    | (go_at_call_of 142 (Value.agg #[Value.bool q.den.g, Value.slice q.den.a q.den.n q.den.c]); refine (copyB q.den D _ ?_ (unhide K2)).mono ?_; exact (unhide Q1).2.later (Below.refl _ _); rintro e w2 ⟨x2, l2, rfl, hb, o2, a2, n2⟩; have hbx : Below w1.heap.size w1 w2 := hb; have szw2 := hbx.size; replace z1 := fun o => frozen_later hbx (World.block_lt_of_cell? _ _ k1_0) (z1 o); replace k0_0 := cell_later hbx k0_0; replace k0_1 := cell_later hbx k0_1; replace k0_2 := cell_later hbx k0_2; replace k0_3 := cell_later hbx k0_3; replace k1_0 := cell_later hbx k1_0; replace k1_1 := cell_later hbx k1_1; replace k1_2 := cell_later hbx k1_2; replace k1_3 := cell_later hbx k1_3; replace Q1 := hide ((unhide Q1).later hbx); replace P1 := hide ((unhide P1).later hbx); have P2 := hide (outN_ow o2 a2 n2); have HBr := hide (below_on (unhide HBr) hbx); clear hbx hb o2 a2 n2))
  replace HB := hide (below_on (unhide HB) (unhide HBr))
  clear HBr
  go_wp2
  refine bodyPost_ret (v := .agg #[.bool x1.g, .slice x1.a x1.n x1.c, .bool x2.g, .slice x2.a x2.n x2.c]) (by simp [results, Tryz.results125, go_sem, k1_0, k1_1, k1_2, k1_3]) rfl ?_
  obtain ⟨zs, us, oo, aa, m1, m2⟩ := (unhide P1).two (unhide P2) (by omega) (by omega)
  exact outQ_fin (q := ⟨x1, x2⟩) (R := w.heap.size + 1) (by omega) (unhide HB) (metQ_but (w5 := w2) (v := ⟨x1, x2⟩) (G := w.heap.size + 1)) (oo.wide (by omega) (by omega)) aa m1 m2

end Go.Proofs.YtcbmecnipldcfaaGreat
namespace Go.Proofs.YtcbmecnipldcfaaGreat
open Go.RowKit
set_option linter.unusedVariables false
set_option maxRecDepth 100000
set_option linter.unusedSimpArgs false

end Go.Proofs.YtcbmecnipldcfaaGreat
namespace Go.Proofs.YtcbmecnipldcfaaGreat
open Go.RowKit
set_option linter.unusedVariables false
set_option maxRecDepth 100000
set_option linter.unusedSimpArgs false

def AnsS (P : Bool) (N D N' D' : Int) (d : SD) (ok : Bool) : Prop :=
  (P = true ∧ ∃ xs us ys vs, Nm xs N.natAbs ∧ Nm us D.natAbs ∧ Nm ys N'.natAbs ∧ Nm vs D'.natAbs ∧ (((xs.length ≤ 40 ∧ us.length ≤ 40) ∧ (ys.length ≤ 40 ∧ vs.length ≤ 40) ∧ ok = true ∧ d = (⟨⟨⟨decide (N < 0), xs⟩, ⟨decide (D < 0), us⟩⟩, ⟨⟨decide (N' < 0), ys⟩, ⟨decide (D' < 0), vs⟩⟩⟩ : SD)) ∨ (¬ ((xs.length ≤ 40 ∧ us.length ≤ 40) ∧ (ys.length ≤ 40 ∧ vs.length ≤ 40)) ∧ ok = false ∧ d = (⟨⟨⟨false, []⟩, ⟨false, []⟩⟩, ⟨⟨false, []⟩, ⟨false, []⟩⟩⟩ : SD)))) ∨ (P = false ∧ ok = false ∧ d = (⟨⟨⟨false, []⟩, ⟨false, []⟩⟩, ⟨⟨false, []⟩, ⟨false, []⟩⟩⟩ : SD))
theorem AnsS.same {P : Bool} {N D N' D' : Int} {d d' : SD} {ok ok' : Bool} (h : AnsS P N D N' D' d ok) (k : AnsS P N D N' D' d' ok') : d = d' ∧ ok = ok' := by
  rcases h with ⟨p, xs, us, ys, vs, h1, h2, h3, h4, h5⟩ | ⟨p, h1, h2⟩ <;> rcases k with ⟨p', xs', us', ys', vs', k1, k2, k3, k4, k5⟩ | ⟨p', k1, k2⟩
  · obtain rfl := h1.same k1
    obtain rfl := h2.same k2
    obtain rfl := h3.same k3
    obtain rfl := h4.same k4
    rcases h5 with ⟨a, b, c, e⟩ | ⟨a, c, e⟩ <;> rcases k5 with ⟨a', b', c', e'⟩ | ⟨a', c', e'⟩
    · exact ⟨e.trans e'.symm, c.trans c'.symm⟩
    · exact absurd ⟨a, b⟩ a'
    · exact absurd ⟨a', b'⟩ a
    · exact ⟨e.trans e'.symm, c.trans c'.symm⟩
  · rw [p] at p'; cases p'
  · rw [p] at p'; cases p'
  · exact ⟨h2.trans k2.symm, h1.trans k1.symm⟩
end Go.Proofs.YtcbmecnipldcfaaGreat
namespace Go.Proofs.YtcbmecnipldcfaaGreat
open Go.RowKit
set_option linter.unusedVariables false
set_option maxRecDepth 100000
set_option linter.unusedSimpArgs false

end Go.Proofs.YtcbmecnipldcfaaGreat
namespace Go.Proofs.YtcbmecnipldcfaaGreat
open Go.RowKit
set_option linter.unusedVariables false
set_option maxRecDepth 100000
set_option linter.unusedSimpArgs false

/-- The boxes of the least and the greatest so far. -/
structure Lst (w wr : World) (G1 G2 : Nat) (q1 q2 : QV) : Prop where
  a0 : wr.cell? ⟨G1, 0, none⟩ = some (.bool q1.num.g)
  a1 : wr.cell? ⟨G1, 1, none⟩ = some (.slice q1.num.a q1.num.n q1.num.c)
  a2 : wr.cell? ⟨G1, 2, none⟩ = some (.bool q1.den.g)
  a3 : wr.cell? ⟨G1, 3, none⟩ = some (.slice q1.den.a q1.den.n q1.den.c)
  b0 : wr.cell? ⟨G2, 0, none⟩ = some (.bool q2.num.g)
  b1 : wr.cell? ⟨G2, 1, none⟩ = some (.slice q2.num.a q2.num.n q2.num.c)
  b2 : wr.cell? ⟨G2, 2, none⟩ = some (.bool q2.den.g)
  b3 : wr.cell? ⟨G2, 3, none⟩ = some (.slice q2.den.a q2.den.n q2.den.c)
  f1 : ∀ o, wr.frozen? ⟨G1, o, none⟩ = false
  f2 : ∀ o, wr.frozen? ⟨G2, o, none⟩ = false
  r0 : wr.cell? ⟨w.heap.size + 1, 0, none⟩ = some (.bool false)
  r1 : wr.cell? ⟨w.heap.size + 1, 1, none⟩ = some (.slice none 0 0)
  r2 : wr.cell? ⟨w.heap.size + 1, 2, none⟩ = some (.bool false)
  r3 : wr.cell? ⟨w.heap.size + 1, 3, none⟩ = some (.slice none 0 0)
  r4 : wr.cell? ⟨w.heap.size + 1, 4, none⟩ = some (.bool false)
  r5 : wr.cell? ⟨w.heap.size + 1, 5, none⟩ = some (.slice none 0 0)
  r6 : wr.cell? ⟨w.heap.size + 1, 6, none⟩ = some (.bool false)
  r7 : wr.cell? ⟨w.heap.size + 1, 7, none⟩ = some (.slice none 0 0)
  fr : ∀ o, wr.frozen? ⟨w.heap.size + 1, o, none⟩ = false
  bel : Below w.heap.size w wr
theorem Lst.later {w wr wy : World} {G1 G2 : Nat} {q1 q2 : QV} (h : Lst w wr G1 G2 q1 q2) (hb : Below wr.heap.size wr wy) : Lst w wy G1 G2 q1 q2 :=
  ⟨cell_later hb h.a0, cell_later hb h.a1, cell_later hb h.a2, cell_later hb h.a3, cell_later hb h.b0, cell_later hb h.b1, cell_later hb h.b2, cell_later hb h.b3, fun o => frozen_later hb (World.block_lt_of_cell? _ _ h.a0) (h.f1 o), fun o => frozen_later hb (World.block_lt_of_cell? _ _ h.b0) (h.f2 o), cell_later hb h.r0, cell_later hb h.r1, cell_later hb h.r2, cell_later hb h.r3, cell_later hb h.r4, cell_later hb h.r5, cell_later hb h.r6, cell_later hb h.r7, fun o => frozen_later hb (World.block_lt_of_cell? _ _ h.r0) (h.fr o), below_on h.bel hb⟩
end Go.Proofs.YtcbmecnipldcfaaGreat
namespace Go.Proofs.YtcbmecnipldcfaaGreat
open Go.RowKit
set_option linter.unusedVariables false
set_option maxRecDepth 100000
set_option linter.unusedSimpArgs false

/-- In lowest terms, the denominator above 0. -/
structure Low (N D : Int) : Prop where
  pos : 0 < D
  co : Nat.gcd N.natAbs D.natAbs = 1
theorem Low.same {N D N' D' : Int} (h : Low N D) (k : Low N' D') (e : N * D' = N' * D) : N = N' ∧ D = D' := by
  have h1 : D.natAbs ∣ D'.natAbs := by
    have : D.natAbs ∣ N.natAbs * D'.natAbs := by rw [← Int.natAbs_mul, e, Int.natAbs_mul]; exact Nat.dvd_mul_left _ _
    exact Nat.Coprime.dvd_of_dvd_mul_left (by rw [Nat.Coprime, Nat.gcd_comm]; exact h.co) this
  have h2 : D'.natAbs ∣ D.natAbs := by
    have : D'.natAbs ∣ N'.natAbs * D.natAbs := by rw [← Int.natAbs_mul, ← e, Int.natAbs_mul]; exact Nat.dvd_mul_left _ _
    exact Nat.Coprime.dvd_of_dvd_mul_left (by rw [Nat.Coprime, Nat.gcd_comm]; exact k.co) this
  have h3 : D.natAbs = D'.natAbs := Nat.dvd_antisymm h1 h2
  have hp := h.pos
  have kp := k.pos
  have h4 : D = D' := by omega
  subst h4
  exact ⟨Int.eq_of_mul_eq_mul_right (by omega) e, rfl⟩
theorem low_low {N D : Int} (h : D ≠ 0) : Low (lowN N D) (lowD N D) := by
  refine ⟨lowD_pos h, ?_⟩
  have hg := gcd_pos_right (N := N) h
  have e1 : (lowN N D).natAbs = N.natAbs / Nat.gcd N.natAbs D.natAbs := by
    have h1 := lowN_abs N D
    unfold lowU at h1
    rw [← Int.natCast_ediv] at h1
    exact_mod_cast h1
  have e2 : (lowD N D).natAbs = D.natAbs / Nat.gcd N.natAbs D.natAbs := by
    have h1 := lowD_abs N D
    unfold lowD at h1 ⊢
    rw [← Int.natCast_ediv, Int.natAbs_natCast]
  rw [e1, e2]
  exact Nat.gcd_div_gcd_div_gcd_of_pos_right (by omega)
theorem low_cross {N D : Int} (h : 0 < D) : lowN N D * D = N * lowD N D := by
  have hg := gcd_pos_right (N := N) (show D ≠ 0 by omega)
  have d1 : ((Nat.gcd N.natAbs D.natAbs : Nat) : Int) ∣ (N.natAbs : Int) := by exact_mod_cast Nat.gcd_dvd_left _ _
  have d2 : ((Nat.gcd N.natAbs D.natAbs : Nat) : Int) ∣ (D.natAbs : Int) := by exact_mod_cast Nat.gcd_dvd_right _ _
  have m1 := Int.ediv_mul_cancel d1
  have m2 := Int.ediv_mul_cancel d2
  unfold lowN lowD lowU sU
  generalize (N.natAbs : Int) / ((Nat.gcd N.natAbs D.natAbs : Nat) : Int) = a at *
  generalize (D.natAbs : Int) / ((Nat.gcd N.natAbs D.natAbs : Nat) : Int) = b at *
  generalize ((Nat.gcd N.natAbs D.natAbs : Nat) : Int) = g at *
  rw [decide_eq_false (show ¬ D < 0 by omega)]
  have hD : D = b * g := by omega
  by_cases c : N < 0
  · have hN : N = -(a * g) := by omega
    rw [decide_eq_true c, if_pos (by rfl), hN, hD]
    simp only [Int.neg_mul, Int.mul_neg, Int.mul_comm, Int.mul_left_comm]
  · have hN : N = a * g := by omega
    rw [decide_eq_false c, if_neg (by simp), hN, hD]
    simp only [Int.mul_comm, Int.mul_left_comm]
end Go.Proofs.YtcbmecnipldcfaaGreat
namespace Go.Proofs.YtcbmecnipldcfaaGreat
open Go.RowKit
set_option linter.unusedVariables false
set_option maxRecDepth 100000
set_option linter.unusedSimpArgs false

set_option maxHeartbeats 4000000 in
theorem wholeS (n : Int) (w : World) (h0 : -9223372036854775808 ≤ n) (h1 : n ≤ 9223372036854775807) : Calls Tryz.prog 48 #[.int .i64 n] w (OutQ w n 1) := by
  have B0 := hide (show Below w.heap.size w (w.alloc (.cells #[.bool false, .slice none 0 0, .bool false, .slice none 0 0] 32)) from ((Below.refl _ _).alloc (by simp) _))
  go_enter Tryz.func48, Tryz.ntmps48
  go_wp2_with fail
  refine (ofS_v n _ h0 h1).mono ?_
  rintro e w1 ⟨x1, l1, rfl, hb, o1, a1, n1⟩
  have s1 : w.heap.size + 1 ≤ w1.heap.size := by have := hb.size; simp at this; omega
  replace o1 := o1.wide (lo' := w.heap.size + 1) (by simp) (Nat.le_refl _)
  have k0_0 : w1.cell? ⟨w.heap.size, 0, none⟩ = some (.bool false) := cell_later hb (by simp [go_sem])
  have k0_1 : w1.cell? ⟨w.heap.size, 1, none⟩ = some (.slice none 0 0) := cell_later hb (by simp [go_sem])
  have k0_2 : w1.cell? ⟨w.heap.size, 2, none⟩ = some (.bool false) := cell_later hb (by simp [go_sem])
  have k0_3 : w1.cell? ⟨w.heap.size, 3, none⟩ = some (.slice none 0 0) := cell_later hb (by simp [go_sem])
  have z0 : ∀ o, w1.frozen? ⟨w.heap.size, o, none⟩ = false := fun o => frozen_later hb (by simp) (by simp [go_sem])
  have P1 := hide (outN_ow o1 a1 n1)
  have HB := hide (below_on (unhide B0) hb)
  clear hb
  clear o1 a1 n1
  go_wp2_with fail
  refine (ofS_v 1 _ (by omega) (by omega)).mono ?_
  rintro e w2 ⟨x2, l2, rfl, hb, o2, a2, n2⟩
  have s2 := hb.size
  replace z0 := fun o => frozen_later hb (World.block_lt_of_cell? _ _ k0_0) (z0 o)
  replace k0_0 := cell_later hb k0_0
  replace k0_1 := cell_later hb k0_1
  replace k0_2 := cell_later hb k0_2
  replace k0_3 := cell_later hb k0_3
  replace P1 := hide ((unhide P1).later hb)
  have P2 := hide (outN_ow o2 a2 n2)
  replace HB := hide (below_on (unhide HB) hb)
  clear hb
  clear o2 a2 n2
  go_wp2
  refine bodyPost_ret (v := .agg #[.bool x1.g, .slice x1.a x1.n x1.c, .bool x2.g, .slice x2.a x2.n x2.c]) (by simp [results, Tryz.results48, go_sem, k0_0, k0_1, k0_2, k0_3]) rfl ?_
  obtain ⟨zs, us, oo, aa, m1, m2⟩ := (unhide P1).two (unhide P2) s1 s2
  exact outQ_fin (q := ⟨x1, x2⟩) (R := w.heap.size) (Nat.le_refl _) (unhide HB) (metQ_but (w5 := w2) (v := ⟨x1, x2⟩) (G := w.heap.size)) oo aa m1 m2

/-- Whether a span has 0 within, as the program asks. -/
def hN (d : SD) : Bool := (d.lo.num.g || decide (d.lo.num.xs.length = 0)) && !d.hi.num.g
/-- A good number is below 0 where its sign says so, 0 without limbs. -/
theorem goodB_neg {g : Bool} {xs : List Int} (h : goodB g xs = true) : (sv g xs < 0 ↔ g = true) ∧ (sv g xs = 0 ↔ xs.length = 0) := by
  obtain ⟨h1, h2, h3, h4⟩ := good_parts h
  have hv := val_nonneg h1
  have hz := val_zero_iff h1 h2
  have hl : xs = [] ↔ xs.length = 0 := List.length_eq_zero_iff.symm
  unfold sv
  cases g
  · rw [if_neg (by simp)]
    exact ⟨⟨fun e => by omega, fun e => by cases e⟩, hz.trans hl⟩
  · rw [if_pos rfl]
    have h5 : xs ≠ [] := fun e => by cases h4 e
    have h6 : val xs ≠ 0 := fun e => h5 (hz.1 e)
    exact ⟨⟨fun _ => rfl, fun _ => by omega⟩, ⟨fun e => by omega, fun e => absurd (hl.2 e) h5⟩⟩
end Go.Proofs.YtcbmecnipldcfaaGreat
namespace Go.Proofs.YtcbmecnipldcfaaGreat
open Go.RowKit
set_option linter.unusedVariables false
set_option maxRecDepth 100000
set_option linter.unusedSimpArgs false

/-- The box of the span so far. -/
structure Ls3 (w wr : World) (G : Nat) (q1 q2 : QV) : Prop where
  a0 : wr.cell? ⟨G, 0, none⟩ = some (.bool q1.num.g)
  a1 : wr.cell? ⟨G, 1, none⟩ = some (.slice q1.num.a q1.num.n q1.num.c)
  a2 : wr.cell? ⟨G, 2, none⟩ = some (.bool q1.den.g)
  a3 : wr.cell? ⟨G, 3, none⟩ = some (.slice q1.den.a q1.den.n q1.den.c)
  b0 : wr.cell? ⟨G, 4, none⟩ = some (.bool q2.num.g)
  b1 : wr.cell? ⟨G, 5, none⟩ = some (.slice q2.num.a q2.num.n q2.num.c)
  b2 : wr.cell? ⟨G, 6, none⟩ = some (.bool q2.den.g)
  b3 : wr.cell? ⟨G, 7, none⟩ = some (.slice q2.den.a q2.den.n q2.den.c)
  f1 : ∀ o, wr.frozen? ⟨G, o, none⟩ = false
  r0 : wr.cell? ⟨w.heap.size, 0, none⟩ = some (.bool false)
  r1 : wr.cell? ⟨w.heap.size, 1, none⟩ = some (.slice none 0 0)
  r2 : wr.cell? ⟨w.heap.size, 2, none⟩ = some (.bool false)
  r3 : wr.cell? ⟨w.heap.size, 3, none⟩ = some (.slice none 0 0)
  r4 : wr.cell? ⟨w.heap.size, 4, none⟩ = some (.bool false)
  r5 : wr.cell? ⟨w.heap.size, 5, none⟩ = some (.slice none 0 0)
  r6 : wr.cell? ⟨w.heap.size, 6, none⟩ = some (.bool false)
  r7 : wr.cell? ⟨w.heap.size, 7, none⟩ = some (.slice none 0 0)
  fr : ∀ o, wr.frozen? ⟨w.heap.size, o, none⟩ = false
  bel : Below w.heap.size w wr
theorem Ls3.later {w wr wy : World} {G : Nat} {q1 q2 : QV} (h : Ls3 w wr G q1 q2) (hb : Below wr.heap.size wr wy) : Ls3 w wy G q1 q2 :=
  ⟨cell_later hb h.a0, cell_later hb h.a1, cell_later hb h.a2, cell_later hb h.a3, cell_later hb h.b0, cell_later hb h.b1, cell_later hb h.b2, cell_later hb h.b3, fun o => frozen_later hb (World.block_lt_of_cell? _ _ h.a0) (h.f1 o), cell_later hb h.r0, cell_later hb h.r1, cell_later hb h.r2, cell_later hb h.r3, cell_later hb h.r4, cell_later hb h.r5, cell_later hb h.r6, cell_later hb h.r7, fun o => frozen_later hb (World.block_lt_of_cell? _ _ h.r0) (h.fr o), below_on h.bel hb⟩
end Go.Proofs.YtcbmecnipldcfaaGreat
namespace Go.Proofs.YtcbmecnipldcfaaGreat
open Go.RowKit
set_option linter.unusedVariables false
set_option maxRecDepth 100000
set_option linter.unusedSimpArgs false

/-- The cells of some values in a row. -/
def PAtQ (w : World) (a : Option Addr) (l : List (QV × QD)) : Prop := l = [] ∨ ∃ b off, a = some ⟨b, off, none⟩ ∧ b < w.heap.size ∧ ∀ i (h : i < l.length), w.cell? ⟨b, off + i * 4, none⟩ = some (.bool l[i].1.num.g) ∧ w.cell? ⟨b, off + i * 4 + 1, none⟩ = some (.slice l[i].1.num.a l[i].1.num.n l[i].1.num.c) ∧ w.cell? ⟨b, off + i * 4 + 2, none⟩ = some (.bool l[i].1.den.g) ∧ w.cell? ⟨b, off + i * 4 + 3, none⟩ = some (.slice l[i].1.den.a l[i].1.den.n l[i].1.den.c)
theorem PAtQ.later {w w' : World} {a : Option Addr} {l : List (QV × QD)} (h : PAtQ w a l) (hb : Below w.heap.size w w') : PAtQ w' a l := by
  rcases h with h | ⟨b, off, rfl, h1, h2⟩
  · exact .inl h
  · exact .inr ⟨b, off, rfl, Nat.lt_of_lt_of_le h1 hb.size, fun i hi => ⟨cell_later hb ((h2 i hi).1), cell_later hb ((h2 i hi).2.1), cell_later hb ((h2 i hi).2.2.1), cell_later hb ((h2 i hi).2.2.2)⟩⟩
structure PSlQ (w : World) (a : Option Addr) (l : List (QV × QD)) : Prop where
  at_ : PAtQ w a l
  rd : ∀ p ∈ l, AllSl w [(p.1.num, p.2.num), (p.1.den, p.2.den)]
theorem PSlQ.later {w w' : World} {a : Option Addr} {l : List (QV × QD)} (h : PSlQ w a l) (hb : Below w.heap.size w w') : PSlQ w' a l := ⟨h.at_.later hb, fun p hp => (h.rd p hp).later hb⟩
/-- .. as an argument. -/
structure PArQ (w : World) (a : Option Addr) (n c : Nat) (l : List (QV × QD)) : Prop where
  at_ : PAtQ w a l
  rd : ∀ p ∈ l, AllAr w [(p.1.num, p.2.num), (p.1.den, p.2.den)]
  len : l.length = n
  cap : n ≤ c
  top : c ≤ maxLen
theorem PArQ.later {w w' : World} {a : Option Addr} {n c : Nat} {l : List (QV × QD)} (h : PArQ w a n c l) (hb : Below w.heap.size w w') : PArQ w' a n c l := ⟨h.at_.later hb, fun p hp => (h.rd p hp).later hb, h.len, h.cap, h.top⟩
theorem PArQ.sl {w : World} {a : Option Addr} {n c : Nat} {l : List (QV × QD)} (h : PArQ w a n c l) : PSlQ w a l := ⟨h.at_, fun p hp => (h.rd p hp).sl⟩
def lenQ (p : QV × QD) : Nat := p.1.num.n + p.1.den.n
def lenPQ : List (QV × QD) → Nat
  | [] => 0
  | p :: l => lenQ p + lenPQ l
theorem lenPQ_append (l l' : List (QV × QD)) : lenPQ (l ++ l') = lenPQ l + lenPQ l' := by
  induction l with
  | nil => simp [lenPQ]
  | cons p l ih => simp only [List.cons_append, lenPQ, ih]; omega
theorem lenPQ_mem {l : List (QV × QD)} {p : QV × QD} (h : p ∈ l) : lenQ p ≤ lenPQ l := by
  induction l with
  | nil => cases h
  | cons q l ih =>
    unfold lenPQ
    rcases List.mem_cons.1 h with rfl | h
    · omega
    · have := ih h; omega
/-- The numbers in some values. -/
def zipPQ (l : List (QV × QD)) : List (BV × BD) := l.flatMap (fun p => [(p.1.num, p.2.num), (p.1.den, p.2.den)])
theorem zipPQ_append (l l' : List (QV × QD)) : zipPQ (l ++ l') = zipPQ l ++ zipPQ l' := by simp [zipPQ]
theorem zipPQ_one (p : QV × QD) : zipPQ [p] = [(p.1.num, p.2.num), (p.1.den, p.2.den)] := by simp [zipPQ]
theorem zipPQ_mem {l : List (QV × QD)} {p : QV × QD} (h : p ∈ l) {x : BV × BD} (hx : x ∈ [(p.1.num, p.2.num), (p.1.den, p.2.den)]) : x ∈ zipPQ l := List.mem_flatMap.2 ⟨p, h, hx⟩
theorem take_succQ {l : List (QV × QD)} {i : Nat} (h : i < l.length) : l.take (i + 1) = l.take i ++ [l[i]] := (List.take_append_getElem h).symm

set_option maxHeartbeats 2000000 in
theorem szPQ (a : Option Addr) (n c : Nat) (l : List (QV × QD)) (left : Int) (w : World) (h : PSlQ w a l) (hn : l.length = n) (hm : n ≤ maxLen) (ml : ∀ p ∈ l, p.1.num.n ≤ maxLen ∧ p.1.den.n ≤ maxLen) (h0 : 0 ≤ left) (h1 : left ≤ 1048576) :
    Calls Tryz.prog 13 #[.slice a n c, .int .i64 left] w fun e w' => ∃ r : Int, e = .returned (.int .i64 r) ∧ Below w.heap.size w w' ∧ (r = -1 ∨ (0 ≤ r ∧ r = left - (n : Int) - (lenPQ l : Int))) := by
  have HS := hide h
  have HN := hide hn
  have ML := hide ml
  clear h hn ml
  unfold maxLen at hm
  by_cases c0 : left - (n : Int) < 0
  · go_enter Tryz.func13, Tryz.ntmps13
    go_wp2
    go_ret
    exact ⟨_, rfl, Below.refl _ _, .inl rfl⟩
  · go_enter Tryz.func13, Tryz.ntmps13
    go_wp2
    go_loopw [1, 5] (fun lv iv wr => ∃ (i : Nat) (r : Int), i ≤ n ∧ iv = .int .i64 i ∧ lv = .int .i64 r ∧ 0 ≤ r ∧ r ≤ 1048576 ∧ Hid (r = left - (n : Int) - (lenPQ (l.take i) : Int)) ∧ Hid (Below w.heap.size w wr)) (fun _ iv _ => n - (intOf iv).toNat)
    case atStart => exact ⟨0, _, Nat.zero_le _, rfl, rfl, by omega, by omega, hide (by simp [lenPQ]), hide (Below.refl _ _)⟩
    case round =>
      obtain ⟨i, r, hi, rfl, rfl, r0, r1, ER, HB⟩ := hrel
      by_cases hlt : i < n
      · have hlt' : (i : Int) < (n : Int) := by omega
        rcases (unhide HS).at_ with e | ⟨b, off, rfl, hb, hc⟩
        · exact absurd (unhide HN) (by rw [e]; simp; omega)
        have e0 := hc i (by rw [unhide HN]; exact hlt)
        obtain ⟨y, hy⟩ : ∃ y, y = l[i]'(by rw [unhide HN]; exact hlt) := ⟨_, rfl⟩
        rw [← hy] at e0
        have MY : Hid (y ∈ l) := hide (by rw [hy]; exact List.getElem_mem _)
        have EY := hide hy
        clear hy
        have E0 : wr.cell? ⟨b, off + i * 4, none⟩ = some (.bool y.1.num.g) := ((unhide HB).cell (p := ⟨b, off + i * 4, none⟩) hb).trans (e0.1)
        have E1 : wr.cell? ⟨b, off + i * 4 + 1, none⟩ = some (.slice y.1.num.a y.1.num.n y.1.num.c) := ((unhide HB).cell (p := ⟨b, off + i * 4 + 1, none⟩) hb).trans (e0.2.1)
        have E2 : wr.cell? ⟨b, off + i * 4 + 2, none⟩ = some (.bool y.1.den.g) := ((unhide HB).cell (p := ⟨b, off + i * 4 + 2, none⟩) hb).trans (e0.2.2.1)
        have E3 : wr.cell? ⟨b, off + i * 4 + 3, none⟩ = some (.slice y.1.den.a y.1.den.n y.1.den.c) := ((unhide HB).cell (p := ⟨b, off + i * 4 + 3, none⟩) hb).trans (e0.2.2.2)
        clear e0
        have TK : Hid (l.take (i + 1) = l.take i ++ [y]) := hide (by have h := take_succQ (l := l) (i := i) (by rw [unhide HN]; exact hlt); rw [← unhide EY] at h; exact h)
        have j0 := (unhide ML) y (unhide MY)
        have lo : lenQ y = y.1.num.n + y.1.den.n := rfl
        have TL : Hid ((lenPQ (l.take (i + 1)) : Int) = (lenPQ (l.take i) : Int) + ((y.1.num.n : Int) + (y.1.den.n : Int))) := hide (by rw [unhide TK, lenPQ_append]; show ((_ + (lenQ y + 0) : Nat) : Int) = _; omega)
        clear hc lo
        by_cases c1 : (y.1.num.n : Int) + (y.1.den.n : Int) ≤ r
        · have c2 : ¬ (r - (y.1.num.n : Int) - (y.1.den.n : Int) < 0) := by omega
          go_wp2_with fail
          refine (szQ_in y.1 r _ r0 r1 c1).mono ?_
          rintro e w1 ⟨rfl, hb1⟩
          have HB1 := hide (below_on (unhide HB) hb1)
          clear hb1 E0 E1 E2 E3
          go_wp2
          go_roundw
          case rel => exact ⟨i + 1, _, by omega, by go_num, rfl, by omega, by omega, hide (by rw [unhide TL]; have := unhide ER; omega), HB1⟩
          case measure => simp [intOf]; omega
        · go_wp2_with fail
          refine (szQ_out y.1 r _ r0 r1 j0.1 j0.2 (by omega)).mono ?_
          rintro e w1 ⟨rfl, hb1⟩
          have HB1 := hide (below_on (unhide HB) hb1)
          clear hb1 E0 E1 E2 E3
          go_wp2
          go_ret
          exact ⟨_, rfl, unhide HB1, .inl rfl⟩
      · obtain rfl : i = n := by omega
        have EL := hide (show r = left - (i : Int) - (lenPQ l : Int) from by have := unhide ER; rw [← unhide HN, List.take_length, unhide HN] at this; exact this)
        go_wp2
        go_ret
        exact ⟨_, rfl, unhide HB, .inr ⟨r0, unhide EL⟩⟩

theorem get_sndQ {l l' : List (QV × QD)} (h : l.map Prod.snd = l'.map Prod.snd) {i : Nat} (hi : i < l.length) (hi' : i < l'.length) : l[i].2 = l'[i].2 := by
  have := congrArg (fun x => x[i]?) h
  simpa [hi, hi'] using this
set_option maxHeartbeats 4000000 in
theorem eqPQ (a a' : Option Addr) (n c c' : Nat) (l l' : List (QV × QD)) (w : World) (h : PSlQ w a l) (h' : PSlQ w a' l') (hn : l.length = n) (he : l.map Prod.snd = l'.map Prod.snd) (hm : n ≤ maxLen) (ml : ∀ p ∈ l, p.1.num.n ≤ maxLen ∧ p.1.den.n ≤ maxLen) :
    Calls Tryz.prog 19 #[.slice a n c, .slice a' n c'] w fun e w' => e = .returned (.bool true) ∧ Below w.heap.size w w' := by
  have hn' : l'.length = n := by have := congrArg List.length he; simp at this; omega
  have HS := hide h
  have HS' := hide h'
  have HN := hide hn
  have HN' := hide hn'
  have HE := hide he
  have ML := hide ml
  clear h hn ml he hn' h'
  unfold maxLen at hm
  go_enter Tryz.func19, Tryz.ntmps19
  go_wp2
  go_loopw [5] (fun iv wr => ∃ (i : Nat), i ≤ n ∧ iv = .int .i64 i ∧ Hid (Below w.heap.size w wr)) (fun iv _ => n - (intOf iv).toNat)
  case atStart => exact ⟨0, Nat.zero_le _, rfl, hide (Below.refl _ _)⟩
  case round =>
    obtain ⟨i, hi, rfl, HB⟩ := hrel
    by_cases hlt : i < n
    · have hlt' : (i : Int) < (n : Int) := by omega
      rcases (unhide HS).at_ with e | ⟨b, off, rfl, hb, hc⟩
      · exact absurd (unhide HN) (by rw [e]; simp; omega)
      have e0 := hc i (by rw [unhide HN]; exact hlt)
      obtain ⟨y, hy⟩ : ∃ y, y = l[i]'(by rw [unhide HN]; exact hlt) := ⟨_, rfl⟩
      rw [← hy] at e0
      have MY : Hid (y ∈ l) := hide (by rw [hy]; exact List.getElem_mem _)
      have EY := hide hy
      clear hy
      have E0 : wr.cell? ⟨b, off + i * 4, none⟩ = some (.bool y.1.num.g) := ((unhide HB).cell (p := ⟨b, off + i * 4, none⟩) hb).trans (e0.1)
      have E1 : wr.cell? ⟨b, off + i * 4 + 1, none⟩ = some (.slice y.1.num.a y.1.num.n y.1.num.c) := ((unhide HB).cell (p := ⟨b, off + i * 4 + 1, none⟩) hb).trans (e0.2.1)
      have E2 : wr.cell? ⟨b, off + i * 4 + 2, none⟩ = some (.bool y.1.den.g) := ((unhide HB).cell (p := ⟨b, off + i * 4 + 2, none⟩) hb).trans (e0.2.2.1)
      have E3 : wr.cell? ⟨b, off + i * 4 + 3, none⟩ = some (.slice y.1.den.a y.1.den.n y.1.den.c) := ((unhide HB).cell (p := ⟨b, off + i * 4 + 3, none⟩) hb).trans (e0.2.2.2)
      clear e0
      clear hc
      rcases (unhide HS').at_ with e | ⟨b', off', rfl, hb', hc'⟩
      · exact absurd (unhide HN') (by rw [e]; simp; omega)
      have e0 := hc' i (by rw [unhide HN']; exact hlt)
      obtain ⟨y', hy'⟩ : ∃ y, y = l'[i]'(by rw [unhide HN']; exact hlt) := ⟨_, rfl⟩
      rw [← hy'] at e0
      have MY' : Hid (y' ∈ l') := hide (by rw [hy']; exact List.getElem_mem _)
      have ED : Hid (y.2 = y'.2) := hide (by rw [unhide EY, hy']; exact get_sndQ (unhide HE) _ _)
      clear hy'
      have F0 : wr.cell? ⟨b', off' + i * 4, none⟩ = some (.bool y'.1.num.g) := ((unhide HB).cell (p := ⟨b', off' + i * 4, none⟩) hb').trans (e0.1)
      have F1 : wr.cell? ⟨b', off' + i * 4 + 1, none⟩ = some (.slice y'.1.num.a y'.1.num.n y'.1.num.c) := ((unhide HB).cell (p := ⟨b', off' + i * 4 + 1, none⟩) hb').trans (e0.2.1)
      have F2 : wr.cell? ⟨b', off' + i * 4 + 2, none⟩ = some (.bool y'.1.den.g) := ((unhide HB).cell (p := ⟨b', off' + i * 4 + 2, none⟩) hb').trans (e0.2.2.1)
      have F3 : wr.cell? ⟨b', off' + i * 4 + 3, none⟩ = some (.slice y'.1.den.a y'.1.den.n y'.1.den.c) := ((unhide HB).cell (p := ⟨b', off' + i * 4 + 3, none⟩) hb').trans (e0.2.2.2)
      clear e0 hc'
      have j0 := (unhide ML) y (unhide MY)
      have R1 := hide (((unhide HS).rd y (unhide MY)).later (unhide HB))
      have R2 := hide (((unhide HS').rd y' (unhide MY')).later (unhide HB))
      go_upto_region 6 with fail
      go_region_held3 (fun w' => w'.cell? ⟨b, off + i * 4, none⟩ = some (.bool y.1.num.g) ∧ w'.cell? ⟨b, off + i * 4 + 1, none⟩ = some (.slice y.1.num.a y.1.num.n y.1.num.c) ∧ w'.cell? ⟨b, off + i * 4 + 2, none⟩ = some (.bool y.1.den.g) ∧ w'.cell? ⟨b, off + i * 4 + 3, none⟩ = some (.slice y.1.den.a y.1.den.n y.1.den.c) ∧ w'.cell? ⟨b', off' + i * 4, none⟩ = some (.bool y'.1.num.g) ∧ w'.cell? ⟨b', off' + i * 4 + 1, none⟩ = some (.slice y'.1.num.a y'.1.num.n y'.1.num.c) ∧ w'.cell? ⟨b', off' + i * 4 + 2, none⟩ = some (.bool y'.1.den.g) ∧ w'.cell? ⟨b', off' + i * 4 + 3, none⟩ = some (.slice y'.1.den.a y'.1.den.n y'.1.den.c))
        (with_reducible (first | exact ⟨E0, E1, E2, E3, F0, F1, F2, F3⟩ | exact ⟨cd_other E0, cd_other E1, cd_other E2, cd_other E3, cd_other F0, cd_other F1, cd_other F2, cd_other F3⟩ | fail))
        (first
        | (go_at_call 20; refine (eqQ_at y.1 y'.1 y.2 _ ?_ ?_ j0.1 j0.2).mono ?_; exact (unhide R1).drew; (rw [unhide ED]; exact (unhide R2).drew); rintro e w1 ⟨rfl, hb1⟩; have HB1 := hide (below_on (unhide HB) (below_of_drew hb1)); have hbx := below_of_drew hb1; replace E0 := cell_later hbx E0; replace E1 := cell_later hbx E1; replace E2 := cell_later hbx E2; replace E3 := cell_later hbx E3; replace F0 := cell_later hbx F0; replace F1 := cell_later hbx F1; replace F2 := cell_later hbx F2; replace F3 := cell_later hbx F3; clear hb1 hbx))
      clear E0 F0 E1 F1 E2 F2 E3 F3
      go_wp2
      go_roundw
      case rel => exact ⟨i + 1, by omega, by go_num, HB1⟩
      case measure => simp [intOf]; omega
    · obtain rfl : i = n := by omega
      go_wp2
      go_ret
      exact ⟨rfl, unhide HB⟩

theorem but_rowQ {w : World} {G k : Nat} {u : QV} : But G (G + 1) w ((((w.setCell ⟨G, k * 4, none⟩ (.bool u.num.g)).setCell ⟨G, k * 4 + 1, none⟩ (.slice u.num.a u.num.n u.num.c)).setCell ⟨G, k * 4 + 2, none⟩ (.bool u.den.g)).setCell ⟨G, k * 4 + 3, none⟩ (.slice u.den.a u.den.n u.den.c)) := (((((But.refl _ _ _).set (p := ⟨G, k * 4, none⟩) (Nat.le_refl G) (Nat.lt_succ_self G) (.bool u.num.g)).set (p := ⟨G, k * 4 + 1, none⟩) (Nat.le_refl G) (Nat.lt_succ_self G) (.slice u.num.a u.num.n u.num.c)).set (p := ⟨G, k * 4 + 2, none⟩) (Nat.le_refl G) (Nat.lt_succ_self G) (.bool u.den.g)).set (p := ⟨G, k * 4 + 3, none⟩) (Nat.le_refl G) (Nat.lt_succ_self G) (.slice u.den.a u.den.n u.den.c))

/-- Some values in a row that is the law's own, at block G; their numbers in blocks from lo to below hi. -/
structure POwQ (lo hi : Nat) (w : World) (G n c : Nat) (l : List (QV × QD)) : Prop where
  row : ∃ M, w.ownsRow G 32 4 (.slice (some ⟨G, 0, none⟩) n c) n M ∧ ∀ i (h : i < l.length), M[i * 4]? = some (.bool l[i].1.num.g) ∧ M[i * 4 + 1]? = some (.slice l[i].1.num.a l[i].1.num.n l[i].1.num.c) ∧ M[i * 4 + 2]? = some (.bool l[i].1.den.g) ∧ M[i * 4 + 3]? = some (.slice l[i].1.den.a l[i].1.den.n l[i].1.den.c)
  own : AllOwn lo hi w (zipPQ l)
  ar : ∀ p ∈ l, AllAr w [(p.1.num, p.2.num), (p.1.den, p.2.den)]
  len : l.length = n
theorem ownsRow_later {w w' : World} {G g n c size : Nat} {e : TypeId} {M : List Value} (h : w.ownsRow G e size (.slice (some ⟨g, 0, none⟩) n c) n M) (hb : Below w.heap.size w w') : w'.ownsRow G e size (.slice (some ⟨g, 0, none⟩) n c) n M := by
  refine ⟨h.1, ?_⟩
  rcases h.2 with ⟨h', _⟩ | ⟨g', cap, cur, hv, h1, hg, r⟩
  · simp at h'
  · refine .inr ⟨g', cap, cur, hv, h1, ?_, r⟩
    rw [hb.block g' (Array.getElem?_eq_some_iff.1 hg).1]
    exact hg
theorem POwQ.later {lo hi : Nat} {w w' : World} {G n c : Nat} {l : List (QV × QD)} (h : POwQ lo hi w G n c l) (hb : Below w.heap.size w w') : POwQ lo hi w' G n c l := by
  obtain ⟨M, hr, hM⟩ := h.row
  exact ⟨⟨M, ownsRow_later hr hb, hM⟩, h.own.later hb, fun p hp => (h.ar p hp).later hb, h.len⟩
theorem POwQ.arg {lo hi : Nat} {w : World} {G n c : Nat} {l : List (QV × QD)} (h : POwQ lo hi w G n c l) : PArQ w (some ⟨G, 0, none⟩) n c l := by
  obtain ⟨M, hr, hM⟩ := h.row
  have hl := h.len
  have h2 := hr.2
  rcases h2 with ⟨h', _⟩ | ⟨g', cap, cur, hv, h1, hg, r1, r2, r3⟩
  · simp at h'
  simp only [Value.slice.injEq, Option.some.injEq, Addr.mk.injEq, and_true, true_and] at hv
  obtain ⟨rfl, rfl⟩ := hv
  refine ⟨.inr ⟨G, 0, rfl, (Array.getElem?_eq_some_iff.1 hg).1, fun i hi => ?_⟩, h.ar, hl, r1, r2⟩
  have hc := hM i hi
  refine ⟨?_, ?_, ?_, ?_⟩ <;> rw [Nat.zero_add, hr.cellAt _ (by omega)]
  · exact hc.1
  · exact hc.2.1
  · exact hc.2.2.1
  · exact hc.2.2.2
theorem Tryz.info32 : (Tryz.prog.info? 32).map (fun i => (i.zero, i.size, i.bytes)) = some (some (.agg #[.bool false, .slice none 0 0, .bool false, .slice none 0 0]), 4, 64) := by kernel_rfl
theorem set_rowQ {M : List Value} {us : List (QV × QD)} {n k : Nat} {u : QV} {d : QD} (hM : M.length = n * 4) (hk : k < n) (hu : us.length = k) (h : ∀ i (h : i < us.length), M[i * 4]? = some (.bool us[i].1.num.g) ∧ M[i * 4 + 1]? = some (.slice us[i].1.num.a us[i].1.num.n us[i].1.num.c) ∧ M[i * 4 + 2]? = some (.bool us[i].1.den.g) ∧ M[i * 4 + 3]? = some (.slice us[i].1.den.a us[i].1.den.n us[i].1.den.c)) :
    ∀ i (h : i < (us ++ [(u, d)]).length), ((((M.set (k * 4) (.bool u.num.g)).set (k * 4 + 1) (.slice u.num.a u.num.n u.num.c)).set (k * 4 + 2) (.bool u.den.g)).set (k * 4 + 3) (.slice u.den.a u.den.n u.den.c))[i * 4]? = some (.bool (us ++ [(u, d)])[i].1.num.g) ∧ ((((M.set (k * 4) (.bool u.num.g)).set (k * 4 + 1) (.slice u.num.a u.num.n u.num.c)).set (k * 4 + 2) (.bool u.den.g)).set (k * 4 + 3) (.slice u.den.a u.den.n u.den.c))[i * 4 + 1]? = some (.slice (us ++ [(u, d)])[i].1.num.a (us ++ [(u, d)])[i].1.num.n (us ++ [(u, d)])[i].1.num.c) ∧ ((((M.set (k * 4) (.bool u.num.g)).set (k * 4 + 1) (.slice u.num.a u.num.n u.num.c)).set (k * 4 + 2) (.bool u.den.g)).set (k * 4 + 3) (.slice u.den.a u.den.n u.den.c))[i * 4 + 2]? = some (.bool (us ++ [(u, d)])[i].1.den.g) ∧ ((((M.set (k * 4) (.bool u.num.g)).set (k * 4 + 1) (.slice u.num.a u.num.n u.num.c)).set (k * 4 + 2) (.bool u.den.g)).set (k * 4 + 3) (.slice u.den.a u.den.n u.den.c))[i * 4 + 3]? = some (.slice (us ++ [(u, d)])[i].1.den.a (us ++ [(u, d)])[i].1.den.n (us ++ [(u, d)])[i].1.den.c) := by
  intro i hi
  by_cases e : i < k
  · have hi' : i < us.length := by omega
    have h1 := h i hi'
    rw [List.getElem_append_left hi']
    simp only [List.getElem?_set]
    refine ⟨?_, ?_, ?_, ?_⟩
    · rw [if_neg (by omega), if_neg (by omega), if_neg (by omega), if_neg (by omega)]; exact h1.1
    · rw [if_neg (by omega), if_neg (by omega), if_neg (by omega), if_neg (by omega)]; exact h1.2.1
    · rw [if_neg (by omega), if_neg (by omega), if_neg (by omega), if_neg (by omega)]; exact h1.2.2.1
    · rw [if_neg (by omega), if_neg (by omega), if_neg (by omega), if_neg (by omega)]; exact h1.2.2.2
  · obtain rfl : i = k := by simp at hi; omega
    subst hu
    rw [List.getElem_append_right (Nat.le_refl _)]
    simp only [Nat.sub_self, List.getElem_cons_zero]
    refine ⟨?_, ?_, ?_, ?_⟩
    · simp only [List.getElem?_set, List.length_set]; rw [if_neg (by omega), if_neg (by omega), if_neg (by omega)]; rw [if_pos trivial, if_pos (by omega)]
    · simp only [List.getElem?_set, List.length_set]; rw [if_neg (by omega), if_neg (by omega)]; rw [if_pos trivial, if_pos (by omega)]
    · simp only [List.getElem?_set, List.length_set]; rw [if_neg (by omega)]; rw [if_pos trivial, if_pos (by omega)]
    · simp only [List.getElem?_set, List.length_set]; rw [if_pos trivial, if_pos (by omega)]

set_option maxHeartbeats 4000000 in
theorem toPQ (a : Option Addr) (n c : Nat) (l : List (QV × QD)) (w : World) (h : PSlQ w a l) (hn : l.length = n) (h1 : n ≤ 1048576) (ml : ∀ p ∈ l, p.1.num.n ≤ 1048576 ∧ p.1.den.n ≤ 1048576) :
    Calls Tryz.prog 16 #[.slice a n c] w fun e w' => ∃ l' : List (QV × QD), e = .returned (.slice (some ⟨w.heap.size, 0, none⟩) n n) ∧ Below w.heap.size w w' ∧ w.heap.size < w'.heap.size ∧ l'.map Prod.snd = l.map Prod.snd ∧ POwQ (w.heap.size + 1) w'.heap.size w' w.heap.size n n l' := by
  obtain ⟨i0, hi, hz0, hz1, hz2⟩ := info_parts Tryz.info32
  have HS := hide h
  have HN := hide hn
  have ML := hide ml
  clear h hn ml
  go_enter Tryz.func16, Tryz.ntmps16
  go_wp2_with (at_make; refine wpList_make_full _ rfl _ _ 44 rfl w.heap.size 32 i0 (.agg #[.bool false, .slice none 0 0, .bool false, .slice none 0 0]) 4 Tryz.underlying44 hi hz0 hz1 .i64 .i64 _ _ n rfl rfl rfl rfl ?c1 ?c2 ?c3 ?_)
  case c1 => rw [hz2]; omega
  case c2 => unfold maxLen; omega
  case c3 => exact Nat.le_refl _
  intro w1 hown hgrow
  have hb0 : Below w.heap.size w w1 := (Below.refl _ _).grown hgrow (Nat.le_refl _) (fun k e => by cases e)
  have P0 : Hid (∃ M, w1.ownsRow w.heap.size 32 4 (.slice (some ⟨w.heap.size, 0, none⟩) n n) n M) := hide ⟨_, hown⟩
  have z0 : w.heap.size < w1.heap.size := by
    rcases hown.2 with ⟨h', _⟩ | ⟨g', cap, cur, hv, _, hg, _⟩
    · simp at h'
    · simp only [Value.slice.injEq, Option.some.injEq, Addr.mk.injEq, and_true, true_and] at hv
      have := (Array.getElem?_eq_some_iff.1 hg).1
      omega
  clear hown hgrow hi hz0 hz1 hz2
  have HB0 := hide hb0
  clear hb0
  go_wp2
  go_loopw [4] (fun iv wr => ∃ (k : Nat) (us : List (QV × QD)), k ≤ n ∧ iv = .int .i64 k ∧ us.length = k ∧ w.heap.size < wr.heap.size ∧ Hid (us.map Prod.snd = (l.take k).map Prod.snd) ∧ Hid (∃ M, wr.ownsRow w.heap.size 32 4 (.slice (some ⟨w.heap.size, 0, none⟩) n n) n M ∧ ∀ i (h : i < us.length), M[i * 4]? = some (.bool us[i].1.num.g) ∧ M[i * 4 + 1]? = some (.slice us[i].1.num.a us[i].1.num.n us[i].1.num.c) ∧ M[i * 4 + 2]? = some (.bool us[i].1.den.g) ∧ M[i * 4 + 3]? = some (.slice us[i].1.den.a us[i].1.den.n us[i].1.den.c)) ∧ Hid (AllOwn (w.heap.size + 1) wr.heap.size wr (zipPQ us)) ∧ Hid (∀ p ∈ us, AllAr wr [(p.1.num, p.2.num), (p.1.den, p.2.den)]) ∧ Hid (Below w.heap.size w wr)) (fun iv _ => n - (intOf iv).toNat)
  case atStart =>
    obtain ⟨M, hM⟩ := unhide P0
    exact ⟨0, [], Nat.zero_le _, rfl, rfl, z0, hide (by simp), hide ⟨M, hM, fun i hi => absurd hi (by simp)⟩, hide (AllOwn.nil _ _ _), hide (fun p hp => by cases hp), HB0⟩
  case round =>
    clear P0 HB0 z0
    obtain ⟨k, us, hk, rfl, hu, z1, ED, EM, OO, AA, HB⟩ := hrel
    by_cases hlt : k < n
    · have hlt' : (k : Int) < (n : Int) := by omega
      rcases (unhide HS).at_ with e | ⟨b, off, rfl, hb, hc⟩
      · exact absurd (unhide HN) (by rw [e]; simp; omega)
      have e0 := hc k (by rw [unhide HN]; exact hlt)
      obtain ⟨y, hy⟩ : ∃ y, y = l[k]'(by rw [unhide HN]; exact hlt) := ⟨_, rfl⟩
      rw [← hy] at e0
      have MY : Hid (y ∈ l) := hide (by rw [hy]; exact List.getElem_mem _)
      have EY := hide hy
      clear hy
      have E0 : wr.cell? ⟨b, off + k * 4, none⟩ = some (.bool y.1.num.g) := ((unhide HB).cell (p := ⟨b, off + k * 4, none⟩) hb).trans (e0.1)
      have E1 : wr.cell? ⟨b, off + k * 4 + 1, none⟩ = some (.slice y.1.num.a y.1.num.n y.1.num.c) := ((unhide HB).cell (p := ⟨b, off + k * 4 + 1, none⟩) hb).trans (e0.2.1)
      have E2 : wr.cell? ⟨b, off + k * 4 + 2, none⟩ = some (.bool y.1.den.g) := ((unhide HB).cell (p := ⟨b, off + k * 4 + 2, none⟩) hb).trans (e0.2.2.1)
      have E3 : wr.cell? ⟨b, off + k * 4 + 3, none⟩ = some (.slice y.1.den.a y.1.den.n y.1.den.c) := ((unhide HB).cell (p := ⟨b, off + k * 4 + 3, none⟩) hb).trans (e0.2.2.2)
      clear e0
      have TK : Hid ((l.take (k + 1)).map Prod.snd = us.map Prod.snd ++ [y.2]) := hide (by have h := take_succQ (l := l) (i := k) (by rw [unhide HN]; exact hlt); rw [← unhide EY] at h; rw [h, List.map_append, ← unhide ED]; rfl)
      have j0 := (unhide ML) y (unhide MY)
      have R1 := hide (((unhide HS).rd y (unhide MY)).later (unhide HB))
      clear hc
      go_wp2_with fail
      refine (toQ_at y.1 y.2 _ (unhide R1) j0.1 j0.2).mono ?_
      rintro e w2 ⟨u, rfl, hb2, hlens, ho, ha⟩
      clear hlens
      have z2 := hb2.size
      have HB1 := hide (below_on (unhide HB) hb2)
      obtain ⟨M, hM, hL⟩ := unhide EM
      replace hM := ownsRow_later hM hb2
      have OO2 := hide ((unhide OO).later hb2)
      have AA2 := hide (fun p hp => ((unhide AA) p hp).later hb2)
      have AU := hide ho
      have AV := hide ha
      have old0 : ∃ x, w2.cell? ⟨w.heap.size, k * 4, none⟩ = some x := by
        have hl := hM.1
        rw [hM.cellAt _ (by omega)]
        exact ⟨_, List.getElem?_eq_getElem (by omega)⟩
      obtain ⟨x0, o0⟩ := old0
      have old1 : ∃ x, w2.cell? ⟨w.heap.size, k * 4 + 1, none⟩ = some x := by
        have hl := hM.1
        rw [hM.cellAt _ (by omega)]
        exact ⟨_, List.getElem?_eq_getElem (by omega)⟩
      obtain ⟨x1, o1⟩ := old1
      have old2 : ∃ x, w2.cell? ⟨w.heap.size, k * 4 + 2, none⟩ = some x := by
        have hl := hM.1
        rw [hM.cellAt _ (by omega)]
        exact ⟨_, List.getElem?_eq_getElem (by omega)⟩
      obtain ⟨x2, o2⟩ := old2
      have old3 : ∃ x, w2.cell? ⟨w.heap.size, k * 4 + 3, none⟩ = some x := by
        have hl := hM.1
        rw [hM.cellAt _ (by omega)]
        exact ⟨_, List.getElem?_eq_getElem (by omega)⟩
      obtain ⟨x3, o3⟩ := old3
      have fr : ∀ o, w2.frozen? ⟨w.heap.size, o, none⟩ = false := fun o => hM.frozenAt o
      have HM := hide hM
      have HL := hide hL
      clear hM hL hb2 ho ha EM OO AA E0 E1 E2 E3
      go_wp2
      go_roundw
      case rel =>
        have hM := unhide HM
        have bt : But w.heap.size (w.heap.size + 1) w2 ((((w2.setCell ⟨w.heap.size, k * 4, none⟩ (.bool u.num.g)).setCell ⟨w.heap.size, k * 4 + 1, none⟩ (.slice u.num.a u.num.n u.num.c)).setCell ⟨w.heap.size, k * 4 + 2, none⟩ (.bool u.den.g)).setCell ⟨w.heap.size, k * 4 + 3, none⟩ (.slice u.den.a u.den.n u.den.c)) := but_rowQ
        refine ⟨k + 1, us ++ [(u, y.2)], by omega, by go_num, by simp [hu], Nat.lt_of_lt_of_le (by omega) bt.size, hide (by rw [unhide TK, List.map_append]; rfl), hide ⟨_, (World.ownsRow.stored (World.ownsRow.stored (World.ownsRow.stored (World.ownsRow.stored hM (k * 4) (.bool u.num.g)).1 (k * 4 + 1) (.slice u.num.a u.num.n u.num.c)).1 (k * 4 + 2) (.bool u.den.g)).1 (k * 4 + 3) (.slice u.den.a u.den.n u.den.c)).1, set_rowQ hM.1 hlt hu (unhide HL)⟩, hide ?_, hide ?_, hide ?_⟩
        · rw [zipPQ_append, zipPQ_one]
          exact (((unhide OO2).join (unhide AU) (by omega) (by omega)).but bt (.inr (Nat.le_refl _))).wide (Nat.le_refl _) bt.size
        · intro p hp x hx
          have own := (((unhide OO2).join (unhide AU) (by omega) (by omega)))
          have hAr : AllAr w2 (zipPQ us ++ [(u.num, y.2.num), (u.den, y.2.den)]) := fun x hx => by
            rcases List.mem_append.1 hx with hx | hx
            · obtain ⟨p, hp, hx⟩ := List.mem_flatMap.1 hx
              exact (unhide AA2) p hp x hx
            · exact (unhide AV) x hx
          refine ar_fin bt own hAr (Nat.le_refl _) x ?_
          rcases List.mem_append.1 hp with hp | hp
          · exact List.mem_append_left _ (zipPQ_mem hp hx)
          · obtain rfl := List.mem_singleton.1 hp
            exact List.mem_append_right _ hx
        · exact bt.below (unhide HB1) (Nat.le_refl _) (by have := (unhide HB1).size; omega)
      case measure => simp [intOf]; omega
    · obtain rfl : k = n := by omega
      have EL := hide (show us.map Prod.snd = l.map Prod.snd from by have := unhide ED; rw [← unhide HN, List.take_length] at this; exact this)
      go_wp2
      go_ret
      exact ⟨us, rfl, unhide HB, z1, unhide EL, ⟨unhide EM, unhide OO, unhide AA, hu⟩⟩
end Go.Proofs.YtcbmecnipldcfaaGreat
namespace Go.Proofs.YtcbmecnipldcfaaGreat
open Go.RowKit
set_option linter.unusedVariables false
set_option maxRecDepth 100000
set_option linter.unusedSimpArgs false

/-- At most 6 limbs each. -/
def sm (d : QD) : Bool := decide (d.num.xs.length ≤ 6) && decide (d.den.xs.length ≤ 6)
def nz (d : QD) : Bool := decide (d.num.xs.length = 0)
def gC (d : QD) : Bool := sm d && gQ d
def lastOk (l : List QD) : Bool := match l.getLast? with | none => true | some d => !nz d
def gP (l : List QD) : Bool := (decide (l.length ≤ 7) && l.all gC) && lastOk l
theorem any_not_all (l : List QD) (P : QD → Bool) : l.any (fun d => !P d) = !l.all P := by
  induction l with
  | nil => rfl
  | cons d l ih => simp only [List.any_cons, List.all_cons, ih, Bool.not_and]
theorem all_gC (l : List QD) : l.all gC = (l.all sm && l.all gQ) := by
  induction l with
  | nil => rfl
  | cons d l ih =>
    simp only [List.all_cons, ih, gC]
    cases sm d <;> cases gQ d <;> cases l.all sm <;> cases l.all gQ <;> rfl
set_option maxHeartbeats 1000000 in
theorem smallS (q : QV) (d : QD) (w : World) (h : AllAr w [(q.num, d.num), (q.den, d.den)]) : Calls Tryz.prog 43 #[.agg #[.bool q.num.g, .slice q.num.a q.num.n q.num.c, .bool q.den.g, .slice q.den.a q.den.n q.den.c]] w fun e w' => e = .returned (.bool (sm d)) ∧ Below w.heap.size w w' := by
  have e1 := h.head.ar.len
  have e2 := h.tail.head.ar.len
  have m1 := Nat.le_trans h.head.ar.cap h.head.ar.top
  have m2 := Nat.le_trans h.tail.head.ar.cap h.tail.head.ar.top
  clear h
  unfold maxLen at m1 m2
  unfold sm
  rw [e1, e2]
  have HB := hide (show ∀ o, Below w.heap.size w (w.alloc o) from fun o => (Below.refl _ _).alloc (Nat.le_refl _) _)
  by_cases c1 : q.num.n ≤ 6
  · by_cases c2 : q.den.n ≤ 6
    · rw [decide_eq_true c1, decide_eq_true c2]
      have b1 : (q.num.n : Int) ≤ 6 := by omega
      have b1x : ¬ (6 < (q.num.n : Int)) := by omega
      have b2 : (q.den.n : Int) ≤ 6 := by omega
      have b2x : ¬ (6 < (q.den.n : Int)) := by omega
      go_enter Tryz.func43, Tryz.ntmps43
      go_wp2
      go_ret
      exact ⟨rfl, unhide HB _⟩
    · rw [decide_eq_true c1, decide_eq_false c2]
      have b1 : (q.num.n : Int) ≤ 6 := by omega
      have b1x : ¬ (6 < (q.num.n : Int)) := by omega
      have b2 : ¬ ((q.den.n : Int) ≤ 6) := by omega
      have b2x : 6 < (q.den.n : Int) := by omega
      go_enter Tryz.func43, Tryz.ntmps43
      go_wp2
      go_ret
      exact ⟨rfl, unhide HB _⟩
  · rw [decide_eq_false c1]
    have b1 : ¬ ((q.num.n : Int) ≤ 6) := by omega
    have b1x : 6 < (q.num.n : Int) := by omega
    go_enter Tryz.func43, Tryz.ntmps43
    go_wp2
    go_ret
    exact ⟨by simp, unhide HB _⟩
theorem longI (q : QV) (d : QD) (w : World) (h : AllAr w [(q.num, d.num), (q.den, d.den)]) : Calls Tryz.prog 93 #[.agg #[.bool q.num.g, .slice q.num.a q.num.n q.num.c, .bool q.den.g, .slice q.den.a q.den.n q.den.c]] w fun e w' => e = .returned (.bool (!sm d)) ∧ Below w.heap.size w w' := by
  have CC := hide (fun w1 => inL q 6 w1)
  rw [show (decide (q.num.n ≤ 6) && decide (q.den.n ≤ 6)) = sm d from by unfold sm; rw [h.head.ar.len, h.tail.head.ar.len]] at CC
  clear h
  have B0 := hide (show Below w.heap.size w (w.alloc (.cells #[.bool q.num.g, .slice q.num.a q.num.n q.num.c, .bool q.den.g, .slice q.den.a q.den.n q.den.c] 32)) from ((Below.refl _ _).alloc (by simp) _))
  go_enter Tryz.func93, Tryz.ntmps93
  go_wp2_with fail
  refine (unhide CC _).mono ?_
  rintro e w1 ⟨rfl, hb⟩
  have HB := hide (below_on (unhide B0) hb)
  clear hb
  go_wp2
  go_ret
  exact ⟨rfl, unhide HB⟩
theorem zeroSq (q : QV) (d : QD) (w : World) (h : AllAr w [(q.num, d.num), (q.den, d.den)]) : Calls Tryz.prog 84 #[.agg #[.bool q.num.g, .slice q.num.a q.num.n q.num.c, .bool q.den.g, .slice q.den.a q.den.n q.den.c]] w fun e w' => e = .returned (.bool (nz d)) ∧ Below w.heap.size w w' := by
  have e1 := h.head.ar.len
  have m1 := Nat.le_trans h.head.ar.cap h.head.ar.top
  clear h
  unfold maxLen at m1
  unfold nz
  rw [e1]
  have HB := hide (show ∀ o, Below w.heap.size w (w.alloc o) from fun o => (Below.refl _ _).alloc (Nat.le_refl _) _)
  by_cases c1 : q.num.n = 0
  · have b1 : ((q.num.n : Int) == 0) = true := by simp [c1]
    rw [decide_eq_true c1]
    clear c1
    go_enter Tryz.func84, Tryz.ntmps84
    go_wp2
    go_ret
    exact ⟨rfl, unhide HB _⟩
  · have b1 : ((q.num.n : Int) == 0) = false := by simp; omega
    rw [decide_eq_false c1]
    go_enter Tryz.func84, Tryz.ntmps84
    go_wp2
    go_ret
    exact ⟨rfl, unhide HB _⟩
theorem badI (q : QV) (d : QD) (w : World) (h : AllAr w [(q.num, d.num), (q.den, d.den)]) : Calls Tryz.prog 92 #[.agg #[.bool q.num.g, .slice q.num.a q.num.n q.num.c, .bool q.den.g, .slice q.den.a q.den.n q.den.c]] w fun e w' => e = .returned (.bool (!gQ d)) ∧ Below w.heap.size w w' := by
  have H1 := hide h
  clear h
  have B0 := hide (show Below w.heap.size w (w.alloc (.cells #[.bool q.num.g, .slice q.num.a q.num.n q.num.c, .bool q.den.g, .slice q.den.a q.den.n q.den.c] 32)) from ((Below.refl _ _).alloc (by simp) _))
  go_enter Tryz.func92, Tryz.ntmps92
  go_wp2_with fail
  refine (goodQI q d _ ((unhide H1).later (unhide B0))).mono ?_
  rintro e w1 ⟨rfl, hb⟩
  have HB := hide (below_on (unhide B0) hb)
  clear hb
  go_wp2
  go_ret
  exact ⟨rfl, unhide HB⟩
theorem noughtI (q : QV) (d : QD) (w : World) (h : AllAr w [(q.num, d.num), (q.den, d.den)]) : Calls Tryz.prog 97 #[.agg #[.bool q.num.g, .slice q.num.a q.num.n q.num.c, .bool q.den.g, .slice q.den.a q.den.n q.den.c]] w fun e w' => e = .returned (.bool (nz d)) ∧ Below w.heap.size w w' := by
  have e1 := h.head.ar.len
  have m1 := Nat.le_trans h.head.ar.cap h.head.ar.top
  clear h
  unfold nz
  rw [e1]
  clear e1
  have B0 := hide (show Below w.heap.size w (w.alloc (.cells #[.bool q.num.g, .slice q.num.a q.num.n q.num.c, .bool q.den.g, .slice q.den.a q.den.n q.den.c] 32)) from ((Below.refl _ _).alloc (by simp) _))
  go_enter Tryz.func97, Tryz.ntmps97
  go_wp2_with fail
  refine (nought_any q.num.g q.num.a q.num.n q.num.c _ m1).mono ?_
  rintro e w1 ⟨rfl, hb⟩
  have HB := hide (below_on (unhide B0) hb)
  clear hb
  go_wp2
  go_ret
  exact ⟨rfl, unhide HB⟩

set_option maxHeartbeats 2000000 in
theorem indexBad (a : Option Addr) (n c : Nat) (l : List (QV × QD)) (w : World) (h : PArQ w a n c l) :
    Calls Tryz.prog 124 #[.slice a n c, .func (Fn.func 92) #[] #[]] w fun e w' => ∃ r : Int, e = .returned (.int .i64 r) ∧ Below w.heap.size w w' ∧ decide (0 ≤ r) = (l.map Prod.snd).any (fun d => !gQ d) ∧ -1 ≤ r ∧ r ≤ 9223372036854775807 := by
  have HS := hide h
  have HN := hide h.len
  have hm : n ≤ maxLen := Nat.le_trans h.cap h.top
  clear h
  unfold maxLen at hm
  go_enter Tryz.func124, Tryz.ntmps124
  go_wp2
  go_loopw [8] (fun iv wr => ∃ (i : Nat), i ≤ n ∧ iv = .int .i64 i ∧ Hid (((l.take i).map Prod.snd).any (fun d => !gQ d) = false) ∧ Hid (Below w.heap.size w wr)) (fun iv _ => n - (intOf iv).toNat)
  case atStart => exact ⟨0, Nat.zero_le _, rfl, hide (by simp), hide (Below.refl _ _)⟩
  case round =>
    obtain ⟨i, hi, rfl, EA, HB⟩ := hrel
    by_cases hlt : i < n
    · have hlt' : (i : Int) < (n : Int) := by omega
      rcases (unhide HS).at_ with e | ⟨b, off, rfl, hb, hc⟩
      · exact absurd (unhide HN) (by rw [e]; simp; omega)
      have e0 := hc i (by rw [unhide HN]; exact hlt)
      obtain ⟨y, hy⟩ : ∃ y, y = l[i]'(by rw [unhide HN]; exact hlt) := ⟨_, rfl⟩
      rw [← hy] at e0
      have MY : Hid (y ∈ l) := hide (by rw [hy]; exact List.getElem_mem _)
      have EY := hide hy
      clear hy
      have E0 : wr.cell? ⟨b, off + i * 4, none⟩ = some (.bool y.1.num.g) := ((unhide HB).cell (p := ⟨b, off + i * 4, none⟩) hb).trans (e0.1)
      have E1 : wr.cell? ⟨b, off + i * 4 + 1, none⟩ = some (.slice y.1.num.a y.1.num.n y.1.num.c) := ((unhide HB).cell (p := ⟨b, off + i * 4 + 1, none⟩) hb).trans (e0.2.1)
      have E2 : wr.cell? ⟨b, off + i * 4 + 2, none⟩ = some (.bool y.1.den.g) := ((unhide HB).cell (p := ⟨b, off + i * 4 + 2, none⟩) hb).trans (e0.2.2.1)
      have E3 : wr.cell? ⟨b, off + i * 4 + 3, none⟩ = some (.slice y.1.den.a y.1.den.n y.1.den.c) := ((unhide HB).cell (p := ⟨b, off + i * 4 + 3, none⟩) hb).trans (e0.2.2.2)
      clear e0 hc
      have TK : Hid (l.take (i + 1) = l.take i ++ [y]) := hide (by have h := take_succQ (l := l) (i := i) (by rw [unhide HN]; exact hlt); rw [← unhide EY] at h; exact h)
      have R1 := hide (((unhide HS).rd y (unhide MY)).later (unhide HB))
      have CC := hide (fun w1 (k : AllAr w1 [(y.1.num, y.2.num), (y.1.den, y.2.den)]) => badI y.1 y.2 w1 k)
      cases hp : (fun d => !gQ d) y.2
      · have hp' : (!gQ y.2) = false := hp
        rw [hp'] at CC
        go_wp2_with fail
        refine (unhide CC _ (unhide R1)).mono ?_
        rintro e w1 ⟨rfl, hb1⟩
        have HB1 := hide (below_on (unhide HB) hb1)
        clear hb1 E0 E1 E2 E3 CC
        go_wp2
        go_roundw
        case rel => exact ⟨i + 1, by omega, by go_num, hide (by rw [unhide TK, List.map_append, List.any_append, unhide EA]; simp only [List.map_cons, List.map_nil, List.any_cons, List.any_nil]; rw [hp']; rfl), HB1⟩
        case measure => simp [intOf]; omega
      · have hp' : (!gQ y.2) = true := hp
        rw [hp'] at CC
        have AN := hide (show (l.map Prod.snd).any (fun d => !gQ d) = true from List.any_eq_true.2 ⟨y.2, List.mem_map.2 ⟨y, unhide MY, rfl⟩, hp'⟩)
        go_wp2_with fail
        refine (unhide CC _ (unhide R1)).mono ?_
        rintro e w1 ⟨rfl, hb1⟩
        have HB1 := hide (below_on (unhide HB) hb1)
        clear hb1 E0 E1 E2 E3 CC
        go_wp2
        go_ret
        exact ⟨_, rfl, unhide HB1, by rw [unhide AN]; exact decide_eq_true (by omega), by omega, by omega⟩
    · obtain rfl : i = n := by omega
      have EL := hide (show (l.map Prod.snd).any (fun d => !gQ d) = false from by have := unhide EA; rw [← unhide HN, List.take_length] at this; exact this)
      go_wp2
      go_ret
      exact ⟨_, rfl, unhide HB, by rw [unhide EL]; rfl, by omega, by omega⟩
theorem containsBad (a : Option Addr) (n c : Nat) (l : List (QV × QD)) (w : World) (h : PArQ w a n c l) :
    Calls Tryz.prog 91 #[.slice a n c, .func (Fn.func 92) #[] #[]] w fun e w' => e = .returned (.bool ((l.map Prod.snd).any (fun d => !gQ d))) ∧ Below w.heap.size w w' := by
  have HS := hide h
  clear h
  go_enter Tryz.func91, Tryz.ntmps91
  go_wp2_with fail
  refine (indexBad a n c l _ (unhide HS)).mono ?_
  rintro e w1 ⟨r, rfl, hb1, hr, r0, r1⟩
  have HB1 := hide hb1
  have HR := hide hr
  clear hb1 hr
  go_wp2
  go_ret
  exact ⟨by rw [← unhide HR]; rfl, unhide HB1⟩

set_option maxHeartbeats 2000000 in
theorem indexLong (a : Option Addr) (n c : Nat) (l : List (QV × QD)) (w : World) (h : PArQ w a n c l) :
    Calls Tryz.prog 124 #[.slice a n c, .func (Fn.func 93) #[] #[]] w fun e w' => ∃ r : Int, e = .returned (.int .i64 r) ∧ Below w.heap.size w w' ∧ decide (0 ≤ r) = (l.map Prod.snd).any (fun d => !sm d) ∧ -1 ≤ r ∧ r ≤ 9223372036854775807 := by
  have HS := hide h
  have HN := hide h.len
  have hm : n ≤ maxLen := Nat.le_trans h.cap h.top
  clear h
  unfold maxLen at hm
  go_enter Tryz.func124, Tryz.ntmps124
  go_wp2
  go_loopw [8] (fun iv wr => ∃ (i : Nat), i ≤ n ∧ iv = .int .i64 i ∧ Hid (((l.take i).map Prod.snd).any (fun d => !sm d) = false) ∧ Hid (Below w.heap.size w wr)) (fun iv _ => n - (intOf iv).toNat)
  case atStart => exact ⟨0, Nat.zero_le _, rfl, hide (by simp), hide (Below.refl _ _)⟩
  case round =>
    obtain ⟨i, hi, rfl, EA, HB⟩ := hrel
    by_cases hlt : i < n
    · have hlt' : (i : Int) < (n : Int) := by omega
      rcases (unhide HS).at_ with e | ⟨b, off, rfl, hb, hc⟩
      · exact absurd (unhide HN) (by rw [e]; simp; omega)
      have e0 := hc i (by rw [unhide HN]; exact hlt)
      obtain ⟨y, hy⟩ : ∃ y, y = l[i]'(by rw [unhide HN]; exact hlt) := ⟨_, rfl⟩
      rw [← hy] at e0
      have MY : Hid (y ∈ l) := hide (by rw [hy]; exact List.getElem_mem _)
      have EY := hide hy
      clear hy
      have E0 : wr.cell? ⟨b, off + i * 4, none⟩ = some (.bool y.1.num.g) := ((unhide HB).cell (p := ⟨b, off + i * 4, none⟩) hb).trans (e0.1)
      have E1 : wr.cell? ⟨b, off + i * 4 + 1, none⟩ = some (.slice y.1.num.a y.1.num.n y.1.num.c) := ((unhide HB).cell (p := ⟨b, off + i * 4 + 1, none⟩) hb).trans (e0.2.1)
      have E2 : wr.cell? ⟨b, off + i * 4 + 2, none⟩ = some (.bool y.1.den.g) := ((unhide HB).cell (p := ⟨b, off + i * 4 + 2, none⟩) hb).trans (e0.2.2.1)
      have E3 : wr.cell? ⟨b, off + i * 4 + 3, none⟩ = some (.slice y.1.den.a y.1.den.n y.1.den.c) := ((unhide HB).cell (p := ⟨b, off + i * 4 + 3, none⟩) hb).trans (e0.2.2.2)
      clear e0 hc
      have TK : Hid (l.take (i + 1) = l.take i ++ [y]) := hide (by have h := take_succQ (l := l) (i := i) (by rw [unhide HN]; exact hlt); rw [← unhide EY] at h; exact h)
      have R1 := hide (((unhide HS).rd y (unhide MY)).later (unhide HB))
      have CC := hide (fun w1 (k : AllAr w1 [(y.1.num, y.2.num), (y.1.den, y.2.den)]) => longI y.1 y.2 w1 k)
      cases hp : (fun d => !sm d) y.2
      · have hp' : (!sm y.2) = false := hp
        rw [hp'] at CC
        go_wp2_with fail
        refine (unhide CC _ (unhide R1)).mono ?_
        rintro e w1 ⟨rfl, hb1⟩
        have HB1 := hide (below_on (unhide HB) hb1)
        clear hb1 E0 E1 E2 E3 CC
        go_wp2
        go_roundw
        case rel => exact ⟨i + 1, by omega, by go_num, hide (by rw [unhide TK, List.map_append, List.any_append, unhide EA]; simp only [List.map_cons, List.map_nil, List.any_cons, List.any_nil]; rw [hp']; rfl), HB1⟩
        case measure => simp [intOf]; omega
      · have hp' : (!sm y.2) = true := hp
        rw [hp'] at CC
        have AN := hide (show (l.map Prod.snd).any (fun d => !sm d) = true from List.any_eq_true.2 ⟨y.2, List.mem_map.2 ⟨y, unhide MY, rfl⟩, hp'⟩)
        go_wp2_with fail
        refine (unhide CC _ (unhide R1)).mono ?_
        rintro e w1 ⟨rfl, hb1⟩
        have HB1 := hide (below_on (unhide HB) hb1)
        clear hb1 E0 E1 E2 E3 CC
        go_wp2
        go_ret
        exact ⟨_, rfl, unhide HB1, by rw [unhide AN]; exact decide_eq_true (by omega), by omega, by omega⟩
    · obtain rfl : i = n := by omega
      have EL := hide (show (l.map Prod.snd).any (fun d => !sm d) = false from by have := unhide EA; rw [← unhide HN, List.take_length] at this; exact this)
      go_wp2
      go_ret
      exact ⟨_, rfl, unhide HB, by rw [unhide EL]; rfl, by omega, by omega⟩
theorem containsLong (a : Option Addr) (n c : Nat) (l : List (QV × QD)) (w : World) (h : PArQ w a n c l) :
    Calls Tryz.prog 91 #[.slice a n c, .func (Fn.func 93) #[] #[]] w fun e w' => e = .returned (.bool ((l.map Prod.snd).any (fun d => !sm d))) ∧ Below w.heap.size w w' := by
  have HS := hide h
  clear h
  go_enter Tryz.func91, Tryz.ntmps91
  go_wp2_with fail
  refine (indexLong a n c l _ (unhide HS)).mono ?_
  rintro e w1 ⟨r, rfl, hb1, hr, r0, r1⟩
  have HB1 := hide hb1
  have HR := hide hr
  clear hb1 hr
  go_wp2
  go_ret
  exact ⟨by rw [← unhide HR]; rfl, unhide HB1⟩

theorem lastOk_of {l : List (QV × QD)} {n : Nat} (hn : l.length = n) (h0 : 0 < n) : lastOk (l.map Prod.snd) = !nz (l[n - 1]'(by omega)).2 := by
  subst hn
  have : (l.map Prod.snd).getLast? = some (l[l.length - 1]'(by omega)).2 := by
    rw [List.getLast?_eq_getElem?, List.getElem?_map, List.length_map, List.getElem?_eq_getElem (by omega)]
    rfl
  unfold lastOk
  rw [this]

set_option maxHeartbeats 2000000 in
theorem lastQ_v (a : Option Addr) (n c : Nat) (l : List (QV × QD)) (y : QV × QD) (w : World) (h : PArQ w a n c l) (h0 : 0 < n) (hy : l[n - 1]? = some y) :
    Calls Tryz.prog 98 #[.slice a n c] w fun e w' => e = .returned (.agg #[.bool y.1.num.g, .slice y.1.num.a y.1.num.n y.1.num.c, .bool y.1.den.g, .slice y.1.den.a y.1.den.n y.1.den.c]) ∧ Below w.heap.size w w' := by
  have hl := h.len
  have hm : n ≤ maxLen := Nat.le_trans h.cap h.top
  unfold maxLen at hm
  have HB0 := hide (show ∀ o, Below w.heap.size w (w.alloc o) from fun o => (Below.refl _ _).alloc (Nat.le_refl _) _)
  rcases h.at_ with e | ⟨b, off, rfl, hb, hc⟩
  · exact absurd hl (by rw [e]; simp; omega)
  have e0 := hc (n - 1) (by omega)
  rw [show l[n - 1]'(by omega) = y from (List.getElem?_eq_some_iff.1 hy).2] at e0
  have E0 : w.cell? ⟨b, off + (n - 1) * 4, none⟩ = some (.bool y.1.num.g) := e0.1
  have E1 : w.cell? ⟨b, off + (n - 1) * 4 + 1, none⟩ = some (.slice y.1.num.a y.1.num.n y.1.num.c) := e0.2.1
  have E2 : w.cell? ⟨b, off + (n - 1) * 4 + 2, none⟩ = some (.bool y.1.den.g) := e0.2.2.1
  have E3 : w.cell? ⟨b, off + (n - 1) * 4 + 3, none⟩ = some (.slice y.1.den.a y.1.den.n y.1.den.c) := e0.2.2.2
  have i1 : (0 : Int) ≤ (n : Int) - 1 := by omega
  have i2 : (n : Int) - 1 < (n : Int) := by omega
  have i3 : ((n : Int) - 1).toNat = n - 1 := by omega
  clear e0 hc hy h hl
  go_enter Tryz.func98, Tryz.ntmps98
  go_wp2
  refine bodyPost_ret (v := .agg #[.bool y.1.num.g, .slice y.1.num.a y.1.num.n y.1.num.c, .bool y.1.den.g, .slice y.1.den.a y.1.den.n y.1.den.c]) (by simp [results, Tryz.results98, go_sem]) rfl ?_
  refine ⟨rfl, ?_⟩
  first | exact unhide HB0 _ | (refine (Below.setCell ?_ (Nat.le_refl _) _); exact unhide HB0 _) | (refine (Below.setCell (Below.setCell (Below.setCell (Below.setCell ?_ (Nat.le_refl _) _) (Nat.le_refl _) _) (Nat.le_refl _) _) (Nat.le_refl _) _); exact unhide HB0 _)

set_option maxHeartbeats 4000000 in
theorem polyFits_v (a : Option Addr) (n c : Nat) (l : List (QV × QD)) (w : World) (h : PArQ w a n c l) :
    Calls Tryz.prog 55 #[.slice a n c] w fun e w' => e = .returned (.bool ((decide (l.length ≤ 7) && (l.map Prod.snd).all sm) && lastOk (l.map Prod.snd))) ∧ Below w.heap.size w w' := by
  have HS := hide h
  have HN := hide h.len
  have hm : n ≤ maxLen := Nat.le_trans h.cap h.top
  have hl := h.len
  clear h
  unfold maxLen at hm
  rw [hl]
  clear hl
  by_cases c7 : n ≤ 7
  · have b7 : ¬ ((7 : Int) < (n : Int)) := by omega
    rw [decide_eq_true c7, Bool.true_and]
    have CC := hide (fun w1 (k : PArQ w1 a n c l) => containsLong a n c l w1 k)
    rw [any_not_all] at CC
    cases hA : (l.map Prod.snd).all sm
    · rw [hA] at CC
      rw [Bool.false_and]
      go_enter Tryz.func55, Tryz.ntmps55
      go_wp2_with fail
      refine (unhide CC _ (unhide HS)).mono ?_
      rintro e w1 ⟨rfl, hb1⟩
      have HB1 := hide hb1
      clear hb1 CC
      go_wp2
      go_ret
      exact ⟨rfl, unhide HB1⟩
    · rw [hA] at CC
      rw [Bool.true_and]
      by_cases h0 : n = 0
      · have b0 : ((n : Int) == 0) = true := by simp [h0]
        have LO := hide (show lastOk (l.map Prod.snd) = true from by have := unhide HN; rw [h0] at this; rw [List.length_eq_zero_iff.1 this]; rfl)
        rw [unhide LO]
        clear h0
        go_enter Tryz.func55, Tryz.ntmps55
        go_wp2_with fail
        refine (unhide CC _ (unhide HS)).mono ?_
        rintro e w1 ⟨rfl, hb1⟩
        have HB1 := hide hb1
        clear hb1 CC
        go_wp2
        go_ret
        exact ⟨rfl, unhide HB1⟩
      · have b0 : ((n : Int) == 0) = false := by simp; omega
        obtain ⟨y, hy⟩ : ∃ y, y = l[n - 1]'(by have := unhide HN; omega) := ⟨_, rfl⟩
        have LO := hide (lastOk_of (unhide HN) (by omega : 0 < n))
        rw [← hy] at LO
        have R1 := hide ((unhide HS).rd y (by rw [hy]; exact List.getElem_mem _))
        have LY := hide (fun w1 (k : PArQ w1 a n c l) => lastQ_v a n c l y w1 k (by omega) (by rw [hy]; exact List.getElem?_eq_getElem _))
        clear hy
        rw [unhide LO]
        go_enter Tryz.func55, Tryz.ntmps55
        go_wp2_with fail
        refine (unhide CC _ (unhide HS)).mono ?_
        rintro e w1 ⟨rfl, hb1⟩
        have HB1 := hide hb1
        replace R1 := hide ((unhide R1).later hb1)
        clear hb1 CC
        go_wp2_with fail
        refine (unhide LY _ ((unhide HS).later (unhide HB1))).mono ?_
        rintro e w3 ⟨rfl, hb3⟩
        replace HB1 := hide (below_on (unhide HB1) hb3)
        replace R1 := hide ((unhide R1).later hb3)
        clear hb3 LY
        go_wp2_with fail
        refine (noughtI y.1 y.2 _ (unhide R1)).mono ?_
        rintro e w2 ⟨rfl, hb2⟩
        have HB2 := hide (below_on (unhide HB1) hb2)
        clear hb2
        go_wp2
        go_ret
        exact ⟨rfl, unhide HB2⟩
  · have b7 : ((7 : Int) < (n : Int)) := by omega
    rw [decide_eq_false c7, Bool.false_and, Bool.false_and]
    go_enter Tryz.func55, Tryz.ntmps55
    go_wp2
    go_ret
    exact ⟨rfl, Below.refl _ _⟩

theorem gP_parts (l : List QD) : gP l = (((decide (l.length ≤ 7) && l.all sm) && lastOk l) && l.all gQ) := by
  unfold gP
  rw [all_gC]
  cases decide (l.length ≤ 7) <;> cases l.all sm <;> cases l.all gQ <;> cases lastOk l <;> rfl
theorem GoodPI (a : Option Addr) (n c : Nat) (l : List (QV × QD)) (w : World) (h : PArQ w a n c l) :
    Calls Tryz.prog 51 #[.slice a n c] w fun e w' => e = .returned (.bool (gP (l.map Prod.snd))) ∧ Below w.heap.size w w' := by
  rw [gP_parts, List.length_map]
  have HS := hide h
  clear h
  have CC := hide (fun w1 (k : PArQ w1 a n c l) => containsBad a n c l w1 k)
  rw [any_not_all] at CC
  have PP := hide (fun w1 (k : PArQ w1 a n c l) => polyFits_v a n c l w1 k)
  cases hA : ((decide (l.length ≤ 7) && (l.map Prod.snd).all sm) && lastOk (l.map Prod.snd))
  · rw [hA] at PP
    rw [Bool.false_and]
    go_enter Tryz.func51, Tryz.ntmps51
    go_wp2_with fail
    refine (unhide PP _ (unhide HS)).mono ?_
    rintro e w1 ⟨rfl, hb1⟩
    have HB1 := hide hb1
    clear hb1 PP CC
    go_wp2
    go_ret
    exact ⟨rfl, unhide HB1⟩
  · rw [hA] at PP
    rw [Bool.true_and]
    go_enter Tryz.func51, Tryz.ntmps51
    go_wp2_with fail
    refine (unhide PP _ (unhide HS)).mono ?_
    rintro e w1 ⟨rfl, hb1⟩
    have HB1 := hide hb1
    clear hb1 PP
    go_wp2_with fail
    refine (unhide CC _ ((unhide HS).later (unhide HB1))).mono ?_
    rintro e w2 ⟨rfl, hb2⟩
    have HB2 := hide (below_on (unhide HB1) hb2)
    clear hb2 CC
    go_wp2
    go_ret
    exact ⟨by simp, unhide HB2⟩

set_option maxHeartbeats 4000000 in
theorem GoodPS (a : Option Addr) (n c : Nat) (l : List (QV × QD)) (w : World) (h : PArQ w a n c l) :
    Calls Tryz.prog 42 #[.slice a n c] w fun e w' => e = .returned (.bool (gP (l.map Prod.snd))) ∧ Below w.heap.size w w' := by
  have HS := hide h
  have HN := hide h.len
  have hm : n ≤ maxLen := Nat.le_trans h.cap h.top
  clear h
  unfold maxLen at hm
  go_enter Tryz.func42, Tryz.ntmps42
  go_wp2
  go_loopw [7] (fun iv wr => ∃ (i : Nat), i ≤ n ∧ iv = .int .i64 i ∧ Hid (((l.take i).map Prod.snd).all gC = true) ∧ Hid (Below w.heap.size w wr)) (fun iv _ => n - (intOf iv).toNat)
  case atStart => exact ⟨0, Nat.zero_le _, rfl, hide (by simp), hide (Below.refl _ _)⟩
  case round =>
    obtain ⟨i, hi, rfl, EA, HB⟩ := hrel
    by_cases hlt : i < n
    · have hlt' : (i : Int) < (n : Int) := by omega
      rcases (unhide HS).at_ with e | ⟨b, off, rfl, hb, hc⟩
      · exact absurd (unhide HN) (by rw [e]; simp; omega)
      have e0 := hc i (by rw [unhide HN]; exact hlt)
      obtain ⟨y, hy⟩ : ∃ y, y = l[i]'(by rw [unhide HN]; exact hlt) := ⟨_, rfl⟩
      rw [← hy] at e0
      have MY : Hid (y ∈ l) := hide (by rw [hy]; exact List.getElem_mem _)
      have EY := hide hy
      clear hy
      have E0 : wr.cell? ⟨b, off + i * 4, none⟩ = some (.bool y.1.num.g) := ((unhide HB).cell (p := ⟨b, off + i * 4, none⟩) hb).trans (e0.1)
      have E1 : wr.cell? ⟨b, off + i * 4 + 1, none⟩ = some (.slice y.1.num.a y.1.num.n y.1.num.c) := ((unhide HB).cell (p := ⟨b, off + i * 4 + 1, none⟩) hb).trans (e0.2.1)
      have E2 : wr.cell? ⟨b, off + i * 4 + 2, none⟩ = some (.bool y.1.den.g) := ((unhide HB).cell (p := ⟨b, off + i * 4 + 2, none⟩) hb).trans (e0.2.2.1)
      have E3 : wr.cell? ⟨b, off + i * 4 + 3, none⟩ = some (.slice y.1.den.a y.1.den.n y.1.den.c) := ((unhide HB).cell (p := ⟨b, off + i * 4 + 3, none⟩) hb).trans (e0.2.2.2)
      clear e0 hc
      have TK : Hid (l.take (i + 1) = l.take i ++ [y]) := hide (by have h := take_succQ (l := l) (i := i) (by rw [unhide HN]; exact hlt); rw [← unhide EY] at h; exact h)
      have R1 := hide (((unhide HS).rd y (unhide MY)).later (unhide HB))
      have C1 := hide (fun w1 (k : AllAr w1 [(y.1.num, y.2.num), (y.1.den, y.2.den)]) => smallS y.1 y.2 w1 k)
      have C2 := hide (fun w1 (k : AllAr w1 [(y.1.num, y.2.num), (y.1.den, y.2.den)]) => goodQS y.1 y.2 w1 k)
      cases hp1 : sm y.2
      · have AN := hide (show gP (l.map Prod.snd) = false from by
          have ha : (l.map Prod.snd).all gC = false := by
            apply Bool.eq_false_iff.2
            intro h
            have h2 := List.all_eq_true.1 h y.2 (List.mem_map.2 ⟨y, unhide MY, rfl⟩)
            unfold gC at h2
            rw [hp1] at h2
            simp at h2
          unfold gP
          rw [ha, Bool.and_false, Bool.false_and])
        rw [hp1] at C1
        go_wp2_with fail
        refine (unhide C1 _ ((unhide R1).later ((Below.refl _ _).alloc (Nat.le_refl _) _))).mono ?_
        rintro e w1 ⟨rfl, hb1⟩
        have k0 : w1.cell? ⟨wr.heap.size, 0, none⟩ = some (.bool y.1.num.g) := cell_later hb1 (by simp [go_sem])
        have k1 : w1.cell? ⟨wr.heap.size, 1, none⟩ = some (.slice y.1.num.a y.1.num.n y.1.num.c) := cell_later hb1 (by simp [go_sem])
        have k2 : w1.cell? ⟨wr.heap.size, 2, none⟩ = some (.bool y.1.den.g) := cell_later hb1 (by simp [go_sem])
        have k3 : w1.cell? ⟨wr.heap.size, 3, none⟩ = some (.slice y.1.den.a y.1.den.n y.1.den.c) := cell_later hb1 (by simp [go_sem])
        have HB1 := hide (below_on (unhide HB) (ba hb1))
        have RR := hide ((unhide R1).later (ba hb1))
        clear hb1 E0 E1 E2 E3 C1
        clear k0 k1 k2 k3
        go_wp2
        go_ret
        exact ⟨by rw [unhide AN]; rfl, unhide HB1⟩
      · cases hp2 : gQ y.2
        · have AN := hide (show gP (l.map Prod.snd) = false from by
            have ha : (l.map Prod.snd).all gC = false := by
              apply Bool.eq_false_iff.2
              intro h
              have h2 := List.all_eq_true.1 h y.2 (List.mem_map.2 ⟨y, unhide MY, rfl⟩)
              unfold gC at h2
              rw [hp1, hp2] at h2
              simp at h2
            unfold gP
            rw [ha, Bool.and_false, Bool.false_and])
          rw [hp1] at C1
          rw [hp2] at C2
          go_wp2_with fail
          refine (unhide C1 _ ((unhide R1).later ((Below.refl _ _).alloc (Nat.le_refl _) _))).mono ?_
          rintro e w1 ⟨rfl, hb1⟩
          have k0 : w1.cell? ⟨wr.heap.size, 0, none⟩ = some (.bool y.1.num.g) := cell_later hb1 (by simp [go_sem])
          have k1 : w1.cell? ⟨wr.heap.size, 1, none⟩ = some (.slice y.1.num.a y.1.num.n y.1.num.c) := cell_later hb1 (by simp [go_sem])
          have k2 : w1.cell? ⟨wr.heap.size, 2, none⟩ = some (.bool y.1.den.g) := cell_later hb1 (by simp [go_sem])
          have k3 : w1.cell? ⟨wr.heap.size, 3, none⟩ = some (.slice y.1.den.a y.1.den.n y.1.den.c) := cell_later hb1 (by simp [go_sem])
          have HB1 := hide (below_on (unhide HB) (ba hb1))
          have RR := hide ((unhide R1).later (ba hb1))
          clear hb1 E0 E1 E2 E3 C1
          go_wp2_with fail
          refine (unhide C2 _ (unhide RR)).mono ?_
          rintro e w2 ⟨rfl, hb2⟩
          have HBz := hide (below_on (unhide HB1) hb2)
          clear hb2 k0 k1 k2 k3 C2
          go_wp2
          go_ret
          exact ⟨by rw [unhide AN]; rfl, unhide HBz⟩
        · rw [hp1] at C1
          rw [hp2] at C2
          go_wp2_with fail
          refine (unhide C1 _ ((unhide R1).later ((Below.refl _ _).alloc (Nat.le_refl _) _))).mono ?_
          rintro e w1 ⟨rfl, hb1⟩
          have k0 : w1.cell? ⟨wr.heap.size, 0, none⟩ = some (.bool y.1.num.g) := cell_later hb1 (by simp [go_sem])
          have k1 : w1.cell? ⟨wr.heap.size, 1, none⟩ = some (.slice y.1.num.a y.1.num.n y.1.num.c) := cell_later hb1 (by simp [go_sem])
          have k2 : w1.cell? ⟨wr.heap.size, 2, none⟩ = some (.bool y.1.den.g) := cell_later hb1 (by simp [go_sem])
          have k3 : w1.cell? ⟨wr.heap.size, 3, none⟩ = some (.slice y.1.den.a y.1.den.n y.1.den.c) := cell_later hb1 (by simp [go_sem])
          have HB1 := hide (below_on (unhide HB) (ba hb1))
          have RR := hide ((unhide R1).later (ba hb1))
          clear hb1 E0 E1 E2 E3 C1
          go_wp2_with fail
          refine (unhide C2 _ (unhide RR)).mono ?_
          rintro e w2 ⟨rfl, hb2⟩
          have HBz := hide (below_on (unhide HB1) hb2)
          clear hb2 k0 k1 k2 k3 C2
          go_wp2
          go_roundw
          case rel => exact ⟨i + 1, by omega, by go_num, hide (by rw [unhide TK, List.map_append, List.all_append, unhide EA]; simp only [List.map_cons, List.map_nil, List.all_cons, List.all_nil, gC]; rw [hp1, hp2]; rfl), HBz⟩
          case measure => simp [intOf]; omega
    · obtain rfl : i = n := by omega
      have EL := hide (show (l.map Prod.snd).all gC = true from by have := unhide EA; rw [← unhide HN, List.take_length] at this; exact this)
      have GP : Hid (gP (l.map Prod.snd) = (decide (i ≤ 7) && lastOk (l.map Prod.snd))) := hide (by unfold gP; rw [unhide EL, List.length_map, unhide HN, Bool.and_true])
      clear EA
      by_cases c7 : i ≤ 7
      · have b7 : (i : Int) ≤ 7 := by omega
        have D7 := hide (decide_eq_true c7)
        clear c7
        by_cases h0 : i = 0
        · have b0 : ((i : Int) == 0) = true := by simp [h0]
          have LO := hide (show lastOk (l.map Prod.snd) = true from by have := unhide HN; rw [h0] at this; rw [List.length_eq_zero_iff.1 this]; rfl)
          clear h0
          go_wp2
          go_ret
          exact ⟨by rw [unhide GP, unhide D7, unhide LO]; rfl, unhide HB⟩
        · have b0 : ((i : Int) == 0) = false := by simp; omega
          have hlt : i - 1 < i := by omega
          rcases (unhide HS).at_ with e | ⟨b, off, rfl, hb, hc⟩
          · exact absurd (unhide HN) (by rw [e]; simp; omega)
          have LO := hide (lastOk_of (unhide HN) (by omega : 0 < i))
          have e0 := hc (i - 1) (by rw [unhide HN]; exact hlt)
          obtain ⟨y, hy⟩ : ∃ y, y = l[(i - 1)]'(by rw [unhide HN]; exact hlt) := ⟨_, rfl⟩
          rw [← hy] at e0
          have MY : Hid (y ∈ l) := hide (by rw [hy]; exact List.getElem_mem _)
          have EY := hide hy
          clear hy
          have E0 : wr.cell? ⟨b, off + (i - 1) * 4, none⟩ = some (.bool y.1.num.g) := ((unhide HB).cell (p := ⟨b, off + (i - 1) * 4, none⟩) hb).trans (e0.1)
          have E1 : wr.cell? ⟨b, off + (i - 1) * 4 + 1, none⟩ = some (.slice y.1.num.a y.1.num.n y.1.num.c) := ((unhide HB).cell (p := ⟨b, off + (i - 1) * 4 + 1, none⟩) hb).trans (e0.2.1)
          have E2 : wr.cell? ⟨b, off + (i - 1) * 4 + 2, none⟩ = some (.bool y.1.den.g) := ((unhide HB).cell (p := ⟨b, off + (i - 1) * 4 + 2, none⟩) hb).trans (e0.2.2.1)
          have E3 : wr.cell? ⟨b, off + (i - 1) * 4 + 3, none⟩ = some (.slice y.1.den.a y.1.den.n y.1.den.c) := ((unhide HB).cell (p := ⟨b, off + (i - 1) * 4 + 3, none⟩) hb).trans (e0.2.2.2)
          clear e0 hc
          rw [← unhide EY] at LO
          have R1 := hide (((unhide HS).rd y (unhide MY)).later (unhide HB))
          have i1 : (0 : Int) ≤ (i : Int) - 1 := by omega
          have i2 : (i : Int) - 1 < (i : Int) := by omega
          have i3 : ((i : Int) - 1).toNat = i - 1 := by omega
          go_wp2_with fail
          refine (zeroSq y.1 y.2 _ (unhide R1)).mono ?_
          rintro e w2 ⟨rfl, hb2⟩
          have HB2 := hide (below_on (unhide HB) hb2)
          clear hb2
          go_wp2
          go_ret
          exact ⟨by rw [unhide GP, unhide D7, unhide LO]; rfl, unhide HB2⟩
      · have b7 : ¬ ((i : Int) ≤ 7) := by omega
        have D7 := hide (decide_eq_false c7)
        go_wp2
        go_ret
        exact ⟨by rw [unhide GP, unhide D7]; rfl, unhide HB⟩
end Go.Proofs.YtcbmecnipldcfaaGreat
namespace Go.Proofs.YtcbmecnipldcfaaGreat
open Go.RowKit
set_option linter.unusedVariables false
set_option maxRecDepth 100000
set_option linter.unusedSimpArgs false

/-- The mark that stands for a sign. -/
def sg (k : Int) : Bool := (k % 3 == 0)
/-- The cells of some fractions from block G's start on. -/
def RowQ (w : World) (G : Nat) (l : List (QV × QD)) : Prop := ∃ cur, w.heap[G]? = some (.cells cur 32 (0, 0)) ∧ ∀ j p, l[j]? = some p → cur[j * 4]? = some (.bool p.1.num.g) ∧ cur[j * 4 + 1]? = some (.slice p.1.num.a p.1.num.n p.1.num.c) ∧ cur[j * 4 + 2]? = some (.bool p.1.den.g) ∧ cur[j * 4 + 3]? = some (.slice p.1.den.a p.1.den.n p.1.den.c)
theorem mid_ne {α : Type} {pre post : List α} {y y' : α} {j : Nat} (h : j ≠ pre.length) : (pre ++ y :: post)[j]? = (pre ++ y' :: post)[j]? := by
  by_cases c : j < pre.length
  · rw [List.getElem?_append_left c, List.getElem?_append_left c]
  · rw [List.getElem?_append_right (by omega), List.getElem?_append_right (by omega)]
    obtain ⟨m, hm⟩ : ∃ m, j - pre.length = m + 1 := ⟨j - pre.length - 1, by omega⟩
    rw [hm, List.getElem?_cons_succ, List.getElem?_cons_succ]
theorem mid_eq {α : Type} {pre post : List α} {y : α} : (pre ++ y :: post)[pre.length]? = some y := by
  rw [List.getElem?_append_right (Nat.le_refl _), Nat.sub_self]; rfl
theorem RowQ.lt {w : World} {G : Nat} {l : List (QV × QD)} (h : RowQ w G l) : G < w.heap.size := by
  obtain ⟨cur, hg, _⟩ := h
  exact (Array.getElem?_eq_some_iff.1 hg).1
theorem RowQ.cellsAt {w : World} {G : Nat} {l : List (QV × QD)} (h : RowQ w G l) {i : Nat} {y : QV × QD} (hy : l[i]? = some y) : w.cell? ⟨G, i * 4, none⟩ = some (.bool y.1.num.g) ∧ w.cell? ⟨G, i * 4 + 1, none⟩ = some (.slice y.1.num.a y.1.num.n y.1.num.c) ∧ w.cell? ⟨G, i * 4 + 2, none⟩ = some (.bool y.1.den.g) ∧ w.cell? ⟨G, i * 4 + 3, none⟩ = some (.slice y.1.den.a y.1.den.n y.1.den.c) := by
  obtain ⟨cur, hg, hc⟩ := h
  have h1 := hc i y hy
  refine ⟨?_, ?_, ?_, ?_⟩ <;> rw [cell_of_row w G _ cur 32 (0, 0) hg]
  · exact h1.1
  · exact h1.2.1
  · exact h1.2.2.1
  · exact h1.2.2.2
theorem RowQ.frozen {w : World} {G : Nat} {l : List (QV × QD)} (h : RowQ w G l) (o : Nat) : w.frozen? ⟨G, o, none⟩ = false := by
  obtain ⟨cur, hg, hc⟩ := h
  exact frozen_of_row w G o cur 32 hg
theorem RowQ.but {w w' : World} {G lo hi : Nat} {l : List (QV × QD)} (h : RowQ w G l) (hb : But lo hi w w') (hG : G < lo ∨ hi ≤ G) : RowQ w' G l := by
  obtain ⟨cur, hg, hc⟩ := h
  exact ⟨cur, by rw [hb.block G (Array.getElem?_eq_some_iff.1 hg).1 hG]; exact hg, hc⟩
theorem RowQ.later {w w' : World} {G : Nat} {l : List (QV × QD)} (h : RowQ w G l) (hb : Below w.heap.size w w') : RowQ w' G l := by
  obtain ⟨cur, hg, hc⟩ := h
  exact ⟨cur, by rw [hb.block G (Array.getElem?_eq_some_iff.1 hg).1]; exact hg, hc⟩
theorem RowQ.g0 {w : World} {G i : Nat} {pre post : List (QV × QD)} {y : QV × QD} (g : Bool) (h : RowQ w G (pre ++ y :: post)) (hi : pre.length = i) : RowQ (w.setCell ⟨G, i * 4, none⟩ (.bool g)) G (pre ++ ((⟨⟨g, y.1.num.a, y.1.num.n, y.1.num.c⟩, y.1.den⟩ : QV), (⟨⟨g, y.2.num.xs⟩, y.2.den⟩ : QD)) :: post) := by
  obtain ⟨cur, hg, hc⟩ := h
  subst hi
  refine ⟨cur.setIfInBounds (pre.length * 4) (.bool g), heap_setCell_same w G (pre.length * 4) cur 32 (.bool g) hg, fun j p hp => ?_⟩
  by_cases e : j = pre.length
  · subst e
    rw [mid_eq] at hp
    obtain rfl := Option.some.inj hp
    have h1 := hc pre.length y mid_eq
    have hs : pre.length * 4 < cur.size := (Array.getElem?_eq_some_iff.1 (h1.1)).1
    refine ⟨?_, ?_, ?_, ?_⟩
    · simp [hs]
    · rw [Array.getElem?_setIfInBounds_ne (by omega)]; exact h1.2.1
    · rw [Array.getElem?_setIfInBounds_ne (by omega)]; exact h1.2.2.1
    · rw [Array.getElem?_setIfInBounds_ne (by omega)]; exact h1.2.2.2
  · rw [mid_ne e (y' := y)] at hp
    have h1 := hc j p hp
    refine ⟨?_, ?_, ?_, ?_⟩
    · rw [Array.getElem?_setIfInBounds_ne (by omega)]; exact h1.1
    · rw [Array.getElem?_setIfInBounds_ne (by omega)]; exact h1.2.1
    · rw [Array.getElem?_setIfInBounds_ne (by omega)]; exact h1.2.2.1
    · rw [Array.getElem?_setIfInBounds_ne (by omega)]; exact h1.2.2.2
theorem RowQ.g2 {w : World} {G i : Nat} {pre post : List (QV × QD)} {y : QV × QD} (g : Bool) (h : RowQ w G (pre ++ y :: post)) (hi : pre.length = i) : RowQ (w.setCell ⟨G, i * 4 + 2, none⟩ (.bool g)) G (pre ++ ((⟨y.1.num, ⟨g, y.1.den.a, y.1.den.n, y.1.den.c⟩⟩ : QV), (⟨y.2.num, ⟨g, y.2.den.xs⟩⟩ : QD)) :: post) := by
  obtain ⟨cur, hg, hc⟩ := h
  subst hi
  refine ⟨cur.setIfInBounds (pre.length * 4 + 2) (.bool g), heap_setCell_same w G (pre.length * 4 + 2) cur 32 (.bool g) hg, fun j p hp => ?_⟩
  by_cases e : j = pre.length
  · subst e
    rw [mid_eq] at hp
    obtain rfl := Option.some.inj hp
    have h1 := hc pre.length y mid_eq
    have hs : pre.length * 4 + 2 < cur.size := (Array.getElem?_eq_some_iff.1 (h1.2.2.1)).1
    refine ⟨?_, ?_, ?_, ?_⟩
    · rw [Array.getElem?_setIfInBounds_ne (by omega)]; exact h1.1
    · rw [Array.getElem?_setIfInBounds_ne (by omega)]; exact h1.2.1
    · simp [hs]
    · rw [Array.getElem?_setIfInBounds_ne (by omega)]; exact h1.2.2.2
  · rw [mid_ne e (y' := y)] at hp
    have h1 := hc j p hp
    refine ⟨?_, ?_, ?_, ?_⟩
    · rw [Array.getElem?_setIfInBounds_ne (by omega)]; exact h1.1
    · rw [Array.getElem?_setIfInBounds_ne (by omega)]; exact h1.2.1
    · rw [Array.getElem?_setIfInBounds_ne (by omega)]; exact h1.2.2.1
    · rw [Array.getElem?_setIfInBounds_ne (by omega)]; exact h1.2.2.2
theorem But.wide {lo hi lo' hi' : Nat} {w w' : World} (h : But lo hi w w') (h1 : lo' ≤ lo) (h2 : hi ≤ hi') : But lo' hi' w w' := ⟨h.os, h.tape, h.output, h.size, fun k hk hd => h.block k hk (by omega)⟩
/-- A slice of fractions that is the call's own: its row and its numbers in blocks from B to below E. -/
structure PRo (B E : Nat) (w : World) (a : Option Addr) (n c : Nat) (l : List (QV × QD)) : Prop where
  len : l.length = n
  sz : 2 * n + lenPQ l ≤ 3200000
  ml : ∀ p ∈ l, p.1.num.n ≤ 1048576 ∧ p.1.den.n ≤ 1048576
  row : n = 0 ∨ ∃ G lo hi, a = some ⟨G, 0, none⟩ ∧ B ≤ G ∧ G < lo ∧ lo ≤ hi ∧ hi ≤ E ∧ RowQ w G l ∧ AllOwn lo hi w (zipPQ l)
theorem PRo.later {B E : Nat} {w w' : World} {a : Option Addr} {n c : Nat} {l : List (QV × QD)} (h : PRo B E w a n c l) (hb : Below w.heap.size w w') : PRo B E w' a n c l := by
  refine ⟨h.len, h.sz, h.ml, ?_⟩
  rcases h.row with e | ⟨G, lo, hi, e, h1, h2, h3, h4, h5, h6⟩
  · exact .inl e
  · exact .inr ⟨G, lo, hi, e, h1, h2, h3, h4, h5.later hb, h6.later hb⟩
theorem PRo.but {B E lo' hi' : Nat} {w w' : World} {a : Option Addr} {n c : Nat} {l : List (QV × QD)} (h : PRo B E w a n c l) (hb : But lo' hi' w w') (hd : E ≤ lo' ∨ hi' ≤ B) : PRo B E w' a n c l := by
  refine ⟨h.len, h.sz, h.ml, ?_⟩
  rcases h.row with e | ⟨G, lo, hi, e, h1, h2, h3, h4, h5, h6⟩
  · exact .inl e
  · exact .inr ⟨G, lo, hi, e, h1, h2, h3, h4, h5.but hb (by omega), h6.but hb (by omega)⟩
theorem PRo.wide {B E B' E' : Nat} {w : World} {a : Option Addr} {n c : Nat} {l : List (QV × QD)} (h : PRo B E w a n c l) (h1 : B' ≤ B) (h2 : E ≤ E') : PRo B' E' w a n c l := by
  refine ⟨h.len, h.sz, h.ml, ?_⟩
  rcases h.row with e | ⟨G, lo, hi, e, k1, k2, k3, k4, k5, k6⟩
  · exact .inl e
  · exact .inr ⟨G, lo, hi, e, by omega, k2, k3, by omega, k5, k6⟩
theorem PRo.sl {B E : Nat} {w : World} {a : Option Addr} {n c : Nat} {l : List (QV × QD)} (h : PRo B E w a n c l) : PSlQ w a l := by
  rcases h.row with e | ⟨G, lo, hi, e, h1, h2, h3, h4, h5, h6⟩
  · have hl : l = [] := List.length_eq_zero_iff.1 (by rw [h.len]; exact e)
    subst hl
    exact ⟨.inl rfl, fun p hp => by cases hp⟩
  · subst e
    refine ⟨.inr ⟨G, 0, rfl, h5.lt, fun i hi => ?_⟩, fun p hp x hx => h6.sl x (zipPQ_mem hp hx)⟩
    have hc := h5.cellsAt (List.getElem?_eq_getElem hi)
    simpa using hc
theorem PRo.max {B E : Nat} {w : World} {a : Option Addr} {n c : Nat} {l : List (QV × QD)} (h : PRo B E w a n c l) : n ≤ maxLen := by
  have := h.sz
  unfold maxLen
  omega
theorem POwQ.ro {lo hi : Nat} {w : World} {G n c : Nat} {l : List (QV × QD)} (h : POwQ lo hi w G n c l) (hG : G < lo) (hl : lo ≤ hi) (sz : 2 * n + lenPQ l ≤ 3200000) (ml : ∀ p ∈ l, p.1.num.n ≤ 1048576 ∧ p.1.den.n ≤ 1048576) : PRo G hi w (some ⟨G, 0, none⟩) n c l := by
  refine ⟨h.len, sz, ml, .inr ⟨G, lo, hi, rfl, Nat.le_refl _, hG, hl, Nat.le_refl _, ?_, h.own⟩⟩
  obtain ⟨M, hr, hM⟩ := h.row
  rcases hr.2 with ⟨h', _⟩ | ⟨g', cap, cur, hv, _, hg, _, _, _, htake⟩
  · simp at h'
  simp only [Value.slice.injEq, Option.some.injEq, Addr.mk.injEq, and_true, true_and] at hv
  obtain ⟨rfl, rfl⟩ := hv
  refine ⟨cur, hg, fun j p hp => ?_⟩
  have hj : j < l.length := (List.getElem?_eq_some_iff.1 hp).1
  have hc := hM j hj
  have e : l[j] = p := by rw [List.getElem?_eq_getElem hj] at hp; exact Option.some.inj hp
  rw [e] at hc
  have hlen := h.len
  have up : ∀ t v, t < n * 4 → M[t]? = some v → cur[t]? = some v := fun t v ht hv => by
    rw [← htake, List.getElem?_take, if_pos ht] at hv
    simpa using hv
  exact ⟨up _ _ (by omega) hc.1, up _ _ (by omega) hc.2.1, up _ _ (by omega) hc.2.2.1, up _ _ (by omega) hc.2.2.2⟩
end Go.Proofs.YtcbmecnipldcfaaGreat
