/- SimplestIn: the program's and the specification's, at every two fractions. No condition beyond those typed. Written by mksimp2.py. -/
import Derived.Test.YtlmeokeanihhoaaFlatQ
import Derived.Test.YtlmeokeanihhoaaRatF
import Derived.Test.YtlmeokeanihhoaaVarB
import Derived.Test.YtlmeokeanihhoaaSubI
namespace Go.Proofs.Ytlmeokeanihhoaa
open Go.RowKit
set_option linter.unusedVariables false
set_option maxRecDepth 100000
set_option linter.unusedSimpArgs false

theorem AllSl.Sl {w : World} {v : SV} {d : SD} (h : AllSl w [(v.lo.num, d.lo.num), (v.lo.den, d.lo.den), (v.hi.num, d.hi.num), (v.hi.den, d.hi.den)]) : AllSl w [(v.lo.num, d.lo.num), (v.lo.den, d.lo.den)] := fun p hp => h p (show p ∈ [(v.lo.num, d.lo.num), (v.lo.den, d.lo.den), (v.hi.num, d.hi.num), (v.hi.den, d.hi.den)] from (List.mem_append_left [(v.hi.num, d.hi.num), (v.hi.den, d.hi.den)] hp : p ∈ [(v.lo.num, d.lo.num), (v.lo.den, d.lo.den)] ++ [(v.hi.num, d.hi.num), (v.hi.den, d.hi.den)]))
theorem AllSl.Sr {w : World} {v : SV} {d : SD} (h : AllSl w [(v.lo.num, d.lo.num), (v.lo.den, d.lo.den), (v.hi.num, d.hi.num), (v.hi.den, d.hi.den)]) : AllSl w [(v.hi.num, d.hi.num), (v.hi.den, d.hi.den)] := fun p hp => h p (show p ∈ [(v.lo.num, d.lo.num), (v.lo.den, d.lo.den), (v.hi.num, d.hi.num), (v.hi.den, d.hi.den)] from (List.mem_append_right [(v.lo.num, d.lo.num), (v.lo.den, d.lo.den)] hp : p ∈ [(v.lo.num, d.lo.num), (v.lo.den, d.lo.den)] ++ [(v.hi.num, d.hi.num), (v.hi.den, d.hi.den)]))
theorem AllAr.Sl {w : World} {v : SV} {d : SD} (h : AllAr w [(v.lo.num, d.lo.num), (v.lo.den, d.lo.den), (v.hi.num, d.hi.num), (v.hi.den, d.hi.den)]) : AllAr w [(v.lo.num, d.lo.num), (v.lo.den, d.lo.den)] := fun p hp => h p (show p ∈ [(v.lo.num, d.lo.num), (v.lo.den, d.lo.den), (v.hi.num, d.hi.num), (v.hi.den, d.hi.den)] from (List.mem_append_left [(v.hi.num, d.hi.num), (v.hi.den, d.hi.den)] hp : p ∈ [(v.lo.num, d.lo.num), (v.lo.den, d.lo.den)] ++ [(v.hi.num, d.hi.num), (v.hi.den, d.hi.den)]))
theorem AllAr.Sr {w : World} {v : SV} {d : SD} (h : AllAr w [(v.lo.num, d.lo.num), (v.lo.den, d.lo.den), (v.hi.num, d.hi.num), (v.hi.den, d.hi.den)]) : AllAr w [(v.hi.num, d.hi.num), (v.hi.den, d.hi.den)] := fun p hp => h p (show p ∈ [(v.lo.num, d.lo.num), (v.lo.den, d.lo.den), (v.hi.num, d.hi.num), (v.hi.den, d.hi.den)] from (List.mem_append_right [(v.lo.num, d.lo.num), (v.lo.den, d.lo.den)] hp : p ∈ [(v.lo.num, d.lo.num), (v.lo.den, d.lo.den)] ++ [(v.hi.num, d.hi.num), (v.hi.den, d.hi.den)]))

end Go.Proofs.Ytlmeokeanihhoaa
namespace Go.Proofs.Ytlmeokeanihhoaa
open Go.RowKit
set_option linter.unusedVariables false
set_option maxRecDepth 100000
set_option linter.unusedSimpArgs false

/-- -1, 0 or 1. -/
def cmpZ (A B : Int) : Int := if A < B then -1 else if B < A then 1 else 0
theorem cmpTop_range (xs ys : List Int) (k : Nat) : cmpTop xs ys k = -1 ∨ cmpTop xs ys k = 0 ∨ cmpTop xs ys k = 1 := by
  induction k with
  | zero => right; left; rfl
  | succ k ih =>
    unfold cmpTop
    split
    · left; rfl
    · split
      · right; right; rfl
      · exact ih
theorem cmpL_range (xs ys : List Int) : cmpL xs ys = -1 ∨ cmpL xs ys = 0 ∨ cmpL xs ys = 1 := by
  unfold cmpL
  split
  · left; rfl
  · split
    · right; right; rfl
    · exact cmpTop_range _ _ _
theorem cmpB_val {A B : Int} {ts us : List Int} (h : Nm ts A.natAbs) (k : Nm us B.natAbs) : cmpB (decide (A < 0)) ts (decide (B < 0)) us = cmpZ A B := by
  have h1 := cmpL_val h.ok k.ok h.tr k.tr
  have h2 := cmpL_val k.ok h.ok k.tr h.tr
  have r1 := cmpL_range ts us
  have r2 := cmpL_range us ts
  rw [h.v, k.v] at h1 h2
  unfold cmpB cmpZ
  by_cases a : A < 0 <;> by_cases b : B < 0
  · rw [decide_eq_true a, decide_eq_true b, if_pos rfl, if_pos rfl]
    split
    · omega
    · split <;> omega
  · rw [decide_eq_true a, decide_eq_false b, if_neg (by simp), if_pos rfl, if_pos (by omega)]
  · rw [decide_eq_false a, decide_eq_true b, if_neg (by simp), if_neg (by simp), if_neg (by omega), if_pos (by omega)]
  · rw [decide_eq_false a, decide_eq_false b, if_pos rfl, if_neg (by simp)]
    split
    · omega
    · split <;> omega
theorem cmpI_v (b b' : BV) (V V' : Int) (w : World) (h : IsB w b V) (h' : IsB w b' V') :
    Calls Try.prog 200 #[.agg #[.bool b.g, .slice b.a b.n b.c], .agg #[.bool b'.g, .slice b'.a b'.n b'.c]] w fun e w' => e = .returned (.int .i64 (cmpZ V V')) ∧ Below w.heap.size w w' := by
  obtain ⟨xs, h1, n1⟩ := h
  obtain ⟨ys, h2, n2⟩ := h'
  refine (cmpBI_any b.g b'.g b.a b'.a b.n b'.n b.c b'.c xs ys w h1.ar.sl h2.ar.sl h1.ar.len h2.ar.len (Nat.le_trans h1.ar.cap h1.ar.top) (Nat.le_trans h2.ar.cap h2.ar.top)).mono ?_
  rintro e w' ⟨rfl, hb⟩
  exact ⟨by rw [h1.sg, h2.sg, cmpB_val n1 n2], hb⟩
theorem cmpS_v (b b' : BV) (V V' : Int) (w : World) (h : IsB w b V) (h' : IsB w b' V') :
    Calls Try.prog 152 #[.agg #[.bool b.g, .slice b.a b.n b.c], .agg #[.bool b'.g, .slice b'.a b'.n b'.c]] w fun e w' => e = .returned (.int .i64 (cmpZ V V')) ∧ Below w.heap.size w w' := by
  obtain ⟨xs, h1, n1⟩ := h
  obtain ⟨ys, h2, n2⟩ := h'
  refine (cmpBS_any b.g b'.g b.a b'.a b.n b'.n b.c b'.c xs ys w h1.ar.sl h2.ar.sl h1.ar.len h2.ar.len (Nat.le_trans h1.ar.cap h1.ar.top) (Nat.le_trans h2.ar.cap h2.ar.top)).mono ?_
  rintro e w' ⟨rfl, hb⟩
  exact ⟨by rw [h1.sg, h2.sg, cmpB_val n1 n2], hb⟩

set_option maxHeartbeats 4000000 in
theorem cmpQI (q q' : QV) (N D N' D' : Int) (w : World) (h : IsQ w q N D) (h' : IsQ w q' N' D') (k1 : Bd N 200000) (k2 : Bd D 200000) (k3 : Bd N' 200000) (k4 : Bd D' 200000) :
    Calls Try.prog 158 #[.agg #[.bool q.num.g, .slice q.num.a q.num.n q.num.c, .bool q.den.g, .slice q.den.a q.den.n q.den.c], .agg #[.bool q'.num.g, .slice q'.num.a q'.num.n q'.num.c, .bool q'.den.g, .slice q'.den.a q'.den.n q'.den.c]] w fun e w' => e = .returned (.int .i64 (cmpZ (N * D') (N' * D))) ∧ Below w.heap.size w w' := by
  have H1 := hide h
  have H2 := hide h'
  have K1 := hide (k1.mono (show 200000 ≤ 400000 by omega))
  have K2 := hide (k2.mono (show 200000 ≤ 400000 by omega))
  have K3 := hide (k3.mono (show 200000 ≤ 400000 by omega))
  have K4 := hide (k4.mono (show 200000 ≤ 400000 by omega))
  clear h h' k1 k2 k3 k4
  go_enter Try.func158, Try.ntmps158
  go_upto_region 1 with fail
  have hb : Below w.heap.size w ((w.alloc (.cells #[.bool q.num.g, .slice q.num.a q.num.n q.num.c, .bool q.den.g, .slice q.den.a q.den.n q.den.c] 30)).alloc (.cells #[.bool q'.num.g, .slice q'.num.a q'.num.n q'.num.c, .bool q'.den.g, .slice q'.den.a q'.den.n q'.den.c] 30)) := (((Below.refl _ _).alloc (by simp) _).alloc (by simp) _)
  have k0_0 : ((w.alloc (.cells #[.bool q.num.g, .slice q.num.a q.num.n q.num.c, .bool q.den.g, .slice q.den.a q.den.n q.den.c] 30)).alloc (.cells #[.bool q'.num.g, .slice q'.num.a q'.num.n q'.num.c, .bool q'.den.g, .slice q'.den.a q'.den.n q'.den.c] 30)).cell? ⟨w.heap.size, 0, none⟩ = some (.bool q.num.g) := by simp [go_sem]
  have k0_1 : ((w.alloc (.cells #[.bool q.num.g, .slice q.num.a q.num.n q.num.c, .bool q.den.g, .slice q.den.a q.den.n q.den.c] 30)).alloc (.cells #[.bool q'.num.g, .slice q'.num.a q'.num.n q'.num.c, .bool q'.den.g, .slice q'.den.a q'.den.n q'.den.c] 30)).cell? ⟨w.heap.size, 1, none⟩ = some (.slice q.num.a q.num.n q.num.c) := by simp [go_sem]
  have k0_2 : ((w.alloc (.cells #[.bool q.num.g, .slice q.num.a q.num.n q.num.c, .bool q.den.g, .slice q.den.a q.den.n q.den.c] 30)).alloc (.cells #[.bool q'.num.g, .slice q'.num.a q'.num.n q'.num.c, .bool q'.den.g, .slice q'.den.a q'.den.n q'.den.c] 30)).cell? ⟨w.heap.size, 2, none⟩ = some (.bool q.den.g) := by simp [go_sem]
  have k0_3 : ((w.alloc (.cells #[.bool q.num.g, .slice q.num.a q.num.n q.num.c, .bool q.den.g, .slice q.den.a q.den.n q.den.c] 30)).alloc (.cells #[.bool q'.num.g, .slice q'.num.a q'.num.n q'.num.c, .bool q'.den.g, .slice q'.den.a q'.den.n q'.den.c] 30)).cell? ⟨w.heap.size, 3, none⟩ = some (.slice q.den.a q.den.n q.den.c) := by simp [go_sem]
  have k1_0 : ((w.alloc (.cells #[.bool q.num.g, .slice q.num.a q.num.n q.num.c, .bool q.den.g, .slice q.den.a q.den.n q.den.c] 30)).alloc (.cells #[.bool q'.num.g, .slice q'.num.a q'.num.n q'.num.c, .bool q'.den.g, .slice q'.den.a q'.den.n q'.den.c] 30)).cell? ⟨w.heap.size + 1, 0, none⟩ = some (.bool q'.num.g) := by simp [go_sem]
  have k1_1 : ((w.alloc (.cells #[.bool q.num.g, .slice q.num.a q.num.n q.num.c, .bool q.den.g, .slice q.den.a q.den.n q.den.c] 30)).alloc (.cells #[.bool q'.num.g, .slice q'.num.a q'.num.n q'.num.c, .bool q'.den.g, .slice q'.den.a q'.den.n q'.den.c] 30)).cell? ⟨w.heap.size + 1, 1, none⟩ = some (.slice q'.num.a q'.num.n q'.num.c) := by simp [go_sem]
  have k1_2 : ((w.alloc (.cells #[.bool q.num.g, .slice q.num.a q.num.n q.num.c, .bool q.den.g, .slice q.den.a q.den.n q.den.c] 30)).alloc (.cells #[.bool q'.num.g, .slice q'.num.a q'.num.n q'.num.c, .bool q'.den.g, .slice q'.den.a q'.den.n q'.den.c] 30)).cell? ⟨w.heap.size + 1, 2, none⟩ = some (.bool q'.den.g) := by simp [go_sem]
  have k1_3 : ((w.alloc (.cells #[.bool q.num.g, .slice q.num.a q.num.n q.num.c, .bool q.den.g, .slice q.den.a q.den.n q.den.c] 30)).alloc (.cells #[.bool q'.num.g, .slice q'.num.a q'.num.n q'.num.c, .bool q'.den.g, .slice q'.den.a q'.den.n q'.den.c] 30)).cell? ⟨w.heap.size + 1, 3, none⟩ = some (.slice q'.den.a q'.den.n q'.den.c) := by simp [go_sem]
  have Q1 := hide ((unhide H1).later hb)
  have Q2 := hide ((unhide H2).later hb)
  have szw0 : w.heap.size + 2 ≤ ((w.alloc (.cells #[.bool q.num.g, .slice q.num.a q.num.n q.num.c, .bool q.den.g, .slice q.den.a q.den.n q.den.c] 30)).alloc (.cells #[.bool q'.num.g, .slice q'.num.a q'.num.n q'.num.c, .bool q'.den.g, .slice q'.den.a q'.den.n q'.den.c] 30)).heap.size := by simp
  have HB := hide hb
  clear hb
  generalize ((w.alloc (.cells #[.bool q.num.g, .slice q.num.a q.num.n q.num.c, .bool q.den.g, .slice q.den.a q.den.n q.den.c] 30)).alloc (.cells #[.bool q'.num.g, .slice q'.num.a q'.num.n q'.num.c, .bool q'.den.g, .slice q'.den.a q'.den.n q'.den.c] 30)) = w0 at *
  go_region_held3 (fun w' => w'.cell? ⟨w.heap.size, 0, none⟩ = some (.bool q.num.g) ∧ w'.cell? ⟨w.heap.size, 1, none⟩ = some (.slice q.num.a q.num.n q.num.c) ∧ w'.cell? ⟨w.heap.size, 2, none⟩ = some (.bool q.den.g) ∧ w'.cell? ⟨w.heap.size, 3, none⟩ = some (.slice q.den.a q.den.n q.den.c) ∧ w'.cell? ⟨w.heap.size + 1, 0, none⟩ = some (.bool q'.num.g) ∧ w'.cell? ⟨w.heap.size + 1, 1, none⟩ = some (.slice q'.num.a q'.num.n q'.num.c) ∧ w'.cell? ⟨w.heap.size + 1, 2, none⟩ = some (.bool q'.den.g) ∧ w'.cell? ⟨w.heap.size + 1, 3, none⟩ = some (.slice q'.den.a q'.den.n q'.den.c)) (with_reducible (first | exact ⟨k0_0, k0_1, k0_2, k0_3, k1_0, k1_1, k1_2, k1_3⟩ | exact ⟨cd_other k0_0, cd_other k0_1, cd_other k0_2, cd_other k0_3, cd_other k1_0, cd_other k1_1, cd_other k1_2, cd_other k1_3⟩ | fail))
    (first
    | (go_at_call_of 147 (Value.agg #[Value.bool q.num.g, Value.slice q.num.a q.num.n q.num.c]); refine (mulI_v q.num q'.den N D' _ ?_ ?_ (unhide K1) (unhide K4)).mono ?_; exact (unhide Q1).1.later (Below.refl _ _).drew; exact (unhide Q2).2.later (Below.refl _ _).drew; rintro e w1 ⟨x1, lx1, rfl, hb, ox1, ax1, nx1⟩; have hbx : Below w0.heap.size w0 w1 := below_of_drew hb; have szw1 := hbx.size; replace k0_0 := cell_later hbx k0_0; replace k0_1 := cell_later hbx k0_1; replace k0_2 := cell_later hbx k0_2; replace k0_3 := cell_later hbx k0_3; replace k1_0 := cell_later hbx k1_0; replace k1_1 := cell_later hbx k1_1; replace k1_2 := cell_later hbx k1_2; replace k1_3 := cell_later hbx k1_3; replace Q1 := hide ((unhide Q1).later hbx); replace Q2 := hide ((unhide Q2).later hbx); have Px1 := hide (outN_ow ox1 ax1 nx1); have HBr := hide hbx; clear hbx hb ox1 ax1 nx1)
    | (go_at_call_of 147 (Value.agg #[Value.bool q'.num.g, Value.slice q'.num.a q'.num.n q'.num.c]); refine (mulI_v q'.num q.den N' D _ ?_ ?_ (unhide K3) (unhide K2)).mono ?_; exact (unhide Q2).1.later (Below.refl _ _); exact (unhide Q1).2.later (Below.refl _ _); rintro e w2 ⟨x2, lx2, rfl, hb, ox2, ax2, nx2⟩; have hbx : Below w1.heap.size w1 w2 := hb; have szw2 := hbx.size; replace k0_0 := cell_later hbx k0_0; replace k0_1 := cell_later hbx k0_1; replace k0_2 := cell_later hbx k0_2; replace k0_3 := cell_later hbx k0_3; replace k1_0 := cell_later hbx k1_0; replace k1_1 := cell_later hbx k1_1; replace k1_2 := cell_later hbx k1_2; replace k1_3 := cell_later hbx k1_3; replace Q1 := hide ((unhide Q1).later hbx); replace Q2 := hide ((unhide Q2).later hbx); replace Px1 := hide ((unhide Px1).later hbx); have Px2 := hide (outN_ow ox2 ax2 nx2); have HBr := hide (below_on (unhide HBr) hbx); clear hbx hb ox2 ax2 nx2)
    | (go_at_call 200; refine (cmpI_v x1 x2 (N * D') (N' * D) _ ?_ ?_).mono ?_; exact (unhide Px1).is.later (Below.refl _ _); exact (unhide Px2).is.later (Below.refl _ _); rintro e w3 ⟨rfl, hb⟩; have hbx : Below w2.heap.size w2 w3 := hb; have szw3 := hbx.size; replace k0_0 := cell_later hbx k0_0; replace k0_1 := cell_later hbx k0_1; replace k0_2 := cell_later hbx k0_2; replace k0_3 := cell_later hbx k0_3; replace k1_0 := cell_later hbx k1_0; replace k1_1 := cell_later hbx k1_1; replace k1_2 := cell_later hbx k1_2; replace k1_3 := cell_later hbx k1_3; replace Q1 := hide ((unhide Q1).later hbx); replace Q2 := hide ((unhide Q2).later hbx); replace Px1 := hide ((unhide Px1).later hbx); replace Px2 := hide ((unhide Px2).later hbx); have HBr := hide (below_on (unhide HBr) hbx); clear hbx hb))
  replace HB := hide (below_on (unhide HB) (unhide HBr))
  clear HBr
  go_wp2
  go_ret
  exact ⟨rfl, unhide HB⟩

set_option maxHeartbeats 4000000 in
theorem cmpQS (q q' : QV) (N D N' D' : Int) (w : World) (h : IsQ w q N D) (h' : IsQ w q' N' D') (k1 : Bd N 200000) (k2 : Bd D 200000) (k3 : Bd N' 200000) (k4 : Bd D' 200000) :
    Calls Try.prog 92 #[.agg #[.bool q.num.g, .slice q.num.a q.num.n q.num.c, .bool q.den.g, .slice q.den.a q.den.n q.den.c], .agg #[.bool q'.num.g, .slice q'.num.a q'.num.n q'.num.c, .bool q'.den.g, .slice q'.den.a q'.den.n q'.den.c]] w fun e w' => e = .returned (.int .i64 (cmpZ (N * D') (N' * D))) ∧ Below w.heap.size w w' := by
  have H1 := hide h
  have H2 := hide h'
  have K1 := hide (k1.mono (show 200000 ≤ 400000 by omega))
  have K2 := hide (k2.mono (show 200000 ≤ 400000 by omega))
  have K3 := hide (k3.mono (show 200000 ≤ 400000 by omega))
  have K4 := hide (k4.mono (show 200000 ≤ 400000 by omega))
  clear h h' k1 k2 k3 k4
  go_enter Try.func92, Try.ntmps92
  go_upto_region 1 with fail
  have hb : Below w.heap.size w ((w.alloc (.cells #[.bool q.num.g, .slice q.num.a q.num.n q.num.c, .bool q.den.g, .slice q.den.a q.den.n q.den.c] 30)).alloc (.cells #[.bool q'.num.g, .slice q'.num.a q'.num.n q'.num.c, .bool q'.den.g, .slice q'.den.a q'.den.n q'.den.c] 30)) := (((Below.refl _ _).alloc (by simp) _).alloc (by simp) _)
  have k0_0 : ((w.alloc (.cells #[.bool q.num.g, .slice q.num.a q.num.n q.num.c, .bool q.den.g, .slice q.den.a q.den.n q.den.c] 30)).alloc (.cells #[.bool q'.num.g, .slice q'.num.a q'.num.n q'.num.c, .bool q'.den.g, .slice q'.den.a q'.den.n q'.den.c] 30)).cell? ⟨w.heap.size, 0, none⟩ = some (.bool q.num.g) := by simp [go_sem]
  have k0_1 : ((w.alloc (.cells #[.bool q.num.g, .slice q.num.a q.num.n q.num.c, .bool q.den.g, .slice q.den.a q.den.n q.den.c] 30)).alloc (.cells #[.bool q'.num.g, .slice q'.num.a q'.num.n q'.num.c, .bool q'.den.g, .slice q'.den.a q'.den.n q'.den.c] 30)).cell? ⟨w.heap.size, 1, none⟩ = some (.slice q.num.a q.num.n q.num.c) := by simp [go_sem]
  have k0_2 : ((w.alloc (.cells #[.bool q.num.g, .slice q.num.a q.num.n q.num.c, .bool q.den.g, .slice q.den.a q.den.n q.den.c] 30)).alloc (.cells #[.bool q'.num.g, .slice q'.num.a q'.num.n q'.num.c, .bool q'.den.g, .slice q'.den.a q'.den.n q'.den.c] 30)).cell? ⟨w.heap.size, 2, none⟩ = some (.bool q.den.g) := by simp [go_sem]
  have k0_3 : ((w.alloc (.cells #[.bool q.num.g, .slice q.num.a q.num.n q.num.c, .bool q.den.g, .slice q.den.a q.den.n q.den.c] 30)).alloc (.cells #[.bool q'.num.g, .slice q'.num.a q'.num.n q'.num.c, .bool q'.den.g, .slice q'.den.a q'.den.n q'.den.c] 30)).cell? ⟨w.heap.size, 3, none⟩ = some (.slice q.den.a q.den.n q.den.c) := by simp [go_sem]
  have k1_0 : ((w.alloc (.cells #[.bool q.num.g, .slice q.num.a q.num.n q.num.c, .bool q.den.g, .slice q.den.a q.den.n q.den.c] 30)).alloc (.cells #[.bool q'.num.g, .slice q'.num.a q'.num.n q'.num.c, .bool q'.den.g, .slice q'.den.a q'.den.n q'.den.c] 30)).cell? ⟨w.heap.size + 1, 0, none⟩ = some (.bool q'.num.g) := by simp [go_sem]
  have k1_1 : ((w.alloc (.cells #[.bool q.num.g, .slice q.num.a q.num.n q.num.c, .bool q.den.g, .slice q.den.a q.den.n q.den.c] 30)).alloc (.cells #[.bool q'.num.g, .slice q'.num.a q'.num.n q'.num.c, .bool q'.den.g, .slice q'.den.a q'.den.n q'.den.c] 30)).cell? ⟨w.heap.size + 1, 1, none⟩ = some (.slice q'.num.a q'.num.n q'.num.c) := by simp [go_sem]
  have k1_2 : ((w.alloc (.cells #[.bool q.num.g, .slice q.num.a q.num.n q.num.c, .bool q.den.g, .slice q.den.a q.den.n q.den.c] 30)).alloc (.cells #[.bool q'.num.g, .slice q'.num.a q'.num.n q'.num.c, .bool q'.den.g, .slice q'.den.a q'.den.n q'.den.c] 30)).cell? ⟨w.heap.size + 1, 2, none⟩ = some (.bool q'.den.g) := by simp [go_sem]
  have k1_3 : ((w.alloc (.cells #[.bool q.num.g, .slice q.num.a q.num.n q.num.c, .bool q.den.g, .slice q.den.a q.den.n q.den.c] 30)).alloc (.cells #[.bool q'.num.g, .slice q'.num.a q'.num.n q'.num.c, .bool q'.den.g, .slice q'.den.a q'.den.n q'.den.c] 30)).cell? ⟨w.heap.size + 1, 3, none⟩ = some (.slice q'.den.a q'.den.n q'.den.c) := by simp [go_sem]
  have Q1 := hide ((unhide H1).later hb)
  have Q2 := hide ((unhide H2).later hb)
  have szw0 : w.heap.size + 2 ≤ ((w.alloc (.cells #[.bool q.num.g, .slice q.num.a q.num.n q.num.c, .bool q.den.g, .slice q.den.a q.den.n q.den.c] 30)).alloc (.cells #[.bool q'.num.g, .slice q'.num.a q'.num.n q'.num.c, .bool q'.den.g, .slice q'.den.a q'.den.n q'.den.c] 30)).heap.size := by simp
  have HB := hide hb
  clear hb
  generalize ((w.alloc (.cells #[.bool q.num.g, .slice q.num.a q.num.n q.num.c, .bool q.den.g, .slice q.den.a q.den.n q.den.c] 30)).alloc (.cells #[.bool q'.num.g, .slice q'.num.a q'.num.n q'.num.c, .bool q'.den.g, .slice q'.den.a q'.den.n q'.den.c] 30)) = w0 at *
  go_region_held3 (fun w' => w'.cell? ⟨w.heap.size, 0, none⟩ = some (.bool q.num.g) ∧ w'.cell? ⟨w.heap.size, 1, none⟩ = some (.slice q.num.a q.num.n q.num.c) ∧ w'.cell? ⟨w.heap.size, 2, none⟩ = some (.bool q.den.g) ∧ w'.cell? ⟨w.heap.size, 3, none⟩ = some (.slice q.den.a q.den.n q.den.c) ∧ w'.cell? ⟨w.heap.size + 1, 0, none⟩ = some (.bool q'.num.g) ∧ w'.cell? ⟨w.heap.size + 1, 1, none⟩ = some (.slice q'.num.a q'.num.n q'.num.c) ∧ w'.cell? ⟨w.heap.size + 1, 2, none⟩ = some (.bool q'.den.g) ∧ w'.cell? ⟨w.heap.size + 1, 3, none⟩ = some (.slice q'.den.a q'.den.n q'.den.c)) (with_reducible (first | exact ⟨k0_0, k0_1, k0_2, k0_3, k1_0, k1_1, k1_2, k1_3⟩ | exact ⟨cd_other k0_0, cd_other k0_1, cd_other k0_2, cd_other k0_3, cd_other k1_0, cd_other k1_1, cd_other k1_2, cd_other k1_3⟩ | fail))
    (first
    | (go_at_call_of 144 (Value.agg #[Value.bool q.num.g, Value.slice q.num.a q.num.n q.num.c]); refine (mulS_v q.num q'.den N D' _ ?_ ?_ (unhide K1) (unhide K4)).mono ?_; exact (unhide Q1).1.later (Below.refl _ _).drew; exact (unhide Q2).2.later (Below.refl _ _).drew; rintro e w1 ⟨x1, lx1, rfl, hb, ox1, ax1, nx1⟩; have hbx : Below w0.heap.size w0 w1 := below_of_drew hb; have szw1 := hbx.size; replace k0_0 := cell_later hbx k0_0; replace k0_1 := cell_later hbx k0_1; replace k0_2 := cell_later hbx k0_2; replace k0_3 := cell_later hbx k0_3; replace k1_0 := cell_later hbx k1_0; replace k1_1 := cell_later hbx k1_1; replace k1_2 := cell_later hbx k1_2; replace k1_3 := cell_later hbx k1_3; replace Q1 := hide ((unhide Q1).later hbx); replace Q2 := hide ((unhide Q2).later hbx); have Px1 := hide (outN_ow ox1 ax1 nx1); have HBr := hide hbx; clear hbx hb ox1 ax1 nx1)
    | (go_at_call_of 144 (Value.agg #[Value.bool q'.num.g, Value.slice q'.num.a q'.num.n q'.num.c]); refine (mulS_v q'.num q.den N' D _ ?_ ?_ (unhide K3) (unhide K2)).mono ?_; exact (unhide Q2).1.later (Below.refl _ _); exact (unhide Q1).2.later (Below.refl _ _); rintro e w2 ⟨x2, lx2, rfl, hb, ox2, ax2, nx2⟩; have hbx : Below w1.heap.size w1 w2 := hb; have szw2 := hbx.size; replace k0_0 := cell_later hbx k0_0; replace k0_1 := cell_later hbx k0_1; replace k0_2 := cell_later hbx k0_2; replace k0_3 := cell_later hbx k0_3; replace k1_0 := cell_later hbx k1_0; replace k1_1 := cell_later hbx k1_1; replace k1_2 := cell_later hbx k1_2; replace k1_3 := cell_later hbx k1_3; replace Q1 := hide ((unhide Q1).later hbx); replace Q2 := hide ((unhide Q2).later hbx); replace Px1 := hide ((unhide Px1).later hbx); have Px2 := hide (outN_ow ox2 ax2 nx2); have HBr := hide (below_on (unhide HBr) hbx); clear hbx hb ox2 ax2 nx2)
    | (go_at_call 152; refine (cmpS_v x1 x2 (N * D') (N' * D) _ ?_ ?_).mono ?_; exact (unhide Px1).is.later (Below.refl _ _); exact (unhide Px2).is.later (Below.refl _ _); rintro e w3 ⟨rfl, hb⟩; have hbx : Below w2.heap.size w2 w3 := hb; have szw3 := hbx.size; replace k0_0 := cell_later hbx k0_0; replace k0_1 := cell_later hbx k0_1; replace k0_2 := cell_later hbx k0_2; replace k0_3 := cell_later hbx k0_3; replace k1_0 := cell_later hbx k1_0; replace k1_1 := cell_later hbx k1_1; replace k1_2 := cell_later hbx k1_2; replace k1_3 := cell_later hbx k1_3; replace Q1 := hide ((unhide Q1).later hbx); replace Q2 := hide ((unhide Q2).later hbx); replace Px1 := hide ((unhide Px1).later hbx); replace Px2 := hide ((unhide Px2).later hbx); have HBr := hide (below_on (unhide HBr) hbx); clear hbx hb))
  replace HB := hide (below_on (unhide HB) (unhide HBr))
  clear HBr
  go_wp2
  go_ret
  exact ⟨rfl, unhide HB⟩

theorem cmpZ_le (A B : Int) : decide (cmpZ A B ≤ 0) = decide (A ≤ B) := by
  unfold cmpZ
  split
  · exact decide_eq_decide.2 (by omega)
  · split <;> exact decide_eq_decide.2 (by omega)
theorem AllAr.lo {w : World} {v : SV} {d : SD} (h : AllAr w [(v.lo.num, d.lo.num), (v.lo.den, d.lo.den), (v.hi.num, d.hi.num), (v.hi.den, d.hi.den)]) : AllAr w [(v.lo.num, d.lo.num), (v.lo.den, d.lo.den)] := h.Sl
theorem AllAr.hi {w : World} {v : SV} {d : SD} (h : AllAr w [(v.lo.num, d.lo.num), (v.lo.den, d.lo.den), (v.hi.num, d.hi.num), (v.hi.den, d.hi.den)]) : AllAr w [(v.hi.num, d.hi.num), (v.hi.den, d.hi.den)] := h.Sr

structure IsGoodS (w : World) (v : SV) (d : SD) : Prop where
  lo : IsGood w v.lo d.lo
  hi : IsGood w v.hi d.hi
  le : nQ d.lo * dQ d.hi ≤ nQ d.hi * dQ d.lo
theorem IsGoodS.later {w w' : World} {v : SV} {d : SD} (h : IsGoodS w v d) (hb : Below w.heap.size w w') : IsGoodS w' v d := ⟨h.lo.later hb, h.hi.later hb, h.le⟩

end Go.Proofs.Ytlmeokeanihhoaa
namespace Go.Proofs.Ytlmeokeanihhoaa
open Go.RowKit
set_option linter.unusedVariables false
set_option maxRecDepth 100000
set_option linter.unusedSimpArgs false

/-- A variable of the law's own: its box at block G, what it leads to at blocks from lo to below hi. -/
structure VarS (wx : World) (G lo hi : Nat) (v : SV) (d : SD) : Prop where
  c0 : wx.cell? ⟨G, 0, none⟩ = some (.bool v.lo.num.g)
  c1 : wx.cell? ⟨G, 1, none⟩ = some (.slice v.lo.num.a v.lo.num.n v.lo.num.c)
  c2 : wx.cell? ⟨G, 2, none⟩ = some (.bool v.lo.den.g)
  c3 : wx.cell? ⟨G, 3, none⟩ = some (.slice v.lo.den.a v.lo.den.n v.lo.den.c)
  c4 : wx.cell? ⟨G, 4, none⟩ = some (.bool v.hi.num.g)
  c5 : wx.cell? ⟨G, 5, none⟩ = some (.slice v.hi.num.a v.hi.num.n v.hi.num.c)
  c6 : wx.cell? ⟨G, 6, none⟩ = some (.bool v.hi.den.g)
  c7 : wx.cell? ⟨G, 7, none⟩ = some (.slice v.hi.den.a v.hi.den.n v.hi.den.c)
  own : AllOwn lo hi wx [(v.lo.num, d.lo.num), (v.lo.den, d.lo.den), (v.hi.num, d.hi.num), (v.hi.den, d.hi.den)]
theorem VarS.later {wx wy : World} {G lo hi : Nat} {v : SV} {d : SD} (h : VarS wx G lo hi v d) (hb : Below wx.heap.size wx wy) : VarS wy G lo hi v d :=
  ⟨cell_later hb h.c0, cell_later hb h.c1, cell_later hb h.c2, cell_later hb h.c3, cell_later hb h.c4, cell_later hb h.c5, cell_later hb h.c6, cell_later hb h.c7, h.own.later hb⟩
theorem VarS.but {wx wy : World} {G lo hi lo' hi' : Nat} {v : SV} {d : SD} (h : VarS wx G lo hi v d) (hb : But lo' hi' wx wy) (hG : G < lo' ∨ hi' ≤ G) (hd : hi ≤ lo' ∨ hi' ≤ lo) : VarS wy G lo hi v d :=
  ⟨hb.cell h.c0 hG, hb.cell h.c1 hG, hb.cell h.c2 hG, hb.cell h.c3 hG, hb.cell h.c4 hG, hb.cell h.c5 hG, hb.cell h.c6 hG, hb.cell h.c7 hG, h.own.but hb hd⟩
theorem VarS.mark {wx wy : World} {G lo hi : Nat} {v : SV} {d d' : SD} (h : VarS wx G lo hi v d) (hb : But lo hi wx wy) (hG : G < lo ∨ hi ≤ G) (ho : AllOwn lo hi wy [(v.lo.num, d'.lo.num), (v.lo.den, d'.lo.den), (v.hi.num, d'.hi.num), (v.hi.den, d'.hi.den)]) : VarS wy G lo hi v d' :=
  ⟨hb.cell h.c0 hG, hb.cell h.c1 hG, hb.cell h.c2 hG, hb.cell h.c3 hG, hb.cell h.c4 hG, hb.cell h.c5 hG, hb.cell h.c6 hG, hb.cell h.c7 hG, ho⟩
theorem VarS.low {wx : World} {G lo hi lo' : Nat} {v : SV} {d : SD} (h : VarS wx G lo hi v d) (hl : lo' ≤ lo) : VarS wx G lo' hi v d := ⟨h.c0, h.c1, h.c2, h.c3, h.c4, h.c5, h.c6, h.c7, h.own.wide hl (Nat.le_refl _)⟩
theorem VarS.start {wx : World} {lo : Nat} {v : SV} {d : SD} (t : TypeId) (h : AllOwn lo wx.heap.size wx [(v.lo.num, d.lo.num), (v.lo.den, d.lo.den), (v.hi.num, d.hi.num), (v.hi.den, d.hi.den)]) : VarS (wx.alloc (.cells #[.bool v.lo.num.g, .slice v.lo.num.a v.lo.num.n v.lo.num.c, .bool v.lo.den.g, .slice v.lo.den.a v.lo.den.n v.lo.den.c, .bool v.hi.num.g, .slice v.hi.num.a v.hi.num.n v.hi.num.c, .bool v.hi.den.g, .slice v.hi.den.a v.hi.den.n v.hi.den.c] t)) wx.heap.size lo wx.heap.size v d :=
  ⟨by simp [go_sem], by simp [go_sem], by simp [go_sem], by simp [go_sem], by simp [go_sem], by simp [go_sem], by simp [go_sem], by simp [go_sem], h.later ((Below.refl _ _).alloc (Nat.le_refl _) _)⟩
theorem VarS.gt {wx : World} {G lo hi : Nat} {v : SV} {d : SD} (h : VarS wx G lo hi v d) : G < wx.heap.size := World.block_lt_of_cell? _ _ h.c0
end Go.Proofs.Ytlmeokeanihhoaa
namespace Go.Proofs.Ytlmeokeanihhoaa
open Go.RowKit
set_option linter.unusedVariables false
set_option maxRecDepth 100000
set_option linter.unusedSimpArgs false

end Go.Proofs.Ytlmeokeanihhoaa
namespace Go.Proofs.Ytlmeokeanihhoaa
open Go.RowKit
set_option linter.unusedVariables false
set_option maxRecDepth 100000
set_option linter.unusedSimpArgs false

end Go.Proofs.Ytlmeokeanihhoaa
namespace Go.Proofs.Ytlmeokeanihhoaa
open Go.RowKit
set_option linter.unusedVariables false
set_option maxRecDepth 100000
set_option linter.unusedSimpArgs false

def AnsS (P : Bool) (N D N' D' : Int) (d : SD) (ok : Bool) : Prop :=
  (P = true ∧ ∃ xs us ys vs, Nm xs N.natAbs ∧ Nm us D.natAbs ∧ Nm ys N'.natAbs ∧ Nm vs D'.natAbs ∧ (((xs.length ≤ 40 ∧ us.length ≤ 40) ∧ (ys.length ≤ 40 ∧ vs.length ≤ 40) ∧ ok = true ∧ d = (⟨⟨⟨decide (N < 0), xs⟩, ⟨decide (D < 0), us⟩⟩, ⟨⟨decide (N' < 0), ys⟩, ⟨decide (D' < 0), vs⟩⟩⟩ : SD)) ∨ (¬ ((xs.length ≤ 40 ∧ us.length ≤ 40) ∧ (ys.length ≤ 40 ∧ vs.length ≤ 40)) ∧ ok = false ∧ d = (⟨⟨⟨false, []⟩, ⟨false, []⟩⟩, ⟨⟨false, []⟩, ⟨false, []⟩⟩⟩ : SD)))) ∨ (P = false ∧ ok = false ∧ d = (⟨⟨⟨false, []⟩, ⟨false, []⟩⟩, ⟨⟨false, []⟩, ⟨false, []⟩⟩⟩ : SD))
theorem AnsS.same {P : Bool} {N D N' D' : Int} {d d' : SD} {ok ok' : Bool} (h : AnsS P N D N' D' d ok) (k : AnsS P N D N' D' d' ok') : d = d' ∧ ok = ok' := by
  rcases h with ⟨p, xs, us, ys, vs, h1, h2, h3, h4, h5⟩ | ⟨p, h1, h2⟩ <;> rcases k with ⟨p', xs', us', ys', vs', k1, k2, k3, k4, k5⟩ | ⟨p', k1, k2⟩
  · obtain rfl := h1.same k1
    obtain rfl := h2.same k2
    obtain rfl := h3.same k3
    obtain rfl := h4.same k4
    rcases h5 with ⟨a, b, c, e⟩ | ⟨a, c, e⟩ <;> rcases k5 with ⟨a', b', c', e'⟩ | ⟨a', c', e'⟩
    · exact ⟨e.trans e'.symm, c.trans c'.symm⟩
    · exact absurd ⟨a, b⟩ a'
    · exact absurd ⟨a', b'⟩ a
    · exact ⟨e.trans e'.symm, c.trans c'.symm⟩
  · rw [p] at p'; cases p'
  · rw [p] at p'; cases p'
  · exact ⟨h2.trans k2.symm, h1.trans k1.symm⟩
theorem AnsS.lens {P : Bool} {N D N' D' : Int} {d : SD} {ok : Bool} (h : AnsS P N D N' D' d ok) : d.lo.num.xs.length ≤ 40 ∧ d.lo.den.xs.length ≤ 40 ∧ d.hi.num.xs.length ≤ 40 ∧ d.hi.den.xs.length ≤ 40 := by
  rcases h with ⟨p, xs, us, ys, vs, h1, h2, h3, h4, ⟨a, b, c, rfl⟩ | ⟨a, c, rfl⟩⟩ | ⟨p, h1, rfl⟩
  · exact ⟨a.1, a.2, b.1, b.2⟩
  · simp
  · simp
end Go.Proofs.Ytlmeokeanihhoaa
namespace Go.Proofs.Ytlmeokeanihhoaa
open Go.RowKit
set_option linter.unusedVariables false
set_option maxRecDepth 100000
set_option linter.unusedSimpArgs false

def AnsB (P : Bool) (V : Int) (d : BD) (ok : Bool) : Prop := (P = true ∧ ok = true ∧ d.g = decide (V < 0) ∧ Nm d.xs V.natAbs ∧ d.xs.length ≤ 40) ∨ (P = false ∧ ok = false ∧ d = ⟨false, []⟩)
theorem AnsB.same {P : Bool} {V : Int} {d d' : BD} {ok ok' : Bool} (h : AnsB P V d ok) (k : AnsB P V d' ok') : d = d' ∧ ok = ok' := by
  obtain ⟨g, xs⟩ := d
  obtain ⟨g', xs'⟩ := d'
  rcases h with ⟨p, o, a, b, _⟩ | ⟨p, o, e⟩ <;> rcases k with ⟨p', o', a', b', _⟩ | ⟨p', o', e'⟩
  · simp only at a b a' b'
    rw [a, a', b.same b']
    exact ⟨rfl, o.trans o'.symm⟩
  · rw [p] at p'; cases p'
  · rw [p] at p'; cases p'
  · exact ⟨e.trans e'.symm, o.trans o'.symm⟩
theorem AnsB.lens {P : Bool} {V : Int} {d : BD} {ok : Bool} (h : AnsB P V d ok) : d.xs.length ≤ 40 := by
  rcases h with ⟨_, _, _, _, h⟩ | ⟨_, _, rfl⟩
  · exact h
  · simp
theorem floor_pos {N D : Int} (hD : 0 < D) (hN : ¬ N < 0) : sU false ((N.natAbs : Int) / (D.natAbs : Int)) = N / D ∧ (N.natAbs : Int) % (D.natAbs : Int) = N % D := by
  rw [show (N.natAbs : Int) = N by omega, show (D.natAbs : Int) = D by omega]
  exact ⟨rfl, rfl⟩
theorem floor_neg0 {N D : Int} (hD : 0 < D) (hN : N < 0) (hr : (N.natAbs : Int) % (D.natAbs : Int) = 0) : sU true ((N.natAbs : Int) / (D.natAbs : Int)) = N / D ∧ (N.natAbs : Int) % (D.natAbs : Int) = N % D := by
  have e1 := Int.emod_add_mul_ediv (N.natAbs : Int) (D.natAbs : Int)
  rw [hr] at e1 ⊢
  rw [show (D.natAbs : Int) = D by omega] at *
  show -((N.natAbs : Int) / D) = N / D ∧ 0 = N % D
  generalize (N.natAbs : Int) / D = k at *
  have := (Int.ediv_emod_unique (a := N) (r := 0) (q := -k) hD).2 ⟨by rw [Int.mul_neg]; omega, by omega, hD⟩
  exact ⟨this.1.symm, this.2.symm⟩
theorem floor_neg {N D : Int} (hD : 0 < D) (hN : N < 0) (hr : (N.natAbs : Int) % (D.natAbs : Int) ≠ 0) : -((N.natAbs : Int) / (D.natAbs : Int) + 1) = N / D ∧ (D.natAbs : Int) - (N.natAbs : Int) % (D.natAbs : Int) = N % D := by
  have e1 := Int.emod_add_mul_ediv (N.natAbs : Int) (D.natAbs : Int)
  have e2 := Int.emod_nonneg (N.natAbs : Int) (show (D.natAbs : Int) ≠ 0 by omega)
  have e3 := Int.emod_lt_of_pos (N.natAbs : Int) (show 0 < (D.natAbs : Int) by omega)
  rw [show (D.natAbs : Int) = D by omega] at *
  generalize (N.natAbs : Int) / D = k at *
  generalize (N.natAbs : Int) % D = r at *
  have := (Int.ediv_emod_unique (a := N) (r := D - r) (q := -(k + 1)) hD).2 ⟨by rw [Int.mul_neg, Int.mul_add, Int.mul_one]; omega, by omega, by omega⟩
  exact ⟨this.1.symm, this.2.symm⟩
theorem floor_abs {N D : Int} (hD : 0 < D) : (N / D).natAbs ≤ N.natAbs ∧ 0 ≤ N % D ∧ N % D < D := by
  have e1 := Int.emod_add_mul_ediv N D
  have e2 := Int.emod_nonneg N (show D ≠ 0 by omega)
  have e3 := Int.emod_lt_of_pos N hD
  refine ⟨?_, e2, e3⟩
  by_cases h : 0 ≤ N
  · have h1 : 0 ≤ N / D := Int.ediv_nonneg h (by omega)
    have h2 : N / D ≤ N := Int.ediv_le_self _ h
    omega
  · have h1 : N / D < 0 := Int.ediv_neg_of_neg_of_pos (by omega) hD
    have h2 : N ≤ N / D := by
      have m := Int.mul_le_mul_of_nonneg_left (show 1 ≤ D by omega) (show 0 ≤ -(N / D + 1) by omega)
      have e4 : -(N / D + 1) * D = -(D * (N / D)) - D := by rw [Int.neg_mul, Int.add_mul, Int.one_mul, Int.mul_comm (N / D) D]; omega
      rw [Int.mul_one, e4] at m
      omega
    omega
/-- A call answers floor and rest. -/
def OutFR (w : World) (N D : Int) (e : Ending) (w' : World) : Prop := ∃ x y : BV, e = .returned (.tuple #[.agg #[.bool x.g, .slice x.a x.n x.c], .agg #[.bool y.g, .slice y.a y.n y.c]]) ∧ Below w.heap.size w w' ∧ Ow w.heap.size w'.heap.size w' x (N / D) ∧ Ow w.heap.size w'.heap.size w' y (N % D)

set_option maxHeartbeats 4000000 in
theorem floorFR (q : QV) (N D : Int) (w : World) (h : IsQ w q N D) (hD : 0 < D) (k1 : Bd N 400000) (k2 : Bd D 400000) : Calls Try.prog 201 #[.agg #[.bool q.num.g, .slice q.num.a q.num.n q.num.c, .bool q.den.g, .slice q.den.a q.den.n q.den.c]] w (OutFR w N D) := by
  obtain ⟨⟨g, a, n, c⟩, b⟩ := q
  obtain ⟨xs, hx, _, hl, nx, sx⟩ := h.1.num k1 (by omega)
  obtain ⟨ys, hy, _, hl', ny, sy⟩ := h.2.num k2 (by omega)
  have hm : 1 ≤ b.n := by have := h.2.zero_iff; simp only at this; omega
  simp only at hx hl sx hy hl' ⊢
  have HX := hide hx.arg
  have HY := hide hy.arg
  have KN := hide k1
  have NX := hide nx
  have NY := hide ny
  clear h hx hy nx ny sy k1 k2
  by_cases hN : N < 0
  · obtain rfl : g = true := by rw [sx]; exact decide_eq_true hN
    clear sx
    by_cases hr : (N.natAbs : Int) % (D.natAbs : Int) = 0
    · have FL := hide (floor_neg0 hD hN hr)
      have HR := hide hr
      clear hr hN
      have B0 := hide (show Below w.heap.size w (((w.alloc (.cells #[.bool true, .slice a n c, .bool b.g, .slice b.a b.n b.c] 30)).alloc (.cells #[.bool false, .slice none 0 0] 28)).alloc (.cells #[.bool false, .slice none 0 0] 28)) from ((((Below.refl _ _).alloc (by simp) _).alloc (by simp) _).alloc (by simp <;> omega) _))
      go_enter Try.func201, Try.ntmps201
      go_wp2_with fail
      refine (divI_any a b.a n b.n c b.c xs ys _ ((unhide HX).later (unhide B0)) ((unhide HY).later (unhide B0)) (unhide NX).ok (unhide NX).tr (unhide NY).ok (unhide NY).tr (by omega) (by omega) (by omega)).mono ?_
      rintro e w1 ⟨a2, n2, c2, zs, a3, n3, c3, rs, rfl, hb, ho2, ha2, hn2, ho3, ha3, hn3, ap⟩
      have s1 : w.heap.size + 3 ≤ w1.heap.size := by have := hb.size; simp at this; omega
      rw [(unhide NX).v, (unhide NY).v] at hn2 hn3
      have N2 := hide hn2
      have N3 := hide hn3
      have ln : n2 ≤ 400000 := by rw [← ha2.len]; exact Nm.len_le (V := (N.natAbs : Int) / (D.natAbs : Int)) (by rw [Int.natAbs_of_nonneg (Int.ediv_nonneg (by omega) (by omega))]; exact hn2) ((unhide KN).le (by have h1 := Int.ediv_le_self (D.natAbs : Int) (show 0 ≤ (N.natAbs : Int) by omega); have h2 := Int.ediv_nonneg (show 0 ≤ (N.natAbs : Int) by omega) (show 0 ≤ (D.natAbs : Int) by omega); omega))
      have l3 : n3 = 0 ↔ (N.natAbs : Int) % (D.natAbs : Int) = 0 := by rw [← ha3.len, List.length_eq_zero_iff]; exact hn3.nil_iff
      obtain rfl : n3 = 0 := l3.2 (unhide HR)
      clear l3
      have k0_0 : w1.cell? ⟨w.heap.size, 0, none⟩ = some (.bool true) := cell_later hb (by simp [go_sem])
      have k1_0 : w1.cell? ⟨w.heap.size + 1, 0, none⟩ = some (.bool false) := cell_later hb (by simp [go_sem])
      have k1_1 : w1.cell? ⟨w.heap.size + 1, 1, none⟩ = some (.slice none 0 0) := cell_later hb (by simp [go_sem])
      have k2_0 : w1.cell? ⟨w.heap.size + 1 + 1, 0, none⟩ = some (.bool false) := cell_later hb (by simp [go_sem])
      have k2_1 : w1.cell? ⟨w.heap.size + 1 + 1, 1, none⟩ = some (.slice none 0 0) := cell_later hb (by simp [go_sem])
      have z1 : ∀ o, w1.frozen? ⟨w.heap.size + 1, o, none⟩ = false := fun o => frozen_later hb (by simp) (by simp [go_sem])
      have z2 : ∀ o, w1.frozen? ⟨w.heap.size + 1 + 1, o, none⟩ = false := fun o => frozen_later hb (by simp) (by simp [go_sem])
      have A2 := hide (ha2)
      have A3 := hide (ha3)
      have O2 := hide (ho2.two)
      have O3 := hide (ho3.two)
      have HB := hide (below_on (unhide B0) hb)
      clear hb
      clear ho2 ha2 hn2 ho3 ha3 hn3 ap
      go_wp2_with fail
      refine (signI_v true a2 n2 c2 zs _ _ _ _ (unhide A2) (unhide O2) (unhide N2)).mono ?_
      rintro e w5 ⟨x1, rfl, hb, ow1, ar1⟩
      have s5 := hb.size
      replace z1 := fun o => frozen_later hb (World.block_lt_of_cell? _ _ k1_0) (z1 o)
      replace z2 := fun o => frozen_later hb (World.block_lt_of_cell? _ _ k2_0) (z2 o)
      replace k1_0 := cell_later hb k1_0
      replace k1_1 := cell_later hb k1_1
      replace k2_0 := cell_later hb k2_0
      replace k2_1 := cell_later hb k2_1
      clear k0_0
      replace A2 := hide ((unhide A2).later hb)
      replace A3 := hide ((unhide A3).later hb)
      replace O2 := hide ((unhide O2).later hb)
      replace O3 := hide ((unhide O3).later hb)
      have OW1 := hide (ow1)
      have AR1 := hide (ar1)
      replace HB := hide (below_on (unhide HB) hb)
      clear hb
      clear ow1 ar1
      go_wp2_with fail
      refine (signI_v false a3 0 c3 rs _ _ _ _ (unhide A3) (unhide O3) (unhide N3)).mono ?_
      rintro e w6 ⟨x2, rfl, hb, ow2, ar2⟩
      have s6 := hb.size
      replace z1 := fun o => frozen_later hb (World.block_lt_of_cell? _ _ k1_0) (z1 o)
      replace z2 := fun o => frozen_later hb (World.block_lt_of_cell? _ _ k2_0) (z2 o)
      replace k1_0 := cell_later hb k1_0
      replace k1_1 := cell_later hb k1_1
      replace k2_0 := cell_later hb k2_0
      replace k2_1 := cell_later hb k2_1
      replace A2 := hide ((unhide A2).later hb)
      replace A3 := hide ((unhide A3).later hb)
      replace O2 := hide ((unhide O2).later hb)
      replace O3 := hide ((unhide O3).later hb)
      replace OW1 := hide ((unhide OW1).later hb)
      replace AR1 := hide ((unhide AR1).later hb)
      have OW2 := hide (ow2)
      have AR2 := hide (ar2)
      replace HB := hide (below_on (unhide HB) hb)
      clear hb
      clear ow2 ar2
      have e1 : sU true ((N.natAbs : Int) / (D.natAbs : Int)) = N / D := (unhide FL).1
      have e2 : sU false ((N.natAbs : Int) % (D.natAbs : Int)) = N % D := (unhide FL).2
      have P1 : Hid (Ow (w.heap.size + 3) w6.heap.size w6 x1 (N / D)) := hide (by
        have a0 := (unhide OW1).wide (lo' := w.heap.size + 3) (hi' := w6.heap.size) (by first | omega | (simp; done) | (simp; omega)) (by omega)
        have a1 := unhide AR1
        rw [e1] at a0 a1
        exact outN_ow a0 a1 (by rw [← e1, sU_abs (unhide N2).nonneg]; exact unhide N2))
      have P2 : Hid (Ow (w.heap.size + 3) w6.heap.size w6 x2 (N % D)) := hide (by
        have a0 := (unhide OW2).wide (lo' := w.heap.size + 3) (hi' := w6.heap.size) (by first | omega | (simp; done) | (simp; omega)) (by omega)
        have a1 := unhide AR2
        rw [e2] at a0 a1
        exact outN_ow a0 a1 (by rw [← e2, sU_abs (unhide N3).nonneg]; exact unhide N3))
      clear e1 e2 OW1 OW2 AR1 AR2
      go_wp2
      refine bodyPost_ret (v := .tuple #[.agg #[.bool x1.g, .slice x1.a x1.n x1.c], .agg #[.bool x2.g, .slice x2.a x2.n x2.c]]) (by simp [results, Try.results201, go_sem, k1_0, k1_1, k2_0, k2_1]) rfl ?_
      have bt1 := metB_but (w5 := w6) (v := x1) (G := w.heap.size + 1)
      have bt2 := metB_but (w5 := (w6.setCell ⟨w.heap.size + 1, 0, none⟩ (.bool x1.g)).setCell ⟨w.heap.size + 1, 1, none⟩ (.slice x1.a x1.n x1.c)) (v := x2) (G := w.heap.size + 1 + 1)
      exact ⟨x1, x2, rfl, bt2.below (bt1.below (unhide HB) (by omega) (unhide HB).size) (by omega) (by have := bt1.size; have := (unhide HB).size; omega), (((unhide P1).but bt1 (.inr (by omega))).but bt2 (.inr (by omega))).wide (by omega) (by have := bt1.size; have := bt2.size; omega), (((unhide P2).but bt1 (.inr (by omega))).but bt2 (.inr (by omega))).wide (by omega) (by have := bt1.size; have := bt2.size; omega)⟩
    · have FL := hide (floor_neg hD hN hr)
      have HR := hide hr
      clear hr hN
      have B0 := hide (show Below w.heap.size w (((w.alloc (.cells #[.bool true, .slice a n c, .bool b.g, .slice b.a b.n b.c] 30)).alloc (.cells #[.bool false, .slice none 0 0] 28)).alloc (.cells #[.bool false, .slice none 0 0] 28)) from ((((Below.refl _ _).alloc (by simp) _).alloc (by simp) _).alloc (by simp <;> omega) _))
      go_enter Try.func201, Try.ntmps201
      go_wp2_with fail
      refine (divI_any a b.a n b.n c b.c xs ys _ ((unhide HX).later (unhide B0)) ((unhide HY).later (unhide B0)) (unhide NX).ok (unhide NX).tr (unhide NY).ok (unhide NY).tr (by omega) (by omega) (by omega)).mono ?_
      rintro e w1 ⟨a2, n2, c2, zs, a3, n3, c3, rs, rfl, hb, ho2, ha2, hn2, ho3, ha3, hn3, ap⟩
      have s1 : w.heap.size + 3 ≤ w1.heap.size := by have := hb.size; simp at this; omega
      rw [(unhide NX).v, (unhide NY).v] at hn2 hn3
      have N2 := hide hn2
      have N3 := hide hn3
      have ln : n2 ≤ 400000 := by rw [← ha2.len]; exact Nm.len_le (V := (N.natAbs : Int) / (D.natAbs : Int)) (by rw [Int.natAbs_of_nonneg (Int.ediv_nonneg (by omega) (by omega))]; exact hn2) ((unhide KN).le (by have h1 := Int.ediv_le_self (D.natAbs : Int) (show 0 ≤ (N.natAbs : Int) by omega); have h2 := Int.ediv_nonneg (show 0 ≤ (N.natAbs : Int) by omega) (show 0 ≤ (D.natAbs : Int) by omega); omega))
      have l3 : n3 = 0 ↔ (N.natAbs : Int) % (D.natAbs : Int) = 0 := by rw [← ha3.len, List.length_eq_zero_iff]; exact hn3.nil_iff
      have p3 : 0 < n3 := by have := unhide HR; omega
      have p3x : decide ((0 : Int) < (n3 : Int)) = true := by simp; omega
      have r3 : n3 ≤ b.n := by rw [← ha3.len]; exact hn3.le (unhide NY).ok (unhide HY).len (by rw [(unhide NY).v]; exact Int.le_of_lt (Int.emod_lt_of_pos _ (by omega)))
      clear l3
      have k0_0 : w1.cell? ⟨w.heap.size, 0, none⟩ = some (.bool true) := cell_later hb (by simp [go_sem])
      have k0_3 : w1.cell? ⟨w.heap.size, 3, none⟩ = some (.slice b.a b.n b.c) := cell_later hb (by simp [go_sem])
      have k1_0 : w1.cell? ⟨w.heap.size + 1, 0, none⟩ = some (.bool false) := cell_later hb (by simp [go_sem])
      have k1_1 : w1.cell? ⟨w.heap.size + 1, 1, none⟩ = some (.slice none 0 0) := cell_later hb (by simp [go_sem])
      have k2_0 : w1.cell? ⟨w.heap.size + 1 + 1, 0, none⟩ = some (.bool false) := cell_later hb (by simp [go_sem])
      have k2_1 : w1.cell? ⟨w.heap.size + 1 + 1, 1, none⟩ = some (.slice none 0 0) := cell_later hb (by simp [go_sem])
      have z1 : ∀ o, w1.frozen? ⟨w.heap.size + 1, o, none⟩ = false := fun o => frozen_later hb (by simp) (by simp [go_sem])
      have z2 : ∀ o, w1.frozen? ⟨w.heap.size + 1 + 1, o, none⟩ = false := fun o => frozen_later hb (by simp) (by simp [go_sem])
      have A2 := hide (ha2)
      have A3 := hide (ha3)
      have O2 := hide (ho2.two)
      have O3 := hide (ho3.two)
      have HB := hide (below_on (unhide B0) hb)
      clear hb
      clear ho2 ha2 hn2 ho3 ha3 hn3 ap
      have k0_0u : (w1.alloc (.cells #[.int .i64 1] 3)).cell? ⟨w.heap.size, 0, none⟩ = some (.bool true) := (ca_other k0_0)
      have k0_3u : (w1.alloc (.cells #[.int .i64 1] 3)).cell? ⟨w.heap.size, 3, none⟩ = some (.slice b.a b.n b.c) := (ca_other k0_3)
      have k1_0u : (w1.alloc (.cells #[.int .i64 1] 3)).cell? ⟨w.heap.size + 1, 0, none⟩ = some (.bool false) := (ca_other k1_0)
      have k1_1u : (w1.alloc (.cells #[.int .i64 1] 3)).cell? ⟨w.heap.size + 1, 1, none⟩ = some (.slice none 0 0) := (ca_other k1_1)
      have k2_0u : (w1.alloc (.cells #[.int .i64 1] 3)).cell? ⟨w.heap.size + 1 + 1, 0, none⟩ = some (.bool false) := (ca_other k2_0)
      have k2_1u : (w1.alloc (.cells #[.int .i64 1] 3)).cell? ⟨w.heap.size + 1 + 1, 1, none⟩ = some (.slice none 0 0) := (ca_other k2_1)
      go_wp2_with fail
      refine (addI_any a2 _ n2 1 c2 1 zs [1] _ ((unhide A2).later ((Below.refl _ _).alloc (by simp) _)) (one_arg w1 1).1 (unhide N2).ok nm_one.ok (by omega) (by omega)).mono ?_
      rintro e w2 ⟨a4, n4, c4, ws, rfl, hb, ho4, ha4, hn4⟩
      clear k0_0u k0_3u k1_0u k1_1u k2_0u k2_1u
      rw [(unhide N2).v, nm_one.v] at hn4
      have N4 := hide hn4
      have s2 : w1.heap.size + 1 ≤ w2.heap.size := by have := hb.size; simp at this; omega
      have hbx := ba (hb)
      replace z1 := fun o => frozen_later hbx (World.block_lt_of_cell? _ _ k1_0) (z1 o)
      replace z2 := fun o => frozen_later hbx (World.block_lt_of_cell? _ _ k2_0) (z2 o)
      replace k0_0 := cell_later hbx k0_0
      replace k0_3 := cell_later hbx k0_3
      replace k1_0 := cell_later hbx k1_0
      replace k1_1 := cell_later hbx k1_1
      replace k2_0 := cell_later hbx k2_0
      replace k2_1 := cell_later hbx k2_1
      replace A2 := hide ((unhide A2).later hbx)
      replace A3 := hide ((unhide A3).later hbx)
      replace O2 := hide ((unhide O2).later hbx)
      replace O3 := hide ((unhide O3).later hbx)
      have A4 := hide (ha4)
      have O4 := hide (ho4.two)
      replace HB := hide (below_on (unhide HB) hbx)
      clear hbx hb
      clear ho4 ha4 hn4
      go_wp2_with fail
      refine (subI_any b.a a3 b.n n3 b.c c3 ys rs _ ((unhide HY).later (unhide HB)) (unhide A3) (unhide NY).ok (unhide N3).ok (by omega) r3 (by rw [(unhide N3).v, (unhide NY).v]; exact Int.le_of_lt (Int.emod_lt_of_pos _ (by omega)))).mono ?_
      rintro e w3 ⟨a5, n5, c5, ts, rfl, hb, ho5, ha5, hn5⟩
      rw [(unhide N3).v, (unhide NY).v] at hn5
      have N5 := hide hn5
      have s3 := hb.size
      replace z1 := fun o => frozen_later hb (World.block_lt_of_cell? _ _ k1_0) (z1 o)
      replace z2 := fun o => frozen_later hb (World.block_lt_of_cell? _ _ k2_0) (z2 o)
      replace k0_0 := cell_later hb k0_0
      replace k1_0 := cell_later hb k1_0
      replace k1_1 := cell_later hb k1_1
      replace k2_0 := cell_later hb k2_0
      replace k2_1 := cell_later hb k2_1
      clear k0_3
      replace A2 := hide ((unhide A2).later hb)
      replace A3 := hide ((unhide A3).later hb)
      replace O2 := hide ((unhide O2).later hb)
      replace O3 := hide ((unhide O3).later hb)
      replace A4 := hide ((unhide A4).later hb)
      replace O4 := hide ((unhide O4).later hb)
      have A5 := hide (ha5)
      have O5 := hide (ho5.two)
      replace HB := hide (below_on (unhide HB) hb)
      clear hb
      clear ho5 ha5 hn5
      clear A2 A3 O2 O3
      go_wp2_with fail
      refine (signI_v true a4 n4 c4 ws _ _ _ _ (unhide A4) (unhide O4) (unhide N4)).mono ?_
      rintro e w5 ⟨x1, rfl, hb, ow1, ar1⟩
      have s5 := hb.size
      replace z1 := fun o => frozen_later hb (World.block_lt_of_cell? _ _ k1_0) (z1 o)
      replace z2 := fun o => frozen_later hb (World.block_lt_of_cell? _ _ k2_0) (z2 o)
      replace k1_0 := cell_later hb k1_0
      replace k1_1 := cell_later hb k1_1
      replace k2_0 := cell_later hb k2_0
      replace k2_1 := cell_later hb k2_1
      clear k0_0
      replace A4 := hide ((unhide A4).later hb)
      replace O4 := hide ((unhide O4).later hb)
      replace A5 := hide ((unhide A5).later hb)
      replace O5 := hide ((unhide O5).later hb)
      have OW1 := hide (ow1)
      have AR1 := hide (ar1)
      replace HB := hide (below_on (unhide HB) hb)
      clear hb
      clear ow1 ar1
      go_wp2_with fail
      refine (signI_v false a5 n5 c5 ts _ _ _ _ (unhide A5) (unhide O5) (unhide N5)).mono ?_
      rintro e w6 ⟨x2, rfl, hb, ow2, ar2⟩
      have s6 := hb.size
      replace z1 := fun o => frozen_later hb (World.block_lt_of_cell? _ _ k1_0) (z1 o)
      replace z2 := fun o => frozen_later hb (World.block_lt_of_cell? _ _ k2_0) (z2 o)
      replace k1_0 := cell_later hb k1_0
      replace k1_1 := cell_later hb k1_1
      replace k2_0 := cell_later hb k2_0
      replace k2_1 := cell_later hb k2_1
      replace A4 := hide ((unhide A4).later hb)
      replace O4 := hide ((unhide O4).later hb)
      replace A5 := hide ((unhide A5).later hb)
      replace O5 := hide ((unhide O5).later hb)
      replace OW1 := hide ((unhide OW1).later hb)
      replace AR1 := hide ((unhide AR1).later hb)
      have OW2 := hide (ow2)
      have AR2 := hide (ar2)
      replace HB := hide (below_on (unhide HB) hb)
      clear hb
      clear ow2 ar2
      have e1 : sU true ((N.natAbs : Int) / (D.natAbs : Int) + 1) = N / D := (unhide FL).1
      have e2 : sU false ((D.natAbs : Int) - (N.natAbs : Int) % (D.natAbs : Int)) = N % D := (unhide FL).2
      have P1 : Hid (Ow (w.heap.size + 3) w6.heap.size w6 x1 (N / D)) := hide (by
        have a0 := (unhide OW1).wide (lo' := w.heap.size + 3) (hi' := w6.heap.size) (by first | omega | (simp; done) | (simp; omega)) (by omega)
        have a1 := unhide AR1
        rw [e1] at a0 a1
        exact outN_ow a0 a1 (by rw [← e1, sU_abs (unhide N4).nonneg]; exact unhide N4))
      have P2 : Hid (Ow (w.heap.size + 3) w6.heap.size w6 x2 (N % D)) := hide (by
        have a0 := (unhide OW2).wide (lo' := w.heap.size + 3) (hi' := w6.heap.size) (by first | omega | (simp; done) | (simp; omega)) (by omega)
        have a1 := unhide AR2
        rw [e2] at a0 a1
        exact outN_ow a0 a1 (by rw [← e2, sU_abs (unhide N5).nonneg]; exact unhide N5))
      clear e1 e2 OW1 OW2 AR1 AR2
      go_wp2
      refine bodyPost_ret (v := .tuple #[.agg #[.bool x1.g, .slice x1.a x1.n x1.c], .agg #[.bool x2.g, .slice x2.a x2.n x2.c]]) (by simp [results, Try.results201, go_sem, k1_0, k1_1, k2_0, k2_1]) rfl ?_
      have bt1 := metB_but (w5 := w6) (v := x1) (G := w.heap.size + 1)
      have bt2 := metB_but (w5 := (w6.setCell ⟨w.heap.size + 1, 0, none⟩ (.bool x1.g)).setCell ⟨w.heap.size + 1, 1, none⟩ (.slice x1.a x1.n x1.c)) (v := x2) (G := w.heap.size + 1 + 1)
      exact ⟨x1, x2, rfl, bt2.below (bt1.below (unhide HB) (by omega) (unhide HB).size) (by omega) (by have := bt1.size; have := (unhide HB).size; omega), (((unhide P1).but bt1 (.inr (by omega))).but bt2 (.inr (by omega))).wide (by omega) (by have := bt1.size; have := bt2.size; omega), (((unhide P2).but bt1 (.inr (by omega))).but bt2 (.inr (by omega))).wide (by omega) (by have := bt1.size; have := bt2.size; omega)⟩
  · obtain rfl : g = false := by rw [sx]; exact decide_eq_false hN
    clear sx
    have hr := True.intro
    have FL := hide (floor_pos hD hN)
    have HR := hide hr
    clear hr hN
    have B0 := hide (show Below w.heap.size w (((w.alloc (.cells #[.bool false, .slice a n c, .bool b.g, .slice b.a b.n b.c] 30)).alloc (.cells #[.bool false, .slice none 0 0] 28)).alloc (.cells #[.bool false, .slice none 0 0] 28)) from ((((Below.refl _ _).alloc (by simp) _).alloc (by simp) _).alloc (by simp <;> omega) _))
    go_enter Try.func201, Try.ntmps201
    go_wp2_with fail
    refine (divI_any a b.a n b.n c b.c xs ys _ ((unhide HX).later (unhide B0)) ((unhide HY).later (unhide B0)) (unhide NX).ok (unhide NX).tr (unhide NY).ok (unhide NY).tr (by omega) (by omega) (by omega)).mono ?_
    rintro e w1 ⟨a2, n2, c2, zs, a3, n3, c3, rs, rfl, hb, ho2, ha2, hn2, ho3, ha3, hn3, ap⟩
    have s1 : w.heap.size + 3 ≤ w1.heap.size := by have := hb.size; simp at this; omega
    rw [(unhide NX).v, (unhide NY).v] at hn2 hn3
    have N2 := hide hn2
    have N3 := hide hn3
    have ln : n2 ≤ 400000 := by rw [← ha2.len]; exact Nm.len_le (V := (N.natAbs : Int) / (D.natAbs : Int)) (by rw [Int.natAbs_of_nonneg (Int.ediv_nonneg (by omega) (by omega))]; exact hn2) ((unhide KN).le (by have h1 := Int.ediv_le_self (D.natAbs : Int) (show 0 ≤ (N.natAbs : Int) by omega); have h2 := Int.ediv_nonneg (show 0 ≤ (N.natAbs : Int) by omega) (show 0 ≤ (D.natAbs : Int) by omega); omega))
    have l3 : n3 = 0 ↔ (N.natAbs : Int) % (D.natAbs : Int) = 0 := by rw [← ha3.len, List.length_eq_zero_iff]; exact hn3.nil_iff

    clear l3
    have k0_0 : w1.cell? ⟨w.heap.size, 0, none⟩ = some (.bool false) := cell_later hb (by simp [go_sem])
    have k1_0 : w1.cell? ⟨w.heap.size + 1, 0, none⟩ = some (.bool false) := cell_later hb (by simp [go_sem])
    have k1_1 : w1.cell? ⟨w.heap.size + 1, 1, none⟩ = some (.slice none 0 0) := cell_later hb (by simp [go_sem])
    have k2_0 : w1.cell? ⟨w.heap.size + 1 + 1, 0, none⟩ = some (.bool false) := cell_later hb (by simp [go_sem])
    have k2_1 : w1.cell? ⟨w.heap.size + 1 + 1, 1, none⟩ = some (.slice none 0 0) := cell_later hb (by simp [go_sem])
    have z1 : ∀ o, w1.frozen? ⟨w.heap.size + 1, o, none⟩ = false := fun o => frozen_later hb (by simp) (by simp [go_sem])
    have z2 : ∀ o, w1.frozen? ⟨w.heap.size + 1 + 1, o, none⟩ = false := fun o => frozen_later hb (by simp) (by simp [go_sem])
    have A2 := hide (ha2)
    have A3 := hide (ha3)
    have O2 := hide (ho2.two)
    have O3 := hide (ho3.two)
    have HB := hide (below_on (unhide B0) hb)
    clear hb
    clear ho2 ha2 hn2 ho3 ha3 hn3 ap
    go_wp2_with fail
    refine (signI_v false a2 n2 c2 zs _ _ _ _ (unhide A2) (unhide O2) (unhide N2)).mono ?_
    rintro e w5 ⟨x1, rfl, hb, ow1, ar1⟩
    have s5 := hb.size
    replace z1 := fun o => frozen_later hb (World.block_lt_of_cell? _ _ k1_0) (z1 o)
    replace z2 := fun o => frozen_later hb (World.block_lt_of_cell? _ _ k2_0) (z2 o)
    replace k1_0 := cell_later hb k1_0
    replace k1_1 := cell_later hb k1_1
    replace k2_0 := cell_later hb k2_0
    replace k2_1 := cell_later hb k2_1
    clear k0_0
    replace A2 := hide ((unhide A2).later hb)
    replace A3 := hide ((unhide A3).later hb)
    replace O2 := hide ((unhide O2).later hb)
    replace O3 := hide ((unhide O3).later hb)
    have OW1 := hide (ow1)
    have AR1 := hide (ar1)
    replace HB := hide (below_on (unhide HB) hb)
    clear hb
    clear ow1 ar1
    go_wp2_with fail
    refine (signI_v false a3 n3 c3 rs _ _ _ _ (unhide A3) (unhide O3) (unhide N3)).mono ?_
    rintro e w6 ⟨x2, rfl, hb, ow2, ar2⟩
    have s6 := hb.size
    replace z1 := fun o => frozen_later hb (World.block_lt_of_cell? _ _ k1_0) (z1 o)
    replace z2 := fun o => frozen_later hb (World.block_lt_of_cell? _ _ k2_0) (z2 o)
    replace k1_0 := cell_later hb k1_0
    replace k1_1 := cell_later hb k1_1
    replace k2_0 := cell_later hb k2_0
    replace k2_1 := cell_later hb k2_1
    replace A2 := hide ((unhide A2).later hb)
    replace A3 := hide ((unhide A3).later hb)
    replace O2 := hide ((unhide O2).later hb)
    replace O3 := hide ((unhide O3).later hb)
    replace OW1 := hide ((unhide OW1).later hb)
    replace AR1 := hide ((unhide AR1).later hb)
    have OW2 := hide (ow2)
    have AR2 := hide (ar2)
    replace HB := hide (below_on (unhide HB) hb)
    clear hb
    clear ow2 ar2
    have e1 : sU false ((N.natAbs : Int) / (D.natAbs : Int)) = N / D := (unhide FL).1
    have e2 : sU false ((N.natAbs : Int) % (D.natAbs : Int)) = N % D := (unhide FL).2
    have P1 : Hid (Ow (w.heap.size + 3) w6.heap.size w6 x1 (N / D)) := hide (by
      have a0 := (unhide OW1).wide (lo' := w.heap.size + 3) (hi' := w6.heap.size) (by first | omega | (simp; done) | (simp; omega)) (by omega)
      have a1 := unhide AR1
      rw [e1] at a0 a1
      exact outN_ow a0 a1 (by rw [← e1, sU_abs (unhide N2).nonneg]; exact unhide N2))
    have P2 : Hid (Ow (w.heap.size + 3) w6.heap.size w6 x2 (N % D)) := hide (by
      have a0 := (unhide OW2).wide (lo' := w.heap.size + 3) (hi' := w6.heap.size) (by first | omega | (simp; done) | (simp; omega)) (by omega)
      have a1 := unhide AR2
      rw [e2] at a0 a1
      exact outN_ow a0 a1 (by rw [← e2, sU_abs (unhide N3).nonneg]; exact unhide N3))
    clear e1 e2 OW1 OW2 AR1 AR2
    go_wp2
    refine bodyPost_ret (v := .tuple #[.agg #[.bool x1.g, .slice x1.a x1.n x1.c], .agg #[.bool x2.g, .slice x2.a x2.n x2.c]]) (by simp [results, Try.results201, go_sem, k1_0, k1_1, k2_0, k2_1]) rfl ?_
    have bt1 := metB_but (w5 := w6) (v := x1) (G := w.heap.size + 1)
    have bt2 := metB_but (w5 := (w6.setCell ⟨w.heap.size + 1, 0, none⟩ (.bool x1.g)).setCell ⟨w.heap.size + 1, 1, none⟩ (.slice x1.a x1.n x1.c)) (v := x2) (G := w.heap.size + 1 + 1)
    exact ⟨x1, x2, rfl, bt2.below (bt1.below (unhide HB) (by omega) (unhide HB).size) (by omega) (by have := bt1.size; have := (unhide HB).size; omega), (((unhide P1).but bt1 (.inr (by omega))).but bt2 (.inr (by omega))).wide (by omega) (by have := bt1.size; have := bt2.size; omega), (((unhide P2).but bt1 (.inr (by omega))).but bt2 (.inr (by omega))).wide (by omega) (by have := bt1.size; have := bt2.size; omega)⟩
end Go.Proofs.Ytlmeokeanihhoaa
namespace Go.Proofs.Ytlmeokeanihhoaa
open Go.RowKit
set_option linter.unusedVariables false
set_option maxRecDepth 100000
set_option linter.unusedSimpArgs false

set_option maxHeartbeats 2000000 in
theorem floorO (q : QV) (N D : Int) (w : World) (h : IsQ w q N D) (hD : 0 < D) (k1 : Bd N 400000) (k2 : Bd D 400000) : Calls Try.prog 159 #[.agg #[.bool q.num.g, .slice q.num.a q.num.n q.num.c, .bool q.den.g, .slice q.den.a q.den.n q.den.c]] w (OutN w (N / D)) := by
  have H1 := hide h
  have HD := hide hD
  have K1 := hide k1
  have K2 := hide k2
  clear h hD k1 k2
  have B0 := hide (show Below w.heap.size w ((w.alloc (.cells #[.bool q.num.g, .slice q.num.a q.num.n q.num.c, .bool q.den.g, .slice q.den.a q.den.n q.den.c] 30)).alloc (.cells #[.bool false, .slice none 0 0] 28)) from (((Below.refl _ _).alloc (by simp) _).alloc (by simp) _))
  go_enter Try.func159, Try.ntmps159
  go_wp2_with fail
  refine (floorFR q N D _ ((unhide H1).later (unhide B0)) (unhide HD) (unhide K1) (unhide K2)).mono ?_
  rintro e w1 ⟨x, y, rfl, hb, ox, oy⟩
  have s1 : w.heap.size + 1 + 1 ≤ w1.heap.size := by have := hb.size; simp at this; omega
  replace ox := ox.wide (lo' := w.heap.size + 1 + 1) (by simp) (Nat.le_refl _)
  have k1_0 : w1.cell? ⟨w.heap.size + 1, 0, none⟩ = some (.bool false) := cell_later hb (by simp [go_sem])
  have k1_1 : w1.cell? ⟨w.heap.size + 1, 1, none⟩ = some (.slice none 0 0) := cell_later hb (by simp [go_sem])
  have z1 : ∀ o, w1.frozen? ⟨w.heap.size + 1, o, none⟩ = false := fun o => frozen_later hb (by simp) (by simp [go_sem])
  have OX := hide (ox)
  have HB := hide (below_on (unhide B0) hb)
  clear hb
  clear ox oy
  go_upto_region 2 with fail
  have hb : Below w1.heap.size w1 ((w1.alloc (.cells #[.bool x.g, .slice x.a x.n x.c] 28)).alloc (.cells #[.bool y.g, .slice y.a y.n y.c] 28)) := (((Below.refl _ _).alloc (by simp) _).alloc (by simp) _)
  have k2_0 : ((w1.alloc (.cells #[.bool x.g, .slice x.a x.n x.c] 28)).alloc (.cells #[.bool y.g, .slice y.a y.n y.c] 28)).cell? ⟨w1.heap.size, 0, none⟩ = some (.bool x.g) := by simp [go_sem]
  have k2_1 : ((w1.alloc (.cells #[.bool x.g, .slice x.a x.n x.c] 28)).alloc (.cells #[.bool y.g, .slice y.a y.n y.c] 28)).cell? ⟨w1.heap.size, 1, none⟩ = some (.slice x.a x.n x.c) := by simp [go_sem]
  replace k1_0 : ((w1.alloc (.cells #[.bool x.g, .slice x.a x.n x.c] 28)).alloc (.cells #[.bool y.g, .slice y.a y.n y.c] 28)).cell? ⟨w.heap.size + 1, 0, none⟩ = some (.bool false) := (ca_other (ca_other k1_0))
  replace k1_1 : ((w1.alloc (.cells #[.bool x.g, .slice x.a x.n x.c] 28)).alloc (.cells #[.bool y.g, .slice y.a y.n y.c] 28)).cell? ⟨w.heap.size + 1, 1, none⟩ = some (.slice none 0 0) := (ca_other (ca_other k1_1))
  replace z1 : ∀ o, ((w1.alloc (.cells #[.bool x.g, .slice x.a x.n x.c] 28)).alloc (.cells #[.bool y.g, .slice y.a y.n y.c] 28)).frozen? ⟨w.heap.size + 1, o, none⟩ = false := fun o => frozen_later hb (by omega) (z1 o)
  replace OX := hide ((unhide OX).later hb)
  replace HB := hide (below_on (unhide HB) hb)
  have szw2 := hb.size
  clear hb
  generalize ((w1.alloc (.cells #[.bool x.g, .slice x.a x.n x.c] 28)).alloc (.cells #[.bool y.g, .slice y.a y.n y.c] 28)) = w2 at *
  go_wp2
  refine bodyPost_ret (v := .agg #[.bool x.g, .slice x.a x.n x.c]) (by simp [results, Try.results159, go_sem, k1_0, k1_1]) rfl ?_
  obtain ⟨xs, o1, o2, o3⟩ := unhide OX
  exact outN_fin (b := x) (R := w.heap.size + 1) (by omega) (unhide HB) (metB_but (w5 := w2) (v := x) (G := w.heap.size + 1)) (o1.wide (by omega) (by omega)) o2 o3

theorem trunc_floor {N D : Int} (hD : 0 < D) : (if N < 0 ∧ (N.natAbs : Int) % (D.natAbs : Int) ≠ 0 then (sU (!(decide (N < 0) == decide (D < 0))) ((N.natAbs : Int) / (D.natAbs : Int)) - 1 = N / D ∧ decide (sU (decide (N < 0)) ((N.natAbs : Int) % (D.natAbs : Int)) < 0) = true) else (sU (!(decide (N < 0) == decide (D < 0))) ((N.natAbs : Int) / (D.natAbs : Int)) = N / D ∧ decide (sU (decide (N < 0)) ((N.natAbs : Int) % (D.natAbs : Int)) < 0) = false)) := by
  have e0 : decide (D < 0) = false := decide_eq_false (by omega)
  have p0 := Int.emod_nonneg (N.natAbs : Int) (show (D.natAbs : Int) ≠ 0 by omega)
  by_cases hN : N < 0
  · rw [e0, decide_eq_true hN]
    by_cases hr : (N.natAbs : Int) % (D.natAbs : Int) = 0
    · rw [if_neg (fun h => h.2 hr)]
      have := floor_neg0 hD hN hr
      refine ⟨this.1, decide_eq_false ?_⟩
      show ¬ -((N.natAbs : Int) % (D.natAbs : Int)) < 0
      omega
    · rw [if_pos ⟨hN, hr⟩]
      have := floor_neg hD hN hr
      refine ⟨?_, decide_eq_true ?_⟩
      · show -((N.natAbs : Int) / (D.natAbs : Int)) - 1 = N / D
        omega
      · show -((N.natAbs : Int) % (D.natAbs : Int)) < 0
        omega
  · rw [if_neg (fun h => hN h.1), e0, decide_eq_false hN]
    have := floor_pos hD hN
    refine ⟨this.1, decide_eq_false ?_⟩
    show ¬ (N.natAbs : Int) % (D.natAbs : Int) < 0
    omega
set_option maxHeartbeats 4000000 in
theorem floorS (q : QV) (N D : Int) (w : World) (h : IsQ w q N D) (hD : 0 < D) (k1 : Bd N 300000) (k2 : Bd D 300000) : Calls Try.prog 93 #[.agg #[.bool q.num.g, .slice q.num.a q.num.n q.num.c, .bool q.den.g, .slice q.den.a q.den.n q.den.c]] w (OutN w (N / D)) := by
  have H1 := hide h
  have HD := hide hD
  have K1 := hide (k1.mono (show 300000 ≤ 400000 by omega))
  have K2 := hide (k2.mono (show 300000 ≤ 400000 by omega))
  have T := trunc_floor (N := N) hD
  have KX : Hid (Bd (sU (!(decide (N < 0) == decide (D < 0))) ((N.natAbs : Int) / (D.natAbs : Int))) 400000) := hide ((k1.mono (show 300000 ≤ 400000 by omega)).le (by
    have h1 := sU_abs (g := !(decide (N < 0) == decide (D < 0))) (Int.ediv_nonneg (show 0 ≤ (N.natAbs : Int) by omega) (show 0 ≤ (D.natAbs : Int) by omega))
    have h2 := Int.ediv_le_self (D.natAbs : Int) (show 0 ≤ (N.natAbs : Int) by omega)
    omega))
  clear h hD k1 k2
  by_cases c : N < 0 ∧ (N.natAbs : Int) % (D.natAbs : Int) ≠ 0
  · rw [if_pos c] at T
    have FL := hide T.1
    have SG := hide T.2
    clear T c
    have B0 := hide (show Below w.heap.size w ((w.alloc (.cells #[.bool q.num.g, .slice q.num.a q.num.n q.num.c, .bool q.den.g, .slice q.den.a q.den.n q.den.c] 30)).alloc (.cells #[.bool false, .slice none 0 0] 28)) from (((Below.refl _ _).alloc (by simp) _).alloc (by simp) _))
    go_enter Try.func93, Try.ntmps93
    go_wp2_with fail
    refine (divS_v q.num q.den N D _ ((unhide H1).1.later (unhide B0)) ((unhide H1).2.later (unhide B0)) (by have := unhide HD; omega) (unhide K1) (unhide K2)).mono ?_
    rintro e w1 ⟨x, y, rfl, hb, ox, oy⟩
    have s1 : w.heap.size + 1 + 1 ≤ w1.heap.size := by have := hb.size; simp at this; omega
    replace ox := ox.wide (lo' := w.heap.size + 1 + 1) (by simp) (Nat.le_refl _)
    have hy : y.g = true := by obtain ⟨us, h1, h2⟩ := oy.is; have h3 := h1.sg; simp only at h3; rw [h3]; exact (unhide SG)
    obtain ⟨yg, ya, yn, yc⟩ := y
    obtain rfl : yg = true := hy
    have k1_0 : w1.cell? ⟨w.heap.size + 1, 0, none⟩ = some (.bool false) := cell_later hb (by simp [go_sem])
    have k1_1 : w1.cell? ⟨w.heap.size + 1, 1, none⟩ = some (.slice none 0 0) := cell_later hb (by simp [go_sem])
    have z1 : ∀ o, w1.frozen? ⟨w.heap.size + 1, o, none⟩ = false := fun o => frozen_later hb (by simp) (by simp [go_sem])
    have OX := hide (ox)
    have HB := hide (below_on (unhide B0) hb)
    clear hb
    clear ox oy
    go_upto_region 3 with fail
    have hb : Below w1.heap.size w1 ((w1.alloc (.cells #[.bool x.g, .slice x.a x.n x.c] 28)).alloc (.cells #[.bool true, .slice ya yn yc] 28)) := (((Below.refl _ _).alloc (by simp) _).alloc (by simp) _)
    have k2_0 : ((w1.alloc (.cells #[.bool x.g, .slice x.a x.n x.c] 28)).alloc (.cells #[.bool true, .slice ya yn yc] 28)).cell? ⟨w1.heap.size, 0, none⟩ = some (.bool x.g) := by simp [go_sem]
    have k2_1 : ((w1.alloc (.cells #[.bool x.g, .slice x.a x.n x.c] 28)).alloc (.cells #[.bool true, .slice ya yn yc] 28)).cell? ⟨w1.heap.size, 1, none⟩ = some (.slice x.a x.n x.c) := by simp [go_sem]
    replace k1_0 : ((w1.alloc (.cells #[.bool x.g, .slice x.a x.n x.c] 28)).alloc (.cells #[.bool true, .slice ya yn yc] 28)).cell? ⟨w.heap.size + 1, 0, none⟩ = some (.bool false) := (ca_other (ca_other k1_0))
    replace k1_1 : ((w1.alloc (.cells #[.bool x.g, .slice x.a x.n x.c] 28)).alloc (.cells #[.bool true, .slice ya yn yc] 28)).cell? ⟨w.heap.size + 1, 1, none⟩ = some (.slice none 0 0) := (ca_other (ca_other k1_1))
    replace z1 : ∀ o, ((w1.alloc (.cells #[.bool x.g, .slice x.a x.n x.c] 28)).alloc (.cells #[.bool true, .slice ya yn yc] 28)).frozen? ⟨w.heap.size + 1, o, none⟩ = false := fun o => frozen_later hb (by omega) (z1 o)
    replace OX := hide ((unhide OX).later hb)
    replace HB := hide (below_on (unhide HB) hb)
    have szw2 := hb.size
    clear hb
    generalize ((w1.alloc (.cells #[.bool x.g, .slice x.a x.n x.c] 28)).alloc (.cells #[.bool true, .slice ya yn yc] 28)) = w2 at *
    have ne2_1 : w1.heap.size ≠ w.heap.size + 1 := by omega
    go_region_held3 (fun w' => w'.cell? ⟨w1.heap.size, 0, none⟩ = some (.bool x.g) ∧ w'.cell? ⟨w1.heap.size, 1, none⟩ = some (.slice x.a x.n x.c)) (with_reducible (first | exact ⟨k2_0, k2_1⟩ | exact ⟨cd_other k2_0, cd_other k2_1⟩ | exact ⟨cs_other (cs_other (k2_0) ne2_1) ne2_1, cs_other (cs_other (k2_1) ne2_1) ne2_1⟩ | fail))
      (first
      | (go_at_call 94; refine (ofS_v 1 _ (by omega) (by omega)).mono ?_; rintro e w3 ⟨u, lu, rfl, hb, ou, au, nu⟩; have hbx : Below w2.heap.size w2 w3 := below_of_drew hb; have szw3 := hbx.size; replace z1 := fun o => frozen_later hbx (World.block_lt_of_cell? _ _ k1_0) (z1 o); replace k1_0 := cell_later hbx k1_0; replace k1_1 := cell_later hbx k1_1; replace k2_0 := cell_later hbx k2_0; replace k2_1 := cell_later hbx k2_1; replace OX := hide ((unhide OX).later hbx); have PU := hide (outN_ow ou au nu); have HBr := hide hbx; clear hbx hb ou au nu)
      | (go_at_call 154; refine (subS_v x u _ 1 _ ?_ ?_ (unhide KX) ((Bd.small (by decide)).mono (by omega))).mono ?_; exact (unhide OX).is.later (Below.refl _ _); exact (unhide PU).is.later (Below.refl _ _); rintro e w4 ⟨z, lz, rfl, hb, oz, az, nz⟩; have hbx : Below w3.heap.size w3 w4 := hb; have szw4 := hbx.size; replace z1 := fun o => frozen_later hbx (World.block_lt_of_cell? _ _ k1_0) (z1 o); replace k1_0 := cell_later hbx k1_0; replace k1_1 := cell_later hbx k1_1; replace k2_0 := cell_later hbx k2_0; replace k2_1 := cell_later hbx k2_1; replace OX := hide ((unhide OX).later hbx); replace PU := hide ((unhide PU).later hbx); have OZ := hide (And.intro oz (And.intro az nz)); have HBr := hide (below_on (unhide HBr) hbx); clear hbx hb oz az nz))
    replace HB := hide (below_on (unhide HB) (unhide HBr))
    clear HBr
    go_wp2
    refine bodyPost_ret (v := .agg #[.bool z.g, .slice z.a z.n z.c]) (by simp [results, Try.results93, go_sem, k1_0, k1_1]) rfl ?_
    have oo := (unhide OZ).1
    have aa := (unhide OZ).2.1
    have nn := (unhide OZ).2.2
    rw [unhide FL] at oo aa nn
    exact outN_fin (b := z) (R := w.heap.size + 1) (by omega) (unhide HB) (metB_but (w5 := w4) (v := z) (G := w.heap.size + 1)) (oo.wide (by omega) (Nat.le_refl _)) aa nn
  · rw [if_neg c] at T
    have FL := hide T.1
    have SG := hide T.2
    clear T c
    have B0 := hide (show Below w.heap.size w ((w.alloc (.cells #[.bool q.num.g, .slice q.num.a q.num.n q.num.c, .bool q.den.g, .slice q.den.a q.den.n q.den.c] 30)).alloc (.cells #[.bool false, .slice none 0 0] 28)) from (((Below.refl _ _).alloc (by simp) _).alloc (by simp) _))
    go_enter Try.func93, Try.ntmps93
    go_wp2_with fail
    refine (divS_v q.num q.den N D _ ((unhide H1).1.later (unhide B0)) ((unhide H1).2.later (unhide B0)) (by have := unhide HD; omega) (unhide K1) (unhide K2)).mono ?_
    rintro e w1 ⟨x, y, rfl, hb, ox, oy⟩
    have s1 : w.heap.size + 1 + 1 ≤ w1.heap.size := by have := hb.size; simp at this; omega
    replace ox := ox.wide (lo' := w.heap.size + 1 + 1) (by simp) (Nat.le_refl _)
    have hy : y.g = false := by obtain ⟨us, h1, h2⟩ := oy.is; have h3 := h1.sg; simp only at h3; rw [h3]; exact (unhide SG)
    obtain ⟨yg, ya, yn, yc⟩ := y
    obtain rfl : yg = false := hy
    have k1_0 : w1.cell? ⟨w.heap.size + 1, 0, none⟩ = some (.bool false) := cell_later hb (by simp [go_sem])
    have k1_1 : w1.cell? ⟨w.heap.size + 1, 1, none⟩ = some (.slice none 0 0) := cell_later hb (by simp [go_sem])
    have z1 : ∀ o, w1.frozen? ⟨w.heap.size + 1, o, none⟩ = false := fun o => frozen_later hb (by simp) (by simp [go_sem])
    have OX := hide (ox)
    have HB := hide (below_on (unhide B0) hb)
    clear hb
    clear ox oy
    go_upto_region 4 with fail
    have hb : Below w1.heap.size w1 ((w1.alloc (.cells #[.bool x.g, .slice x.a x.n x.c] 28)).alloc (.cells #[.bool false, .slice ya yn yc] 28)) := (((Below.refl _ _).alloc (by simp) _).alloc (by simp) _)
    have k2_0 : ((w1.alloc (.cells #[.bool x.g, .slice x.a x.n x.c] 28)).alloc (.cells #[.bool false, .slice ya yn yc] 28)).cell? ⟨w1.heap.size, 0, none⟩ = some (.bool x.g) := by simp [go_sem]
    have k2_1 : ((w1.alloc (.cells #[.bool x.g, .slice x.a x.n x.c] 28)).alloc (.cells #[.bool false, .slice ya yn yc] 28)).cell? ⟨w1.heap.size, 1, none⟩ = some (.slice x.a x.n x.c) := by simp [go_sem]
    replace k1_0 : ((w1.alloc (.cells #[.bool x.g, .slice x.a x.n x.c] 28)).alloc (.cells #[.bool false, .slice ya yn yc] 28)).cell? ⟨w.heap.size + 1, 0, none⟩ = some (.bool false) := (ca_other (ca_other k1_0))
    replace k1_1 : ((w1.alloc (.cells #[.bool x.g, .slice x.a x.n x.c] 28)).alloc (.cells #[.bool false, .slice ya yn yc] 28)).cell? ⟨w.heap.size + 1, 1, none⟩ = some (.slice none 0 0) := (ca_other (ca_other k1_1))
    replace z1 : ∀ o, ((w1.alloc (.cells #[.bool x.g, .slice x.a x.n x.c] 28)).alloc (.cells #[.bool false, .slice ya yn yc] 28)).frozen? ⟨w.heap.size + 1, o, none⟩ = false := fun o => frozen_later hb (by omega) (z1 o)
    replace OX := hide ((unhide OX).later hb)
    replace HB := hide (below_on (unhide HB) hb)
    have szw2 := hb.size
    clear hb
    generalize ((w1.alloc (.cells #[.bool x.g, .slice x.a x.n x.c] 28)).alloc (.cells #[.bool false, .slice ya yn yc] 28)) = w2 at *
    go_wp2
    refine bodyPost_ret (v := .agg #[.bool x.g, .slice x.a x.n x.c]) (by simp [results, Try.results93, go_sem, k1_0, k1_1]) rfl ?_
    obtain ⟨xs, o1, o2, o3⟩ := unhide OX
    rw [unhide FL] at o1 o2 o3
    exact outN_fin (b := x) (R := w.heap.size + 1) (by omega) (unhide HB) (metB_but (w5 := w2) (v := x) (G := w.heap.size + 1)) (o1.wide (by omega) (by omega)) o2 o3

end Go.Proofs.Ytlmeokeanihhoaa
namespace Go.Proofs.Ytlmeokeanihhoaa
open Go.RowKit
set_option linter.unusedVariables false
set_option maxRecDepth 100000
set_option linter.unusedSimpArgs false

theorem cmpZ_lt1 {A B : Int} (h : A < B) : decide (cmpZ A B < 0) = true := by unfold cmpZ; rw [if_pos h]; rfl
theorem cmpZ_lt0 {A B : Int} (h : ¬ A < B) : decide (cmpZ A B < 0) = false := by unfold cmpZ; rw [if_neg h]; split <;> rfl
/-- The boxes of the least and the greatest so far. -/
structure Lst (w wr : World) (G1 G2 : Nat) (q1 q2 : QV) : Prop where
  a0 : wr.cell? ⟨G1, 0, none⟩ = some (.bool q1.num.g)
  a1 : wr.cell? ⟨G1, 1, none⟩ = some (.slice q1.num.a q1.num.n q1.num.c)
  a2 : wr.cell? ⟨G1, 2, none⟩ = some (.bool q1.den.g)
  a3 : wr.cell? ⟨G1, 3, none⟩ = some (.slice q1.den.a q1.den.n q1.den.c)
  b0 : wr.cell? ⟨G2, 0, none⟩ = some (.bool q2.num.g)
  b1 : wr.cell? ⟨G2, 1, none⟩ = some (.slice q2.num.a q2.num.n q2.num.c)
  b2 : wr.cell? ⟨G2, 2, none⟩ = some (.bool q2.den.g)
  b3 : wr.cell? ⟨G2, 3, none⟩ = some (.slice q2.den.a q2.den.n q2.den.c)
  f1 : ∀ o, wr.frozen? ⟨G1, o, none⟩ = false
  f2 : ∀ o, wr.frozen? ⟨G2, o, none⟩ = false
  r0 : wr.cell? ⟨w.heap.size + 1, 0, none⟩ = some (.bool false)
  r1 : wr.cell? ⟨w.heap.size + 1, 1, none⟩ = some (.slice none 0 0)
  r2 : wr.cell? ⟨w.heap.size + 1, 2, none⟩ = some (.bool false)
  r3 : wr.cell? ⟨w.heap.size + 1, 3, none⟩ = some (.slice none 0 0)
  r4 : wr.cell? ⟨w.heap.size + 1, 4, none⟩ = some (.bool false)
  r5 : wr.cell? ⟨w.heap.size + 1, 5, none⟩ = some (.slice none 0 0)
  r6 : wr.cell? ⟨w.heap.size + 1, 6, none⟩ = some (.bool false)
  r7 : wr.cell? ⟨w.heap.size + 1, 7, none⟩ = some (.slice none 0 0)
  fr : ∀ o, wr.frozen? ⟨w.heap.size + 1, o, none⟩ = false
  bel : Below w.heap.size w wr
theorem Lst.later {w wr wy : World} {G1 G2 : Nat} {q1 q2 : QV} (h : Lst w wr G1 G2 q1 q2) (hb : Below wr.heap.size wr wy) : Lst w wy G1 G2 q1 q2 :=
  ⟨cell_later hb h.a0, cell_later hb h.a1, cell_later hb h.a2, cell_later hb h.a3, cell_later hb h.b0, cell_later hb h.b1, cell_later hb h.b2, cell_later hb h.b3, fun o => frozen_later hb (World.block_lt_of_cell? _ _ h.a0) (h.f1 o), fun o => frozen_later hb (World.block_lt_of_cell? _ _ h.b0) (h.f2 o), cell_later hb h.r0, cell_later hb h.r1, cell_later hb h.r2, cell_later hb h.r3, cell_later hb h.r4, cell_later hb h.r5, cell_later hb h.r6, cell_later hb h.r7, fun o => frozen_later hb (World.block_lt_of_cell? _ _ h.r0) (h.fr o), below_on h.bel hb⟩
theorem Lst.set1 {w wr : World} {G1 G2 : Nat} {q1 q2 q : QV} (h : Lst w wr G1 G2 q1 q2) (hne : G1 ≠ G2) (g1 : w.heap.size + 1 < G1) (g2 : w.heap.size + 1 < G2) : Lst w ((((wr.setCell ⟨G1, 0, none⟩ (.bool q.num.g)).setCell ⟨G1, 1, none⟩ (.slice q.num.a q.num.n q.num.c)).setCell ⟨G1, 2, none⟩ (.bool q.den.g)).setCell ⟨G1, 3, none⟩ (.slice q.den.a q.den.n q.den.c)) G1 G2 q q2 :=
  ⟨by simp [go_sem, h.a0, h.a1, h.a2, h.a3], by simp [go_sem, h.a0, h.a1, h.a2, h.a3], by simp [go_sem, h.a0, h.a1, h.a2, h.a3], by simp [go_sem, h.a0, h.a1, h.a2, h.a3], cs_other (cs_other (cs_other (cs_other h.b0 (fun e => hne e.symm)) (fun e => hne e.symm)) (fun e => hne e.symm)) (fun e => hne e.symm), cs_other (cs_other (cs_other (cs_other h.b1 (fun e => hne e.symm)) (fun e => hne e.symm)) (fun e => hne e.symm)) (fun e => hne e.symm), cs_other (cs_other (cs_other (cs_other h.b2 (fun e => hne e.symm)) (fun e => hne e.symm)) (fun e => hne e.symm)) (fun e => hne e.symm), cs_other (cs_other (cs_other (cs_other h.b3 (fun e => hne e.symm)) (fun e => hne e.symm)) (fun e => hne e.symm)) (fun e => hne e.symm), fun o => by simp [go_sem, h.f1 o], fun o => by simp [go_sem, h.f2 o], cs_other (cs_other (cs_other (cs_other h.r0 (by omega)) (by omega)) (by omega)) (by omega), cs_other (cs_other (cs_other (cs_other h.r1 (by omega)) (by omega)) (by omega)) (by omega), cs_other (cs_other (cs_other (cs_other h.r2 (by omega)) (by omega)) (by omega)) (by omega), cs_other (cs_other (cs_other (cs_other h.r3 (by omega)) (by omega)) (by omega)) (by omega), cs_other (cs_other (cs_other (cs_other h.r4 (by omega)) (by omega)) (by omega)) (by omega), cs_other (cs_other (cs_other (cs_other h.r5 (by omega)) (by omega)) (by omega)) (by omega), cs_other (cs_other (cs_other (cs_other h.r6 (by omega)) (by omega)) (by omega)) (by omega), cs_other (cs_other (cs_other (cs_other h.r7 (by omega)) (by omega)) (by omega)) (by omega), fun o => by simp [go_sem, h.fr o], ((((h.bel.setCell (by show w.heap.size ≤ G1; omega) _).setCell (by show w.heap.size ≤ G1; omega) _).setCell (by show w.heap.size ≤ G1; omega) _).setCell (by show w.heap.size ≤ G1; omega) _)⟩
end Go.Proofs.Ytlmeokeanihhoaa
namespace Go.Proofs.Ytlmeokeanihhoaa
open Go.RowKit
set_option linter.unusedVariables false
set_option maxRecDepth 100000
set_option linter.unusedSimpArgs false

/-- In lowest terms, the denominator above 0. -/
structure Low (N D : Int) : Prop where
  pos : 0 < D
  co : Nat.gcd N.natAbs D.natAbs = 1
theorem Low.same {N D N' D' : Int} (h : Low N D) (k : Low N' D') (e : N * D' = N' * D) : N = N' ∧ D = D' := by
  have h1 : D.natAbs ∣ D'.natAbs := by
    have : D.natAbs ∣ N.natAbs * D'.natAbs := by rw [← Int.natAbs_mul, e, Int.natAbs_mul]; exact Nat.dvd_mul_left _ _
    exact Nat.Coprime.dvd_of_dvd_mul_left (by rw [Nat.Coprime, Nat.gcd_comm]; exact h.co) this
  have h2 : D'.natAbs ∣ D.natAbs := by
    have : D'.natAbs ∣ N'.natAbs * D.natAbs := by rw [← Int.natAbs_mul, ← e, Int.natAbs_mul]; exact Nat.dvd_mul_left _ _
    exact Nat.Coprime.dvd_of_dvd_mul_left (by rw [Nat.Coprime, Nat.gcd_comm]; exact k.co) this
  have h3 : D.natAbs = D'.natAbs := Nat.dvd_antisymm h1 h2
  have hp := h.pos
  have kp := k.pos
  have h4 : D = D' := by omega
  subst h4
  exact ⟨Int.eq_of_mul_eq_mul_right (by omega) e, rfl⟩
theorem low_low {N D : Int} (h : D ≠ 0) : Low (lowN N D) (lowD N D) := by
  refine ⟨lowD_pos h, ?_⟩
  have hg := gcd_pos_right (N := N) h
  have e1 : (lowN N D).natAbs = N.natAbs / Nat.gcd N.natAbs D.natAbs := by
    have h1 := lowN_abs N D
    unfold lowU at h1
    rw [← Int.natCast_ediv] at h1
    exact_mod_cast h1
  have e2 : (lowD N D).natAbs = D.natAbs / Nat.gcd N.natAbs D.natAbs := by
    have h1 := lowD_abs N D
    unfold lowD at h1 ⊢
    rw [← Int.natCast_ediv, Int.natAbs_natCast]
  rw [e1, e2]
  exact Nat.gcd_div_gcd_div_gcd_of_pos_right (by omega)
theorem low_cross {N D : Int} (h : 0 < D) : lowN N D * D = N * lowD N D := by
  have hg := gcd_pos_right (N := N) (show D ≠ 0 by omega)
  have d1 : ((Nat.gcd N.natAbs D.natAbs : Nat) : Int) ∣ (N.natAbs : Int) := by exact_mod_cast Nat.gcd_dvd_left _ _
  have d2 : ((Nat.gcd N.natAbs D.natAbs : Nat) : Int) ∣ (D.natAbs : Int) := by exact_mod_cast Nat.gcd_dvd_right _ _
  have m1 := Int.ediv_mul_cancel d1
  have m2 := Int.ediv_mul_cancel d2
  unfold lowN lowD lowU sU
  generalize (N.natAbs : Int) / ((Nat.gcd N.natAbs D.natAbs : Nat) : Int) = a at *
  generalize (D.natAbs : Int) / ((Nat.gcd N.natAbs D.natAbs : Nat) : Int) = b at *
  generalize ((Nat.gcd N.natAbs D.natAbs : Nat) : Int) = g at *
  rw [decide_eq_false (show ¬ D < 0 by omega)]
  have hD : D = b * g := by omega
  by_cases c : N < 0
  · have hN : N = -(a * g) := by omega
    rw [decide_eq_true c, if_pos (by rfl), hN, hD]
    simp only [Int.neg_mul, Int.mul_neg, Int.mul_comm, Int.mul_left_comm]
  · have hN : N = a * g := by omega
    rw [decide_eq_false c, if_neg (by simp), hN, hD]
    simp only [Int.mul_comm, Int.mul_left_comm]
end Go.Proofs.Ytlmeokeanihhoaa
namespace Go.Proofs.Ytlmeokeanihhoaa
open Go.RowKit
set_option linter.unusedVariables false
set_option maxRecDepth 100000
set_option linter.unusedSimpArgs false

end Go.Proofs.Ytlmeokeanihhoaa
namespace Go.Proofs.Ytlmeokeanihhoaa
open Go.RowKit
set_option linter.unusedVariables false
set_option maxRecDepth 100000
set_option linter.unusedSimpArgs false

set_option maxHeartbeats 4000000 in
theorem wholeS (n : Int) (w : World) (h0 : -9223372036854775808 ≤ n) (h1 : n ≤ 9223372036854775807) : Calls Try.prog 95 #[.int .i64 n] w (OutQ w n 1) := by
  have B0 := hide (show Below w.heap.size w (w.alloc (.cells #[.bool false, .slice none 0 0, .bool false, .slice none 0 0] 30)) from ((Below.refl _ _).alloc (by simp) _))
  go_enter Try.func95, Try.ntmps95
  go_wp2_with fail
  refine (ofS_v n _ h0 h1).mono ?_
  rintro e w1 ⟨x1, l1, rfl, hb, o1, a1, n1⟩
  have s1 : w.heap.size + 1 ≤ w1.heap.size := by have := hb.size; simp at this; omega
  replace o1 := o1.wide (lo' := w.heap.size + 1) (by simp) (Nat.le_refl _)
  have k0_0 : w1.cell? ⟨w.heap.size, 0, none⟩ = some (.bool false) := cell_later hb (by simp [go_sem])
  have k0_1 : w1.cell? ⟨w.heap.size, 1, none⟩ = some (.slice none 0 0) := cell_later hb (by simp [go_sem])
  have k0_2 : w1.cell? ⟨w.heap.size, 2, none⟩ = some (.bool false) := cell_later hb (by simp [go_sem])
  have k0_3 : w1.cell? ⟨w.heap.size, 3, none⟩ = some (.slice none 0 0) := cell_later hb (by simp [go_sem])
  have z0 : ∀ o, w1.frozen? ⟨w.heap.size, o, none⟩ = false := fun o => frozen_later hb (by simp) (by simp [go_sem])
  have P1 := hide (outN_ow o1 a1 n1)
  have HB := hide (below_on (unhide B0) hb)
  clear hb
  clear o1 a1 n1
  go_wp2_with fail
  refine (ofS_v 1 _ (by omega) (by omega)).mono ?_
  rintro e w2 ⟨x2, l2, rfl, hb, o2, a2, n2⟩
  have s2 := hb.size
  replace z0 := fun o => frozen_later hb (World.block_lt_of_cell? _ _ k0_0) (z0 o)
  replace k0_0 := cell_later hb k0_0
  replace k0_1 := cell_later hb k0_1
  replace k0_2 := cell_later hb k0_2
  replace k0_3 := cell_later hb k0_3
  replace P1 := hide ((unhide P1).later hb)
  have P2 := hide (outN_ow o2 a2 n2)
  replace HB := hide (below_on (unhide HB) hb)
  clear hb
  clear o2 a2 n2
  go_wp2
  refine bodyPost_ret (v := .agg #[.bool x1.g, .slice x1.a x1.n x1.c, .bool x2.g, .slice x2.a x2.n x2.c]) (by simp [results, Try.results95, go_sem, k0_0, k0_1, k0_2, k0_3]) rfl ?_
  obtain ⟨zs, us, oo, aa, m1, m2⟩ := (unhide P1).two (unhide P2) s1 s2
  exact outQ_fin (q := ⟨x1, x2⟩) (R := w.heap.size) (Nat.le_refl _) (unhide HB) (metQ_but (w5 := w2) (v := ⟨x1, x2⟩) (G := w.heap.size)) oo aa m1 m2

/-- Whether a span has 0 within, as the program asks. -/
def hN (d : SD) : Bool := (d.lo.num.g || decide (d.lo.num.xs.length = 0)) && !d.hi.num.g
end Go.Proofs.Ytlmeokeanihhoaa
namespace Go.Proofs.Ytlmeokeanihhoaa
open Go.RowKit
set_option linter.unusedVariables false
set_option maxRecDepth 100000
set_option linter.unusedSimpArgs false

/-- A fraction in memory of the call's own. -/
def OwQ (lo hi : Nat) (w : World) (x : QV) (N D : Int) : Prop := ∃ xs us, AllOwn lo hi w [(x.num, ⟨decide (N < 0), xs⟩), (x.den, ⟨decide (D < 0), us⟩)] ∧ AllAr w [(x.num, ⟨decide (N < 0), xs⟩), (x.den, ⟨decide (D < 0), us⟩)] ∧ Nm xs N.natAbs ∧ Nm us D.natAbs
theorem OwQ.later {lo hi : Nat} {w w' : World} {x : QV} {N D : Int} (h : OwQ lo hi w x N D) (hb : Below w.heap.size w w') : OwQ lo hi w' x N D := by
  obtain ⟨xs, us, h1, h2, h3, h4⟩ := h
  exact ⟨xs, us, h1.later hb, h2.later hb, h3, h4⟩
theorem OwQ.wide {lo hi lo' hi' : Nat} {w : World} {x : QV} {N D : Int} (h : OwQ lo hi w x N D) (h1 : lo' ≤ lo) (h2 : hi ≤ hi') : OwQ lo' hi' w x N D := by
  obtain ⟨xs, us, k1, k2, k3, k4⟩ := h
  exact ⟨xs, us, k1.wide h1 h2, k2, k3, k4⟩
theorem OwQ.is {lo hi : Nat} {w : World} {x : QV} {N D : Int} (h : OwQ lo hi w x N D) : IsQ w x N D := by
  obtain ⟨xs, us, k1, k2, k3, k4⟩ := h
  exact isQ_of k2 k3 k4
theorem owQ_two {lo mid hi : Nat} {w : World} {x y : BV} {N D : Int} (h : Ow lo mid w x N) (k : Ow mid hi w y D) (h1 : lo ≤ mid) (h2 : mid ≤ hi) : OwQ lo hi w ⟨x, y⟩ N D := by
  obtain ⟨zs, us, oo, aa, m1, m2⟩ := h.two k h1 h2
  exact ⟨zs, us, oo, aa, m1, m2⟩
/-- A variable's box that holds a fraction of the call's own. -/
structure BxA (wk wx : World) (G : Nat) (x : QV) (N D : Int) : Prop where
  lo : wk.heap.size ≤ G
  hi : G < wx.heap.size
  c0 : wx.cell? ⟨G, 0, none⟩ = some (.bool x.num.g)
  c1 : wx.cell? ⟨G, 1, none⟩ = some (.slice x.num.a x.num.n x.num.c)
  c2 : wx.cell? ⟨G, 2, none⟩ = some (.bool x.den.g)
  c3 : wx.cell? ⟨G, 3, none⟩ = some (.slice x.den.a x.den.n x.den.c)
  fz : ∀ o, wx.frozen? ⟨G, o, none⟩ = false
  ow : OwQ wk.heap.size wx.heap.size wx x N D
  bel : Below wk.heap.size wk wx
theorem bxA_alloc {wk w5 : World} {x : QV} {N D : Int} {B1 H1 B2 H2 : Nat} (t : TypeId) (hk : Below wk.heap.size wk w5) (how1 : Ow B1 H1 w5 x.num N) (how2 : Ow B2 H2 w5 x.den D) (hB : wk.heap.size ≤ B1) (hm : H1 ≤ B2) (h1 : B1 ≤ H1) (h2 : B2 ≤ H2) (hH : H2 ≤ w5.heap.size) : BxA wk (w5.alloc (.cells #[.bool x.num.g, .slice x.num.a x.num.n x.num.c, .bool x.den.g, .slice x.den.a x.den.n x.den.c] t)) w5.heap.size x N D :=
  ⟨hk.size, by simp, by simp [go_sem], by simp [go_sem], by simp [go_sem], by simp [go_sem], fun o => by simp [go_sem], ((owQ_two (how1.wide (Nat.le_refl _) hm) how2 (by omega) (by omega)).later ((Below.refl _ _).alloc (Nat.le_refl _) _)).wide hB (by simp; omega), hk.alloc hk.size _⟩
theorem bxA_set {wk w5 : World} {x : QV} {N D : Int} {B1 H1 B2 H2 G : Nat} {z0 : Value} {z1 : Value} {z2 : Value} {z3 : Value} (hk : Below wk.heap.size wk w5) (how1 : Ow B1 H1 w5 x.num N) (how2 : Ow B2 H2 w5 x.den D) (hB : wk.heap.size ≤ B1) (hm : H1 ≤ B2) (h1 : B1 ≤ H1) (h2 : B2 ≤ H2) (hH : H2 ≤ w5.heap.size) (hG : wk.heap.size ≤ G) (g1 : G < B1 ∨ H1 ≤ G) (g2 : G < B2 ∨ H2 ≤ G) (e0 : w5.cell? ⟨G, 0, none⟩ = some z0) (e1 : w5.cell? ⟨G, 1, none⟩ = some z1) (e2 : w5.cell? ⟨G, 2, none⟩ = some z2) (e3 : w5.cell? ⟨G, 3, none⟩ = some z3) (ef : ∀ o, w5.frozen? ⟨G, o, none⟩ = false) : BxA wk ((((w5.setCell ⟨G, 0, none⟩ (.bool x.num.g)).setCell ⟨G, 1, none⟩ (.slice x.num.a x.num.n x.num.c)).setCell ⟨G, 2, none⟩ (.bool x.den.g)).setCell ⟨G, 3, none⟩ (.slice x.den.a x.den.n x.den.c)) G x N D := by
  have hb := metQ_but (w5 := w5) (v := x) (G := G)
  have hlt : G < w5.heap.size := World.block_lt_of_cell? _ _ e0
  refine ⟨hG, by have := hb.size; omega, ?_, ?_, ?_, ?_, fun o => by simp [go_sem, ef o], (owQ_two ((how1.but hb (by omega)).wide (Nat.le_refl _) hm) (how2.but hb (by omega)) (by omega) (by omega)).wide hB (by have := hb.size; omega), hb.below hk hG hk.size⟩
  · simp [go_sem, e0, e1, e2, e3]
  · simp [go_sem, e0, e1, e2, e3]
  · simp [go_sem, e0, e1, e2, e3]
  · simp [go_sem, e0, e1, e2, e3]
/-- A number whose limbs lie outside the blocks from B to below E. -/
def IsBo (B E : Nat) (w : World) (b : BV) (V : Int) : Prop := IsB w b V ∧ (V = 0 ∨ ∃ p : Addr, b.a = some p ∧ (p.block < B ∨ E ≤ p.block))
def IsQo (B E : Nat) (w : World) (q : QV) (N D : Int) : Prop := IsBo B E w q.num N ∧ IsBo B E w q.den D
theorem IsBo.later {B E : Nat} {w w' : World} {b : BV} {V : Int} (h : IsBo B E w b V) (hb : Below w.heap.size w w') : IsBo B E w' b V := ⟨h.1.later hb, h.2⟩
theorem IsQo.later {B E : Nat} {w w' : World} {q : QV} {N D : Int} (h : IsQo B E w q N D) (hb : Below w.heap.size w w') : IsQo B E w' q N D := ⟨h.1.later hb, h.2.later hb⟩
theorem IsQo.is {B E : Nat} {w : World} {q : QV} {N D : Int} (h : IsQo B E w q N D) : IsQ w q N D := ⟨h.1.1, h.2.1⟩
theorem isBo_of {B E : Nat} {w : World} {b : BV} {V : Int} (h : IsB w b V) (hB : w.heap.size ≤ B) : IsBo B E w b V := by
  refine ⟨h, ?_⟩
  obtain ⟨xs, h1, h2⟩ := h
  rcases h1.ar.sl with e | ⟨b', off, e, hlt, hc⟩
  · exact .inl (by have := h2.nil_iff.1 e; omega)
  · exact .inr ⟨_, e, .inl (by show b' < B; omega)⟩
theorem isQo_of {B E : Nat} {w : World} {q : QV} {N D : Int} (h : IsQ w q N D) (hB : w.heap.size ≤ B) : IsQo B E w q N D := ⟨isBo_of h.1 hB, isBo_of h.2 hB⟩
theorem isBo_own {B E lo hi : Nat} {w : World} {b : BV} {V : Int} {xs : List Int} {g : Bool} (h : IsB w b V) (ho : Own2 lo hi w b.a xs) (hx : xs = [] → V = 0) (hE : E ≤ lo) : IsBo B E w b V := by
  refine ⟨h, ?_⟩
  rcases ho with e | ⟨b', cur, e, k1, k2, _⟩
  · exact .inl (hx e)
  · exact .inr ⟨_, e, .inr (by show E ≤ b'; omega)⟩
theorem OwQ.out {B E lo hi : Nat} {w : World} {x : QV} {N D : Int} (h : OwQ lo hi w x N D) (hE : E ≤ lo) : IsQo B E w x N D := by
  have hi' := h.is
  obtain ⟨xs, us, k1, k2, k3, k4⟩ := h
  exact ⟨isBo_own (g := true) hi'.1 (k1.own (x.num, ⟨decide (N < 0), xs⟩) (by simp)).own (fun e => by have := k3.nil_iff.1 e; omega) hE, isBo_own (g := true) hi'.2 (k1.own (x.den, ⟨decide (D < 0), us⟩) (by simp)).own (fun e => by have := k4.nil_iff.1 e; omega) hE⟩
theorem IsBo.but {B E lo hi : Nat} {w w' : World} {b : BV} {V : Int} (h : IsBo B E w b V) (hb : But lo hi w w') (hlo : B ≤ lo) (hhi : hi ≤ E) : IsBo B E w' b V := by
  obtain ⟨⟨xs, h1, h2⟩, h3⟩ := h
  refine ⟨⟨xs, ⟨h1.sg, ⟨?_, h1.ar.len, h1.ar.cap, h1.ar.top, h1.ar.addr⟩⟩, h2⟩, h3⟩
  rcases h1.ar.sl with e | ⟨b', off, e, hlt, hc⟩
  · exact .inl e
  · rcases h3 with e0 | ⟨p, hp, hd⟩
    · exact .inl (h2.nil_iff.2 (by omega))
    · rw [e] at hp
      obtain rfl := Option.some.inj hp
      have hd' : b' < B ∨ E ≤ b' := hd
      exact .inr ⟨b', off, e, Nat.lt_of_lt_of_le hlt hb.size, fun i hi => hb.cell (hc i hi) (by omega)⟩
theorem IsQo.but {B E lo hi : Nat} {w w' : World} {q : QV} {N D : Int} (h : IsQo B E w q N D) (hb : But lo hi w w') (hlo : B ≤ lo) (hhi : hi ≤ E) : IsQo B E w' q N D := ⟨h.1.but hb hlo hhi, h.2.but hb hlo hhi⟩
/-- The mids of two fractions, as they are looked at one after another; 0 / 0 where none lies between in time. -/
def midF : Nat → Int → Int → Int → Int → Int → Int → Int → Int → Int × Int
  | 0, _, _, _, _, _, _, _, _ => (0, 0)
  | k + 1, ln, ld, hn, hd, an, ad, bn, bd =>
    if (ln + hn) * ad ≤ an * (ld + hd) then midF k (ln + hn) (ld + hd) hn hd an ad bn bd
    else if bn * (ld + hd) ≤ (ln + hn) * bd then midF k ln ld (ln + hn) (ld + hd) an ad bn bd
    else (ln + hn, ld + hd)
theorem midF_pos (k : Nat) : ∀ (ln ld hn hd an ad bn bd : Int), 0 < ld → 0 < hd → midF k ln ld hn hd an ad bn bd = (0, 0) ∨ 0 < (midF k ln ld hn hd an ad bn bd).2 := by
  induction k with
  | zero => intro _ _ _ _ _ _ _ _ _ _; exact .inl rfl
  | succ k ih =>
    intro ln ld hn hd an ad bn bd h1 h2
    unfold midF
    split
    · exact ih _ _ _ _ _ _ _ _ (by omega) h2
    · split
      · exact ih _ _ _ _ _ _ _ _ h1 (by omega)
      · exact .inr (by show 0 < ld + hd; omega)
theorem midF_lo {k : Nat} {ln ld hn hd an ad bn bd : Int} (c : (ln + hn) * ad ≤ an * (ld + hd)) : midF (k + 1) ln ld hn hd an ad bn bd = midF k (ln + hn) (ld + hd) hn hd an ad bn bd := by rw [midF, if_pos c]
theorem midF_hi {k : Nat} {ln ld hn hd an ad bn bd : Int} (c : ¬ (ln + hn) * ad ≤ an * (ld + hd)) (c' : bn * (ld + hd) ≤ (ln + hn) * bd) : midF (k + 1) ln ld hn hd an ad bn bd = midF k ln ld (ln + hn) (ld + hd) an ad bn bd := by rw [midF, if_neg c, if_pos c']
theorem midF_in {k : Nat} {ln ld hn hd an ad bn bd : Int} (c : ¬ (ln + hn) * ad ≤ an * (ld + hd)) (c' : ¬ bn * (ld + hd) ≤ (ln + hn) * bd) : midF (k + 1) ln ld hn hd an ad bn bd = (ln + hn, ld + hd) := by rw [midF, if_neg c, if_neg c']
theorem cmpZ_le1 {A B : Int} (h : A ≤ B) : decide (cmpZ A B ≤ 0) = true := by rw [cmpZ_le]; exact decide_eq_true h
theorem cmpZ_le0 {A B : Int} (h : ¬ A ≤ B) : decide (cmpZ A B ≤ 0) = false := by rw [cmpZ_le]; exact decide_eq_false h
theorem cmpZ_ge1 {A B : Int} (h : B ≤ A) : decide (0 ≤ cmpZ A B) = true := by unfold cmpZ; rw [if_neg (by omega)]; split <;> rfl
theorem cmpZ_ge0 {A B : Int} (h : ¬ B ≤ A) : decide (0 ≤ cmpZ A B) = false := by unfold cmpZ; rw [if_pos (by omega)]; rfl
/-- The boxes of midBetween. -/
structure Mid (w wr : World) (lq hq aq bq : QV) : Prop where
  p0_0 : wr.cell? ⟨w.heap.size, 0, none⟩ = some (.bool lq.num.g)
  p0_1 : wr.cell? ⟨w.heap.size, 1, none⟩ = some (.slice lq.num.a lq.num.n lq.num.c)
  p0_2 : wr.cell? ⟨w.heap.size, 2, none⟩ = some (.bool lq.den.g)
  p0_3 : wr.cell? ⟨w.heap.size, 3, none⟩ = some (.slice lq.den.a lq.den.n lq.den.c)
  p1_0 : wr.cell? ⟨w.heap.size + 1, 0, none⟩ = some (.bool hq.num.g)
  p1_1 : wr.cell? ⟨w.heap.size + 1, 1, none⟩ = some (.slice hq.num.a hq.num.n hq.num.c)
  p1_2 : wr.cell? ⟨w.heap.size + 1, 2, none⟩ = some (.bool hq.den.g)
  p1_3 : wr.cell? ⟨w.heap.size + 1, 3, none⟩ = some (.slice hq.den.a hq.den.n hq.den.c)
  p2_0 : wr.cell? ⟨w.heap.size + 1 + 1, 0, none⟩ = some (.bool aq.num.g)
  p2_1 : wr.cell? ⟨w.heap.size + 1 + 1, 1, none⟩ = some (.slice aq.num.a aq.num.n aq.num.c)
  p2_2 : wr.cell? ⟨w.heap.size + 1 + 1, 2, none⟩ = some (.bool aq.den.g)
  p2_3 : wr.cell? ⟨w.heap.size + 1 + 1, 3, none⟩ = some (.slice aq.den.a aq.den.n aq.den.c)
  p3_0 : wr.cell? ⟨w.heap.size + 1 + 1 + 1, 0, none⟩ = some (.bool bq.num.g)
  p3_1 : wr.cell? ⟨w.heap.size + 1 + 1 + 1, 1, none⟩ = some (.slice bq.num.a bq.num.n bq.num.c)
  p3_2 : wr.cell? ⟨w.heap.size + 1 + 1 + 1, 2, none⟩ = some (.bool bq.den.g)
  p3_3 : wr.cell? ⟨w.heap.size + 1 + 1 + 1, 3, none⟩ = some (.slice bq.den.a bq.den.n bq.den.c)
  p4_0 : wr.cell? ⟨w.heap.size + 1 + 1 + 1 + 1, 0, none⟩ = some (.bool false)
  p4_1 : wr.cell? ⟨w.heap.size + 1 + 1 + 1 + 1, 1, none⟩ = some (.slice none 0 0)
  p4_2 : wr.cell? ⟨w.heap.size + 1 + 1 + 1 + 1, 2, none⟩ = some (.bool false)
  p4_3 : wr.cell? ⟨w.heap.size + 1 + 1 + 1 + 1, 3, none⟩ = some (.slice none 0 0)
  f0 : ∀ o, wr.frozen? ⟨w.heap.size, o, none⟩ = false
  f1 : ∀ o, wr.frozen? ⟨w.heap.size + 1, o, none⟩ = false
  f4 : ∀ o, wr.frozen? ⟨w.heap.size + 1 + 1 + 1 + 1, o, none⟩ = false
  bel : Below w.heap.size w wr
theorem Mid.later {w wr wy : World} {lq hq aq bq : QV} (h : Mid w wr lq hq aq bq) (hb : Below wr.heap.size wr wy) : Mid w wy lq hq aq bq :=
  ⟨cell_later hb h.p0_0, cell_later hb h.p0_1, cell_later hb h.p0_2, cell_later hb h.p0_3, cell_later hb h.p1_0, cell_later hb h.p1_1, cell_later hb h.p1_2, cell_later hb h.p1_3, cell_later hb h.p2_0, cell_later hb h.p2_1, cell_later hb h.p2_2, cell_later hb h.p2_3, cell_later hb h.p3_0, cell_later hb h.p3_1, cell_later hb h.p3_2, cell_later hb h.p3_3, cell_later hb h.p4_0, cell_later hb h.p4_1, cell_later hb h.p4_2, cell_later hb h.p4_3, fun o => frozen_later hb (World.block_lt_of_cell? _ _ h.p0_0) (h.f0 o), fun o => frozen_later hb (World.block_lt_of_cell? _ _ h.p1_0) (h.f1 o), fun o => frozen_later hb (World.block_lt_of_cell? _ _ h.p4_0) (h.f4 o), below_on h.bel hb⟩
theorem Mid.set0 {w wr : World} {lq hq aq bq q : QV} (h : Mid w wr lq hq aq bq) : Mid w ((((wr.setCell ⟨w.heap.size, 0, none⟩ (.bool q.num.g)).setCell ⟨w.heap.size, 1, none⟩ (.slice q.num.a q.num.n q.num.c)).setCell ⟨w.heap.size, 2, none⟩ (.bool q.den.g)).setCell ⟨w.heap.size, 3, none⟩ (.slice q.den.a q.den.n q.den.c)) q hq aq bq :=
  ⟨by simp [go_sem, h.p0_0, h.p0_1, h.p0_2, h.p0_3], by simp [go_sem, h.p0_0, h.p0_1, h.p0_2, h.p0_3], by simp [go_sem, h.p0_0, h.p0_1, h.p0_2, h.p0_3], by simp [go_sem, h.p0_0, h.p0_1, h.p0_2, h.p0_3], cs_other (cs_other (cs_other (cs_other h.p1_0 (by omega)) (by omega)) (by omega)) (by omega), cs_other (cs_other (cs_other (cs_other h.p1_1 (by omega)) (by omega)) (by omega)) (by omega), cs_other (cs_other (cs_other (cs_other h.p1_2 (by omega)) (by omega)) (by omega)) (by omega), cs_other (cs_other (cs_other (cs_other h.p1_3 (by omega)) (by omega)) (by omega)) (by omega), cs_other (cs_other (cs_other (cs_other h.p2_0 (by omega)) (by omega)) (by omega)) (by omega), cs_other (cs_other (cs_other (cs_other h.p2_1 (by omega)) (by omega)) (by omega)) (by omega), cs_other (cs_other (cs_other (cs_other h.p2_2 (by omega)) (by omega)) (by omega)) (by omega), cs_other (cs_other (cs_other (cs_other h.p2_3 (by omega)) (by omega)) (by omega)) (by omega), cs_other (cs_other (cs_other (cs_other h.p3_0 (by omega)) (by omega)) (by omega)) (by omega), cs_other (cs_other (cs_other (cs_other h.p3_1 (by omega)) (by omega)) (by omega)) (by omega), cs_other (cs_other (cs_other (cs_other h.p3_2 (by omega)) (by omega)) (by omega)) (by omega), cs_other (cs_other (cs_other (cs_other h.p3_3 (by omega)) (by omega)) (by omega)) (by omega), cs_other (cs_other (cs_other (cs_other h.p4_0 (by omega)) (by omega)) (by omega)) (by omega), cs_other (cs_other (cs_other (cs_other h.p4_1 (by omega)) (by omega)) (by omega)) (by omega), cs_other (cs_other (cs_other (cs_other h.p4_2 (by omega)) (by omega)) (by omega)) (by omega), cs_other (cs_other (cs_other (cs_other h.p4_3 (by omega)) (by omega)) (by omega)) (by omega), fun o => by simp [go_sem, h.f0 o], fun o => by simp [go_sem, h.f1 o], fun o => by simp [go_sem, h.f4 o], ((((h.bel.setCell (by show w.heap.size ≤ w.heap.size; omega) _).setCell (by show w.heap.size ≤ w.heap.size; omega) _).setCell (by show w.heap.size ≤ w.heap.size; omega) _).setCell (by show w.heap.size ≤ w.heap.size; omega) _)⟩
theorem Mid.set1 {w wr : World} {lq hq aq bq q : QV} (h : Mid w wr lq hq aq bq) : Mid w ((((wr.setCell ⟨w.heap.size + 1, 0, none⟩ (.bool q.num.g)).setCell ⟨w.heap.size + 1, 1, none⟩ (.slice q.num.a q.num.n q.num.c)).setCell ⟨w.heap.size + 1, 2, none⟩ (.bool q.den.g)).setCell ⟨w.heap.size + 1, 3, none⟩ (.slice q.den.a q.den.n q.den.c)) lq q aq bq :=
  ⟨cs_other (cs_other (cs_other (cs_other h.p0_0 (by omega)) (by omega)) (by omega)) (by omega), cs_other (cs_other (cs_other (cs_other h.p0_1 (by omega)) (by omega)) (by omega)) (by omega), cs_other (cs_other (cs_other (cs_other h.p0_2 (by omega)) (by omega)) (by omega)) (by omega), cs_other (cs_other (cs_other (cs_other h.p0_3 (by omega)) (by omega)) (by omega)) (by omega), by simp [go_sem, h.p1_0, h.p1_1, h.p1_2, h.p1_3], by simp [go_sem, h.p1_0, h.p1_1, h.p1_2, h.p1_3], by simp [go_sem, h.p1_0, h.p1_1, h.p1_2, h.p1_3], by simp [go_sem, h.p1_0, h.p1_1, h.p1_2, h.p1_3], cs_other (cs_other (cs_other (cs_other h.p2_0 (by omega)) (by omega)) (by omega)) (by omega), cs_other (cs_other (cs_other (cs_other h.p2_1 (by omega)) (by omega)) (by omega)) (by omega), cs_other (cs_other (cs_other (cs_other h.p2_2 (by omega)) (by omega)) (by omega)) (by omega), cs_other (cs_other (cs_other (cs_other h.p2_3 (by omega)) (by omega)) (by omega)) (by omega), cs_other (cs_other (cs_other (cs_other h.p3_0 (by omega)) (by omega)) (by omega)) (by omega), cs_other (cs_other (cs_other (cs_other h.p3_1 (by omega)) (by omega)) (by omega)) (by omega), cs_other (cs_other (cs_other (cs_other h.p3_2 (by omega)) (by omega)) (by omega)) (by omega), cs_other (cs_other (cs_other (cs_other h.p3_3 (by omega)) (by omega)) (by omega)) (by omega), cs_other (cs_other (cs_other (cs_other h.p4_0 (by omega)) (by omega)) (by omega)) (by omega), cs_other (cs_other (cs_other (cs_other h.p4_1 (by omega)) (by omega)) (by omega)) (by omega), cs_other (cs_other (cs_other (cs_other h.p4_2 (by omega)) (by omega)) (by omega)) (by omega), cs_other (cs_other (cs_other (cs_other h.p4_3 (by omega)) (by omega)) (by omega)) (by omega), fun o => by simp [go_sem, h.f0 o], fun o => by simp [go_sem, h.f1 o], fun o => by simp [go_sem, h.f4 o], ((((h.bel.setCell (by show w.heap.size ≤ w.heap.size + 1; omega) _).setCell (by show w.heap.size ≤ w.heap.size + 1; omega) _).setCell (by show w.heap.size ≤ w.heap.size + 1; omega) _).setCell (by show w.heap.size ≤ w.heap.size + 1; omega) _)⟩

theorem OutQ.zero {w w' : World} {q : QV} (hq : q = ⟨⟨false, none, 0, 0⟩, ⟨false, none, 0, 0⟩⟩) (hb : Below w.heap.size w w') : OutQ w 0 0 (.returned (.agg #[.bool false, .slice none 0 0, .bool false, .slice none 0 0])) w' := by
  subst hq
  refine ⟨⟨⟨false, none, 0, 0⟩, ⟨false, none, 0, 0⟩⟩, [], [], rfl, hb, zeroQ _ _ _, ?_, Nm.zero, Nm.zero⟩
  exact AllAr.cons ⟨rfl, ⟨.inl rfl, rfl, Nat.le_refl _, Nat.zero_le _, .inl ⟨rfl, rfl⟩⟩⟩ (AllAr.cons ⟨rfl, ⟨.inl rfl, rfl, Nat.le_refl _, Nat.zero_le _, .inl ⟨rfl, rfl⟩⟩⟩ (AllAr.nil _))
set_option maxHeartbeats 8000000 in
theorem midI_v (lq hq aq bq : QV) (ln0 ld0 hn0 hd0 an ad bn bd : Int) (w : World) (jl : IsQ w lq ln0 ld0) (jh : IsQ w hq hn0 hd0) (ja : IsQ w aq an ad) (jb : IsQ w bq bn bd) (kl : Bd ln0 60 ∧ Bd ld0 60) (kh : Bd hn0 60 ∧ Bd hd0 60) (ka : Bd an 60 ∧ Bd ad 60) (kb : Bd bn 60 ∧ Bd bd 60) :
    Calls Try.prog 161 #[.agg #[.bool lq.num.g, .slice lq.num.a lq.num.n lq.num.c, .bool lq.den.g, .slice lq.den.a lq.den.n lq.den.c], .agg #[.bool hq.num.g, .slice hq.num.a hq.num.n hq.num.c, .bool hq.den.g, .slice hq.den.a hq.den.n hq.den.c], .agg #[.bool aq.num.g, .slice aq.num.a aq.num.n aq.num.c, .bool aq.den.g, .slice aq.den.a aq.den.n aq.den.c], .agg #[.bool bq.num.g, .slice bq.num.a bq.num.n bq.num.c, .bool bq.den.g, .slice bq.den.a bq.den.n bq.den.c]] w (OutQ w (midF 200 ln0 ld0 hn0 hd0 an ad bn bd).1 (midF 200 ln0 ld0 hn0 hd0 an ad bn bd).2) := by
  have QL0 := hide (isQo_of (B := w.heap.size) (E := w.heap.size + 5) jl (Nat.le_refl _))
  have QH0 := hide (isQo_of (B := w.heap.size) (E := w.heap.size + 5) jh (Nat.le_refl _))
  have QA0 := hide (isQo_of (B := w.heap.size) (E := w.heap.size + 5) ja (Nat.le_refl _))
  have QB0 := hide (isQo_of (B := w.heap.size) (E := w.heap.size + 5) jb (Nat.le_refl _))
  have KL0 := hide (And.intro kl kh)
  have KA := hide ka
  have KB := hide kb
  clear jl jh ja jb kl kh ka kb
  have B0 := hide (show Below w.heap.size w (((((w.alloc (.cells #[.bool lq.num.g, .slice lq.num.a lq.num.n lq.num.c, .bool lq.den.g, .slice lq.den.a lq.den.n lq.den.c] 30)).alloc (.cells #[.bool hq.num.g, .slice hq.num.a hq.num.n hq.num.c, .bool hq.den.g, .slice hq.den.a hq.den.n hq.den.c] 30)).alloc (.cells #[.bool aq.num.g, .slice aq.num.a aq.num.n aq.num.c, .bool aq.den.g, .slice aq.den.a aq.den.n aq.den.c] 30)).alloc (.cells #[.bool bq.num.g, .slice bq.num.a bq.num.n bq.num.c, .bool bq.den.g, .slice bq.den.a bq.den.n bq.den.c] 30)).alloc (.cells #[.bool false, .slice none 0 0, .bool false, .slice none 0 0] 30)) from ((((((Below.refl _ _).alloc (by simp) _).alloc (by simp) _).alloc (by simp <;> omega) _).alloc (by simp <;> omega) _).alloc (by simp <;> omega) _))
  have M0 : Hid (Mid w (((((w.alloc (.cells #[.bool lq.num.g, .slice lq.num.a lq.num.n lq.num.c, .bool lq.den.g, .slice lq.den.a lq.den.n lq.den.c] 30)).alloc (.cells #[.bool hq.num.g, .slice hq.num.a hq.num.n hq.num.c, .bool hq.den.g, .slice hq.den.a hq.den.n hq.den.c] 30)).alloc (.cells #[.bool aq.num.g, .slice aq.num.a aq.num.n aq.num.c, .bool aq.den.g, .slice aq.den.a aq.den.n aq.den.c] 30)).alloc (.cells #[.bool bq.num.g, .slice bq.num.a bq.num.n bq.num.c, .bool bq.den.g, .slice bq.den.a bq.den.n bq.den.c] 30)).alloc (.cells #[.bool false, .slice none 0 0, .bool false, .slice none 0 0] 30)) lq hq aq bq) := hide ⟨by simp [go_sem], by simp [go_sem], by simp [go_sem], by simp [go_sem], by simp [go_sem], by simp [go_sem], by simp [go_sem], by simp [go_sem], by simp [go_sem], by simp [go_sem], by simp [go_sem], by simp [go_sem], by simp [go_sem], by simp [go_sem], by simp [go_sem], by simp [go_sem], by simp [go_sem], by simp [go_sem], by simp [go_sem], by simp [go_sem], fun o => by simp [go_sem], fun o => by simp [go_sem], fun o => by simp [go_sem], unhide B0⟩
  replace QL0 := hide ((unhide QL0).later (unhide B0))
  replace QH0 := hide ((unhide QH0).later (unhide B0))
  replace QA0 := hide ((unhide QA0).later (unhide B0))
  replace QB0 := hide ((unhide QB0).later (unhide B0))
  clear B0
  go_enter Try.func161, Try.ntmps161
  go_wp2
  go_loopw [10] (fun iv wr => ∃ (i : Nat) (lq hq : QV) (ln ld hn hd : Int), i ≤ 200 ∧ iv = .int .i64 i ∧ Hid (midF (200 - i) ln ld hn hd an ad bn bd = midF 200 ln0 ld0 hn0 hd0 an ad bn bd) ∧ Hid (IsQo w.heap.size (w.heap.size + 5) wr lq ln ld) ∧ Hid (IsQo w.heap.size (w.heap.size + 5) wr hq hn hd) ∧ Hid (IsQo w.heap.size (w.heap.size + 5) wr aq an ad) ∧ Hid (IsQo w.heap.size (w.heap.size + 5) wr bq bn bd) ∧ Hid ((Bd ln (60 + i) ∧ Bd ld (60 + i)) ∧ (Bd hn (60 + i) ∧ Bd hd (60 + i))) ∧ Hid (Mid w wr lq hq aq bq)) (fun iv _ => 200 - (intOf iv).toNat)
  case atStart => exact ⟨0, lq, hq, ln0, ld0, hn0, hd0, by omega, rfl, hide rfl, QL0, QH0, QA0, QB0, KL0, M0⟩
  case round =>
    clear QL0 QH0 QA0 QB0 KL0 M0
    obtain ⟨i, lq, hq, ln, ld, hn, hd, hi, rfl, EM, QL, QH, QA, QB, BL, M⟩ := hrel
    have hsz0 : w.heap.size + 1 + 1 + 1 + 1 < wr.heap.size := World.block_lt_of_cell? _ _ (unhide M).p4_0
    by_cases hlt : i < 200
    · have hlt' : (i : Int) < 200 := by omega
      have K1 := hide (And.intro ((unhide BL).1.1.mono (show 60 + i ≤ 400000 by omega)) ((unhide BL).2.1.mono (show 60 + i ≤ 400000 by omega)))
      have K2 := hide (And.intro ((unhide BL).1.2.mono (show 60 + i ≤ 400000 by omega)) ((unhide BL).2.2.mono (show 60 + i ≤ 400000 by omega)))
      have BM : Hid (Bd (ln + hn) (60 + (i + 1)) ∧ Bd (ld + hd) (60 + (i + 1))) := hide ⟨((unhide BL).1.1.add (unhide BL).2.1).mono (by omega), ((unhide BL).1.2.add (unhide BL).2.2).mono (by omega)⟩
      have k0_0 := (unhide M).p0_0
      have k0_1 := (unhide M).p0_1
      have k0_2 := (unhide M).p0_2
      have k0_3 := (unhide M).p0_3
      have k1_0 := (unhide M).p1_0
      have k1_1 := (unhide M).p1_1
      have k1_2 := (unhide M).p1_2
      have k1_3 := (unhide M).p1_3
      go_upto_region 3 with fail
      go_cut [9] (fun p wx => ∃ (G : Nat) (x : QV), p = .pointer (some ⟨G, 0, none⟩) ∧ Hid (BxA wr wx G x (ln + hn) (ld + hd)))
      case first =>
        go_region_held3 (fun w' => w'.cell? ⟨w.heap.size, 0, none⟩ = some (.bool lq.num.g) ∧ w'.cell? ⟨w.heap.size, 1, none⟩ = some (.slice lq.num.a lq.num.n lq.num.c) ∧ w'.cell? ⟨w.heap.size, 2, none⟩ = some (.bool lq.den.g) ∧ w'.cell? ⟨w.heap.size, 3, none⟩ = some (.slice lq.den.a lq.den.n lq.den.c) ∧ w'.cell? ⟨w.heap.size + 1, 0, none⟩ = some (.bool hq.num.g) ∧ w'.cell? ⟨w.heap.size + 1, 1, none⟩ = some (.slice hq.num.a hq.num.n hq.num.c) ∧ w'.cell? ⟨w.heap.size + 1, 2, none⟩ = some (.bool hq.den.g) ∧ w'.cell? ⟨w.heap.size + 1, 3, none⟩ = some (.slice hq.den.a hq.den.n hq.den.c)) (with_reducible (first | exact ⟨k0_0, k0_1, k0_2, k0_3, k1_0, k1_1, k1_2, k1_3⟩ | exact ⟨cd_other k0_0, cd_other k0_1, cd_other k0_2, cd_other k0_3, cd_other k1_0, cd_other k1_1, cd_other k1_2, cd_other k1_3⟩ | exact ⟨ca_other k0_0, ca_other k0_1, ca_other k0_2, ca_other k0_3, ca_other k1_0, ca_other k1_1, ca_other k1_2, ca_other k1_3⟩ | exact ⟨cd_other (ca_other k0_0), cd_other (ca_other k0_1), cd_other (ca_other k0_2), cd_other (ca_other k0_3), cd_other (ca_other k1_0), cd_other (ca_other k1_1), cd_other (ca_other k1_2), cd_other (ca_other k1_3)⟩ | exact ⟨cs_other (cs_other (cs_other (cs_other (k0_0) (by omega)) (by omega)) (by omega)) (by omega), cs_other (cs_other (cs_other (cs_other (k0_1) (by omega)) (by omega)) (by omega)) (by omega), cs_other (cs_other (cs_other (cs_other (k0_2) (by omega)) (by omega)) (by omega)) (by omega), cs_other (cs_other (cs_other (cs_other (k0_3) (by omega)) (by omega)) (by omega)) (by omega), cs_other (cs_other (cs_other (cs_other (k1_0) (by omega)) (by omega)) (by omega)) (by omega), cs_other (cs_other (cs_other (cs_other (k1_1) (by omega)) (by omega)) (by omega)) (by omega), cs_other (cs_other (cs_other (cs_other (k1_2) (by omega)) (by omega)) (by omega)) (by omega), cs_other (cs_other (cs_other (cs_other (k1_3) (by omega)) (by omega)) (by omega)) (by omega)⟩ | fail))
          (first
          | (go_at_call_of 146 (Value.agg #[Value.bool lq.num.g, Value.slice lq.num.a lq.num.n lq.num.c]); refine (addI_v lq.num hq.num _ _ _ ?_ ?_ (unhide K1).1 (unhide K1).2).mono ?_; (first | exact (unhide QL).1.1.later (Below.refl _ _).drew | exact (unhide QL).1.1.later ((Below.refl _ _).alloc (Nat.le_refl _) _).drew); (first | exact (unhide QH).1.1.later (Below.refl _ _).drew | exact (unhide QH).1.1.later ((Below.refl _ _).alloc (Nat.le_refl _) _).drew); rintro e w1b ⟨x1, l1, rfl, hb, o1, a1, n1⟩; have hbx : Below wr.heap.size wr w1b := (by first | exact below_of_drew hb | exact bad hb); have szw1b := hbx.size; replace k0_0 := cell_later hbx k0_0; replace k0_1 := cell_later hbx k0_1; replace k0_2 := cell_later hbx k0_2; replace k0_3 := cell_later hbx k0_3; replace k1_0 := cell_later hbx k1_0; replace k1_1 := cell_later hbx k1_1; replace k1_2 := cell_later hbx k1_2; replace k1_3 := cell_later hbx k1_3; replace QL := hide ((unhide QL).later hbx); replace QH := hide ((unhide QH).later hbx); have Px1 := hide (outN_ow o1 a1 n1); (try (replace gf := fun o => frozen_later hbx (World.block_lt_of_cell? _ _ g0) (gf o); replace g0 := cell_later hbx g0; replace g1 := cell_later hbx g1; replace g2 := cell_later hbx g2; replace g3 := cell_later hbx g3)); (try (refine cutP (p := w1b.cell? ⟨wr.heap.size, 0, none⟩ = some (.bool false) ∧ w1b.cell? ⟨wr.heap.size, 1, none⟩ = some (.slice none 0 0) ∧ w1b.cell? ⟨wr.heap.size, 2, none⟩ = some (.bool false) ∧ w1b.cell? ⟨wr.heap.size, 3, none⟩ = some (.slice none 0 0) ∧ ∀ o, w1b.frozen? ⟨wr.heap.size, o, none⟩ = false) ?_ (fun dd => ?_); (focus (refine ⟨cell_later hb ?_, cell_later hb ?_, cell_later hb ?_, cell_later hb ?_, fun o => frozen_later hb ?_ ?_⟩ <;> (simp [go_sem]; done))); obtain ⟨g0, g1, g2, g3, gf⟩ := dd)); have zz := hb.size; (try simp at zz); have HBr := hide hbx; clear hbx hb o1 a1 n1)
          | (go_at_call_of 146 (Value.agg #[Value.bool lq.den.g, Value.slice lq.den.a lq.den.n lq.den.c]); refine (addI_v lq.den hq.den _ _ _ ?_ ?_ (unhide K2).1 (unhide K2).2).mono ?_; (first | exact (unhide QL).2.1.later (Below.refl _ _) | exact (unhide QL).2.1.later ((Below.refl _ _).alloc (Nat.le_refl _) _)); (first | exact (unhide QH).2.1.later (Below.refl _ _) | exact (unhide QH).2.1.later ((Below.refl _ _).alloc (Nat.le_refl _) _)); rintro e w2b ⟨x2, l2, rfl, hb, o2, a2, n2⟩; have hbx : Below w1b.heap.size w1b w2b := (by first | exact hb | exact ba hb); have szw2b := hbx.size; replace k0_0 := cell_later hbx k0_0; replace k0_1 := cell_later hbx k0_1; replace k0_2 := cell_later hbx k0_2; replace k0_3 := cell_later hbx k0_3; replace k1_0 := cell_later hbx k1_0; replace k1_1 := cell_later hbx k1_1; replace k1_2 := cell_later hbx k1_2; replace k1_3 := cell_later hbx k1_3; replace QL := hide ((unhide QL).later hbx); replace QH := hide ((unhide QH).later hbx); replace Px1 := hide ((unhide Px1).later hbx); have Px2 := hide (outN_ow o2 a2 n2); (try (replace gf := fun o => frozen_later hbx (World.block_lt_of_cell? _ _ g0) (gf o); replace g0 := cell_later hbx g0; replace g1 := cell_later hbx g1; replace g2 := cell_later hbx g2; replace g3 := cell_later hbx g3)); (try (refine cutP (p := w2b.cell? ⟨w1b.heap.size, 0, none⟩ = some (.bool false) ∧ w2b.cell? ⟨w1b.heap.size, 1, none⟩ = some (.slice none 0 0) ∧ w2b.cell? ⟨w1b.heap.size, 2, none⟩ = some (.bool false) ∧ w2b.cell? ⟨w1b.heap.size, 3, none⟩ = some (.slice none 0 0) ∧ ∀ o, w2b.frozen? ⟨w1b.heap.size, o, none⟩ = false) ?_ (fun dd => ?_); (focus (refine ⟨cell_later hb ?_, cell_later hb ?_, cell_later hb ?_, cell_later hb ?_, fun o => frozen_later hb ?_ ?_⟩ <;> (simp [go_sem]; done))); obtain ⟨g0, g1, g2, g3, gf⟩ := dd)); have zz := hb.size; (try simp at zz); have HBr := hide (below_on (unhide HBr) hbx); clear hbx hb o2 a2 n2))
        all_goals go_wp2_with fail
        all_goals go_meet
        all_goals first
          | (refine ⟨_, ⟨x1, x2⟩, rfl, hide (bxA_alloc (x := ⟨x1, x2⟩) 30 (unhide HBr) (unhide Px1) (unhide Px2) ?_ ?_ ?_ ?_ ?_)⟩ <;> first | omega | (simp; done) | (simp; omega))
          | (refine ⟨_, ⟨x1, x2⟩, rfl, hide (bxA_set (x := ⟨x1, x2⟩) (unhide HBr) (unhide Px1) (unhide Px2) ?_ ?_ ?_ ?_ ?_ ?_ ?_ ?_ g0 g1 g2 g3 gf)⟩ <;> first | omega | (simp; done) | (simp; omega))
      case rest =>
        obtain ⟨G, xG, rfl, HX⟩ := hcut
        have hb := (unhide HX).bel
        have OX := hide (unhide HX).ow
        have g0 := (unhide HX).c0
        have g1 := (unhide HX).c1
        have g2 := (unhide HX).c2
        have g3 := (unhide HX).c3
        have gf := (unhide HX).fz
        replace QL := hide ((unhide QL).later hb)
        replace QH := hide ((unhide QH).later hb)
        replace QA := hide ((unhide QA).later hb)
        replace QB := hide ((unhide QB).later hb)
        replace M := hide ((unhide M).later hb)
        have szc := hb.size
        have gG := (unhide HX).lo
        clear hb HX k0_0 k0_1 k0_2 k0_3 k1_0 k1_1 k1_2 k1_3 K1 K2
        by_cases c1 : (ln + hn) * ad ≤ an * (ld + hd)
        · have t1 : decide (cmpZ ((ln + hn) * ad) (an * (ld + hd)) ≤ 0) = true := cmpZ_le1 c1
          have EN := hide (show midF (200 - (i + 1)) (ln + hn) (ld + hd) hn hd an ad bn bd = midF 200 ln0 ld0 hn0 hd0 an ad bn bd from (midF_lo c1).symm.trans (by have h := unhide EM; rw [show 200 - i = (200 - (i + 1)) + 1 by omega] at h; exact h))
          clear c1
          have p2_0 := (unhide M).p2_0
          have p2_1 := (unhide M).p2_1
          have p2_2 := (unhide M).p2_2
          have p2_3 := (unhide M).p2_3
          go_wp2_with fail
          refine (cmpQI xG aq _ _ _ _ _ (unhide OX).is (unhide QA).is ((unhide BM).1.mono (by omega)) ((unhide BM).2.mono (by omega)) ((unhide KA).1.mono (by omega)) ((unhide KA).2.mono (by omega))).mono ?_
          rintro e w1 ⟨rfl, hb⟩
          replace gf := fun o => frozen_later hb (World.block_lt_of_cell? _ _ g0) (gf o)
          replace g0 := cell_later hb g0
          replace g1 := cell_later hb g1
          replace g2 := cell_later hb g2
          replace g3 := cell_later hb g3
          clear p2_0 p2_1 p2_2 p2_3
          replace OX := hide ((unhide OX).later hb)
          replace QL := hide ((unhide QL).later hb)
          replace QH := hide ((unhide QH).later hb)
          replace QA := hide ((unhide QA).later hb)
          replace QB := hide ((unhide QB).later hb)
          replace M := hide ((unhide M).later hb)
          have sz0 := hb.size
          clear hb
          have p0_0 := (unhide M).p0_0
          have p0_1 := (unhide M).p0_1
          have p0_2 := (unhide M).p0_2
          have p0_3 := (unhide M).p0_3
          have ff := (unhide M).f0
          have MS := hide ((unhide M).set0 (q := xG))
          have bt : Hid (But (w.heap.size) (w.heap.size + 1) w1 ((((w1.setCell ⟨w.heap.size, 0, none⟩ (.bool xG.num.g)).setCell ⟨w.heap.size, 1, none⟩ (.slice xG.num.a xG.num.n xG.num.c)).setCell ⟨w.heap.size, 2, none⟩ (.bool xG.den.g)).setCell ⟨w.heap.size, 3, none⟩ (.slice xG.den.a xG.den.n xG.den.c))) := hide (metQ_but (w5 := w1) (v := xG) (G := w.heap.size))
          go_wp2
          go_roundw
          case rel => exact ⟨i + 1, xG, hq, (ln + hn), (ld + hd), hn, hd, by omega, by go_num, EN, hide (((unhide OX).out (by omega)).but (unhide bt) (by omega) (by omega)), hide ((unhide QH).but (unhide bt) (by omega) (by omega)), hide ((unhide QA).but (unhide bt) (by omega) (by omega)), hide ((unhide QB).but (unhide bt) (by omega) (by omega)), hide ⟨⟨(unhide BM).1.mono (by omega), (unhide BM).2.mono (by omega)⟩, ⟨(unhide BL).2.1.mono (by omega), (unhide BL).2.2.mono (by omega)⟩⟩, MS⟩
          case measure => simp [intOf]; omega
        · by_cases c2 : bn * (ld + hd) ≤ (ln + hn) * bd
          · have t1 : decide (cmpZ ((ln + hn) * ad) (an * (ld + hd)) ≤ 0) = false := cmpZ_le0 c1
            have t2 : decide (0 ≤ cmpZ ((ln + hn) * bd) (bn * (ld + hd))) = true := cmpZ_ge1 c2
            have EN := hide (show midF (200 - (i + 1)) ln ld (ln + hn) (ld + hd) an ad bn bd = midF 200 ln0 ld0 hn0 hd0 an ad bn bd from (midF_hi c1 c2).symm.trans (by have h := unhide EM; rw [show 200 - i = (200 - (i + 1)) + 1 by omega] at h; exact h))
            clear c1 c2
            have p2_0 := (unhide M).p2_0
            have p2_1 := (unhide M).p2_1
            have p2_2 := (unhide M).p2_2
            have p2_3 := (unhide M).p2_3
            go_wp2_with fail
            refine (cmpQI xG aq _ _ _ _ _ (unhide OX).is (unhide QA).is ((unhide BM).1.mono (by omega)) ((unhide BM).2.mono (by omega)) ((unhide KA).1.mono (by omega)) ((unhide KA).2.mono (by omega))).mono ?_
            rintro e w1 ⟨rfl, hb⟩
            replace gf := fun o => frozen_later hb (World.block_lt_of_cell? _ _ g0) (gf o)
            replace g0 := cell_later hb g0
            replace g1 := cell_later hb g1
            replace g2 := cell_later hb g2
            replace g3 := cell_later hb g3
            clear p2_0 p2_1 p2_2 p2_3
            replace OX := hide ((unhide OX).later hb)
            replace QL := hide ((unhide QL).later hb)
            replace QH := hide ((unhide QH).later hb)
            replace QA := hide ((unhide QA).later hb)
            replace QB := hide ((unhide QB).later hb)
            replace M := hide ((unhide M).later hb)
            have sz0 := hb.size
            clear hb
            have p3_0 := (unhide M).p3_0
            have p3_1 := (unhide M).p3_1
            have p3_2 := (unhide M).p3_2
            have p3_3 := (unhide M).p3_3
            go_wp2_with fail
            refine (cmpQI xG bq _ _ _ _ _ (unhide OX).is (unhide QB).is ((unhide BM).1.mono (by omega)) ((unhide BM).2.mono (by omega)) ((unhide KB).1.mono (by omega)) ((unhide KB).2.mono (by omega))).mono ?_
            rintro e w2 ⟨rfl, hb⟩
            replace gf := fun o => frozen_later hb (World.block_lt_of_cell? _ _ g0) (gf o)
            replace g0 := cell_later hb g0
            replace g1 := cell_later hb g1
            replace g2 := cell_later hb g2
            replace g3 := cell_later hb g3
            clear p3_0 p3_1 p3_2 p3_3
            replace OX := hide ((unhide OX).later hb)
            replace QL := hide ((unhide QL).later hb)
            replace QH := hide ((unhide QH).later hb)
            replace QA := hide ((unhide QA).later hb)
            replace QB := hide ((unhide QB).later hb)
            replace M := hide ((unhide M).later hb)
            have sz1 := hb.size
            clear hb
            have p1_0 := (unhide M).p1_0
            have p1_1 := (unhide M).p1_1
            have p1_2 := (unhide M).p1_2
            have p1_3 := (unhide M).p1_3
            have ff := (unhide M).f1
            have MS := hide ((unhide M).set1 (q := xG))
            have bt : Hid (But (w.heap.size + 1) (w.heap.size + 1 + 1) w2 ((((w2.setCell ⟨w.heap.size + 1, 0, none⟩ (.bool xG.num.g)).setCell ⟨w.heap.size + 1, 1, none⟩ (.slice xG.num.a xG.num.n xG.num.c)).setCell ⟨w.heap.size + 1, 2, none⟩ (.bool xG.den.g)).setCell ⟨w.heap.size + 1, 3, none⟩ (.slice xG.den.a xG.den.n xG.den.c))) := hide (metQ_but (w5 := w2) (v := xG) (G := w.heap.size + 1))
            go_wp2
            go_roundw
            case rel => exact ⟨i + 1, lq, xG, ln, ld, (ln + hn), (ld + hd), by omega, by go_num, EN, hide ((unhide QL).but (unhide bt) (by omega) (by omega)), hide (((unhide OX).out (by omega)).but (unhide bt) (by omega) (by omega)), hide ((unhide QA).but (unhide bt) (by omega) (by omega)), hide ((unhide QB).but (unhide bt) (by omega) (by omega)), hide ⟨⟨(unhide BL).1.1.mono (by omega), (unhide BL).1.2.mono (by omega)⟩, ⟨(unhide BM).1.mono (by omega), (unhide BM).2.mono (by omega)⟩⟩, MS⟩
            case measure => simp [intOf]; omega
          · have t1 : decide (cmpZ ((ln + hn) * ad) (an * (ld + hd)) ≤ 0) = false := cmpZ_le0 c1
            have t2 : decide (0 ≤ cmpZ ((ln + hn) * bd) (bn * (ld + hd))) = false := cmpZ_ge0 c2
            have EN := hide (show (ln + hn, ld + hd) = midF 200 ln0 ld0 hn0 hd0 an ad bn bd from (midF_in c1 c2).symm.trans (by have h := unhide EM; rw [show 200 - i = (200 - (i + 1)) + 1 by omega] at h; exact h))
            clear c1 c2
            have p2_0 := (unhide M).p2_0
            have p2_1 := (unhide M).p2_1
            have p2_2 := (unhide M).p2_2
            have p2_3 := (unhide M).p2_3
            go_wp2_with fail
            refine (cmpQI xG aq _ _ _ _ _ (unhide OX).is (unhide QA).is ((unhide BM).1.mono (by omega)) ((unhide BM).2.mono (by omega)) ((unhide KA).1.mono (by omega)) ((unhide KA).2.mono (by omega))).mono ?_
            rintro e w1 ⟨rfl, hb⟩
            replace gf := fun o => frozen_later hb (World.block_lt_of_cell? _ _ g0) (gf o)
            replace g0 := cell_later hb g0
            replace g1 := cell_later hb g1
            replace g2 := cell_later hb g2
            replace g3 := cell_later hb g3
            clear p2_0 p2_1 p2_2 p2_3
            replace OX := hide ((unhide OX).later hb)
            replace QL := hide ((unhide QL).later hb)
            replace QH := hide ((unhide QH).later hb)
            replace QA := hide ((unhide QA).later hb)
            replace QB := hide ((unhide QB).later hb)
            replace M := hide ((unhide M).later hb)
            have sz0 := hb.size
            clear hb
            have p3_0 := (unhide M).p3_0
            have p3_1 := (unhide M).p3_1
            have p3_2 := (unhide M).p3_2
            have p3_3 := (unhide M).p3_3
            go_wp2_with fail
            refine (cmpQI xG bq _ _ _ _ _ (unhide OX).is (unhide QB).is ((unhide BM).1.mono (by omega)) ((unhide BM).2.mono (by omega)) ((unhide KB).1.mono (by omega)) ((unhide KB).2.mono (by omega))).mono ?_
            rintro e w2 ⟨rfl, hb⟩
            replace gf := fun o => frozen_later hb (World.block_lt_of_cell? _ _ g0) (gf o)
            replace g0 := cell_later hb g0
            replace g1 := cell_later hb g1
            replace g2 := cell_later hb g2
            replace g3 := cell_later hb g3
            clear p3_0 p3_1 p3_2 p3_3
            replace OX := hide ((unhide OX).later hb)
            replace QL := hide ((unhide QL).later hb)
            replace QH := hide ((unhide QH).later hb)
            replace QA := hide ((unhide QA).later hb)
            replace QB := hide ((unhide QB).later hb)
            replace M := hide ((unhide M).later hb)
            have sz1 := hb.size
            clear hb
            have p4_0 := (unhide M).p4_0
            have p4_1 := (unhide M).p4_1
            have p4_2 := (unhide M).p4_2
            have p4_3 := (unhide M).p4_3
            have ff := (unhide M).f4
            have HB := hide (unhide M).bel
            go_wp2
            refine bodyPost_ret (v := .agg #[.bool xG.num.g, .slice xG.num.a xG.num.n xG.num.c, .bool xG.den.g, .slice xG.den.a xG.den.n xG.den.c]) (by simp [results, Try.results161, go_sem, p4_0, p4_1, p4_2, p4_3]) rfl ?_
            rw [← unhide EN]
            obtain ⟨xs, us, k1, k2, k3, k4⟩ := unhide OX
            exact outQ_fin (q := xG) (R := w.heap.size + 1 + 1 + 1 + 1) (by omega) (unhide HB) (metQ_but (w5 := w2) (v := xG) (G := w.heap.size + 1 + 1 + 1 + 1)) (k1.wide (by omega) (by omega)) k2 k3 k4
    · obtain rfl : i = 200 := by omega
      have EN := hide (show (0, 0) = midF 200 ln0 ld0 hn0 hd0 an ad bn bd from unhide EM)
      have p4_0 := (unhide M).p4_0
      have p4_1 := (unhide M).p4_1
      have p4_2 := (unhide M).p4_2
      have p4_3 := (unhide M).p4_3
      have ff := (unhide M).f4
      have HB := hide (unhide M).bel
      go_wp2
      refine bodyPost_ret (v := .agg #[.bool false, .slice none 0 0, .bool false, .slice none 0 0]) (by simp [results, Try.results161, go_sem, p4_0, p4_1, p4_2, p4_3]) rfl ?_
      rw [← unhide EN]
      exact OutQ.zero rfl ((metQ_but (w5 := wr) (v := ⟨⟨false, none, 0, 0⟩, ⟨false, none, 0, 0⟩⟩) (G := w.heap.size + 1 + 1 + 1 + 1)).below (unhide HB) (by omega) (unhide HB).size)

/-- What SimplestIn tells of a and b: 0 / 0 where it tells nothing. -/
def smp (an ad bn bd : Int) : Int × Int := if bn * ad ≤ an * bd then (0, 0) else if (an / ad + 1) * bd < bn * 1 then (an / ad + 1, 1) else midF 200 (an / ad) 1 (an / ad + 1) 1 an ad bn bd
theorem smp_pos {an ad bn bd : Int} : smp an ad bn bd = (0, 0) ∨ 0 < (smp an ad bn bd).2 := by
  unfold smp
  split
  · exact .inl rfl
  · split
    · exact .inr (by show (0 : Int) < 1; decide)
    · exact midF_pos _ _ _ _ _ _ _ _ _ (by decide) (by decide)
theorem smp_no {an ad bn bd : Int} (c : bn * ad ≤ an * bd) : smp an ad bn bd = (0, 0) := by unfold smp; rw [if_pos c]
theorem smp_next {an ad bn bd : Int} (c : ¬ bn * ad ≤ an * bd) (c' : (an / ad + 1) * bd < bn * 1) : smp an ad bn bd = (an / ad + 1, 1) := by unfold smp; rw [if_neg c, if_pos c']
theorem smp_mid {an ad bn bd : Int} (c : ¬ bn * ad ≤ an * bd) (c' : ¬ (an / ad + 1) * bd < bn * 1) : smp an ad bn bd = midF 200 (an / ad) 1 (an / ad + 1) 1 an ad bn bd := by unfold smp; rw [if_neg c, if_neg c']
theorem one_bd2 {L : Nat} (h : 1 ≤ L) : Bd 1 L := (show Bd 1 1 from ⟨by decide⟩).mono h
theorem floor_bd {N D : Int} {L : Nat} (hD : 0 < D) (h : Bd N L) : Bd (N / D) L := h.le (by have := (floor_abs (N := N) hD).1; omega)

set_option maxHeartbeats 8000000 in
theorem simpI_v (aq bq : QV) (an ad bn bd : Int) (w : World) (ja : IsQ w aq an ad) (jb : IsQ w bq bn bd) (pa : 0 < ad) (pb : 0 < bd) (ka : Bd an 40 ∧ Bd ad 40) (kb : Bd bn 40 ∧ Bd bd 40) :
    Calls Try.prog 97 #[.agg #[.bool aq.num.g, .slice aq.num.a aq.num.n aq.num.c, .bool aq.den.g, .slice aq.den.a aq.den.n aq.den.c], .agg #[.bool bq.num.g, .slice bq.num.a bq.num.n bq.num.c, .bool bq.den.g, .slice bq.den.a bq.den.n bq.den.c]] w (OutQ w (smp an ad bn bd).1 (smp an ad bn bd).2) := by
  have QA := hide ja
  have QB := hide jb
  have KA := hide ka
  have KB := hide kb
  have PA := hide pa
  clear ja jb ka kb pa pb
  by_cases c0 : bn * ad ≤ an * bd
  · have t1 : decide (0 ≤ cmpZ (an * bd) (bn * ad)) = true := cmpZ_ge1 c0
    rw [smp_no c0]
    clear c0
    have B0 := hide (show Below w.heap.size w (((w.alloc (.cells #[.bool aq.num.g, .slice aq.num.a aq.num.n aq.num.c, .bool aq.den.g, .slice aq.den.a aq.den.n aq.den.c] 30)).alloc (.cells #[.bool bq.num.g, .slice bq.num.a bq.num.n bq.num.c, .bool bq.den.g, .slice bq.den.a bq.den.n bq.den.c] 30)).alloc (.cells #[.bool false, .slice none 0 0, .bool false, .slice none 0 0] 30)) from ((((Below.refl _ _).alloc (by simp) _).alloc (by simp) _).alloc (by simp <;> omega) _))
    go_enter Try.func97, Try.ntmps97
    go_wp2_with fail
    refine (cmpQI aq bq _ _ _ _ _ ((unhide QA).later (unhide B0)) ((unhide QB).later (unhide B0)) ((unhide KA).1.mono (by omega)) ((unhide KA).2.mono (by omega)) ((unhide KB).1.mono (by omega)) ((unhide KB).2.mono (by omega))).mono ?_
    rintro e w1 ⟨rfl, hb⟩
    have s1 : w.heap.size + 1 + 1 < w1.heap.size := by have := hb.size; simp at this; omega
    have k2_0 : w1.cell? ⟨w.heap.size + 1 + 1, 0, none⟩ = some (.bool false) := cell_later hb (by simp [go_sem])
    have k2_1 : w1.cell? ⟨w.heap.size + 1 + 1, 1, none⟩ = some (.slice none 0 0) := cell_later hb (by simp [go_sem])
    have k2_2 : w1.cell? ⟨w.heap.size + 1 + 1, 2, none⟩ = some (.bool false) := cell_later hb (by simp [go_sem])
    have k2_3 : w1.cell? ⟨w.heap.size + 1 + 1, 3, none⟩ = some (.slice none 0 0) := cell_later hb (by simp [go_sem])
    have z2 : ∀ o, w1.frozen? ⟨w.heap.size + 1 + 1, o, none⟩ = false := fun o => frozen_later hb (by simp) (by simp [go_sem])
    have HB := hide (below_on (unhide B0) hb)
    clear hb
    go_wp2
    refine bodyPost_ret (v := .agg #[.bool false, .slice none 0 0, .bool false, .slice none 0 0]) (by simp [results, Try.results97, go_sem, k2_0, k2_1, k2_2, k2_3]) rfl ?_
    exact OutQ.zero rfl ((metQ_but (w5 := w1) (v := ⟨⟨false, none, 0, 0⟩, ⟨false, none, 0, 0⟩⟩) (G := w.heap.size + 1 + 1)).below (unhide HB) (by omega) (unhide HB).size)
  · by_cases c1 : (an / ad + 1) * bd < bn * 1
    · have t1 : decide (0 ≤ cmpZ (an * bd) (bn * ad)) = false := cmpZ_ge0 c0
      have t2 : decide (cmpZ ((an / ad + 1) * bd) bn < 0) = true := by have := cmpZ_lt1 c1; rw [Int.mul_one] at this; exact this
      rw [smp_next c0 c1]
      clear c0 c1
      have BF := hide (floor_bd (unhide PA) (unhide KA).1)
      have B0 := hide (show Below w.heap.size w (((w.alloc (.cells #[.bool aq.num.g, .slice aq.num.a aq.num.n aq.num.c, .bool aq.den.g, .slice aq.den.a aq.den.n aq.den.c] 30)).alloc (.cells #[.bool bq.num.g, .slice bq.num.a bq.num.n bq.num.c, .bool bq.den.g, .slice bq.den.a bq.den.n bq.den.c] 30)).alloc (.cells #[.bool false, .slice none 0 0, .bool false, .slice none 0 0] 30)) from ((((Below.refl _ _).alloc (by simp) _).alloc (by simp) _).alloc (by simp <;> omega) _))
      go_enter Try.func97, Try.ntmps97
      go_wp2_with fail
      refine (cmpQI aq bq _ _ _ _ _ ((unhide QA).later (unhide B0)) ((unhide QB).later (unhide B0)) ((unhide KA).1.mono (by omega)) ((unhide KA).2.mono (by omega)) ((unhide KB).1.mono (by omega)) ((unhide KB).2.mono (by omega))).mono ?_
      rintro e w1 ⟨rfl, hb⟩
      have s1 : w.heap.size + 1 + 1 < w1.heap.size := by have := hb.size; simp at this; omega
      have k0_0 : w1.cell? ⟨w.heap.size, 0, none⟩ = some (.bool aq.num.g) := cell_later hb (by simp [go_sem])
      have k0_1 : w1.cell? ⟨w.heap.size, 1, none⟩ = some (.slice aq.num.a aq.num.n aq.num.c) := cell_later hb (by simp [go_sem])
      have k0_2 : w1.cell? ⟨w.heap.size, 2, none⟩ = some (.bool aq.den.g) := cell_later hb (by simp [go_sem])
      have k0_3 : w1.cell? ⟨w.heap.size, 3, none⟩ = some (.slice aq.den.a aq.den.n aq.den.c) := cell_later hb (by simp [go_sem])
      have k1_0 : w1.cell? ⟨w.heap.size + 1, 0, none⟩ = some (.bool bq.num.g) := cell_later hb (by simp [go_sem])
      have k1_1 : w1.cell? ⟨w.heap.size + 1, 1, none⟩ = some (.slice bq.num.a bq.num.n bq.num.c) := cell_later hb (by simp [go_sem])
      have k1_2 : w1.cell? ⟨w.heap.size + 1, 2, none⟩ = some (.bool bq.den.g) := cell_later hb (by simp [go_sem])
      have k1_3 : w1.cell? ⟨w.heap.size + 1, 3, none⟩ = some (.slice bq.den.a bq.den.n bq.den.c) := cell_later hb (by simp [go_sem])
      have k2_0 : w1.cell? ⟨w.heap.size + 1 + 1, 0, none⟩ = some (.bool false) := cell_later hb (by simp [go_sem])
      have k2_1 : w1.cell? ⟨w.heap.size + 1 + 1, 1, none⟩ = some (.slice none 0 0) := cell_later hb (by simp [go_sem])
      have k2_2 : w1.cell? ⟨w.heap.size + 1 + 1, 2, none⟩ = some (.bool false) := cell_later hb (by simp [go_sem])
      have k2_3 : w1.cell? ⟨w.heap.size + 1 + 1, 3, none⟩ = some (.slice none 0 0) := cell_later hb (by simp [go_sem])
      have z2 : ∀ o, w1.frozen? ⟨w.heap.size + 1 + 1, o, none⟩ = false := fun o => frozen_later hb (by simp) (by simp [go_sem])
      have HB := hide (below_on (unhide B0) hb)
      clear hb
      replace QA := hide ((unhide QA).later (unhide HB))
      replace QB := hide ((unhide QB).later (unhide HB))
      go_wp2_with fail
      refine (floorO aq _ _ _ (unhide QA) (unhide PA) ((unhide KA).1.mono (by omega)) ((unhide KA).2.mono (by omega))).mono ?_
      rintro e w2 ⟨xf, lf, rfl, hb, of, af, nf⟩
      have s2 := hb.size
      replace z2 := fun o => frozen_later hb (World.block_lt_of_cell? _ _ k2_0) (z2 o)
      replace k0_0 := cell_later hb k0_0
      replace k0_1 := cell_later hb k0_1
      replace k0_2 := cell_later hb k0_2
      replace k0_3 := cell_later hb k0_3
      replace k1_0 := cell_later hb k1_0
      replace k1_1 := cell_later hb k1_1
      replace k1_2 := cell_later hb k1_2
      replace k1_3 := cell_later hb k1_3
      replace k2_0 := cell_later hb k2_0
      replace k2_1 := cell_later hb k2_1
      replace k2_2 := cell_later hb k2_2
      replace k2_3 := cell_later hb k2_3
      replace QA := hide ((unhide QA).later hb)
      replace QB := hide ((unhide QB).later hb)
      have OF := hide (outN_ow of af nf)
      replace HB := hide (below_on (unhide HB) hb)
      clear hb
      clear of af nf
      go_upto_region 4 with fail
      have hb : Below w2.heap.size w2 (w2.alloc (.cells #[.bool xf.g, .slice xf.a xf.n xf.c] 28)) := ((Below.refl _ _).alloc (by simp) _)
      replace k0_0 : (w2.alloc (.cells #[.bool xf.g, .slice xf.a xf.n xf.c] 28)).cell? ⟨w.heap.size, 0, none⟩ = some (.bool aq.num.g) := (ca_other k0_0)
      replace k0_1 : (w2.alloc (.cells #[.bool xf.g, .slice xf.a xf.n xf.c] 28)).cell? ⟨w.heap.size, 1, none⟩ = some (.slice aq.num.a aq.num.n aq.num.c) := (ca_other k0_1)
      replace k0_2 : (w2.alloc (.cells #[.bool xf.g, .slice xf.a xf.n xf.c] 28)).cell? ⟨w.heap.size, 2, none⟩ = some (.bool aq.den.g) := (ca_other k0_2)
      replace k0_3 : (w2.alloc (.cells #[.bool xf.g, .slice xf.a xf.n xf.c] 28)).cell? ⟨w.heap.size, 3, none⟩ = some (.slice aq.den.a aq.den.n aq.den.c) := (ca_other k0_3)
      replace k1_0 : (w2.alloc (.cells #[.bool xf.g, .slice xf.a xf.n xf.c] 28)).cell? ⟨w.heap.size + 1, 0, none⟩ = some (.bool bq.num.g) := (ca_other k1_0)
      replace k1_1 : (w2.alloc (.cells #[.bool xf.g, .slice xf.a xf.n xf.c] 28)).cell? ⟨w.heap.size + 1, 1, none⟩ = some (.slice bq.num.a bq.num.n bq.num.c) := (ca_other k1_1)
      replace k1_2 : (w2.alloc (.cells #[.bool xf.g, .slice xf.a xf.n xf.c] 28)).cell? ⟨w.heap.size + 1, 2, none⟩ = some (.bool bq.den.g) := (ca_other k1_2)
      replace k1_3 : (w2.alloc (.cells #[.bool xf.g, .slice xf.a xf.n xf.c] 28)).cell? ⟨w.heap.size + 1, 3, none⟩ = some (.slice bq.den.a bq.den.n bq.den.c) := (ca_other k1_3)
      replace k2_0 : (w2.alloc (.cells #[.bool xf.g, .slice xf.a xf.n xf.c] 28)).cell? ⟨w.heap.size + 1 + 1, 0, none⟩ = some (.bool false) := (ca_other k2_0)
      replace k2_1 : (w2.alloc (.cells #[.bool xf.g, .slice xf.a xf.n xf.c] 28)).cell? ⟨w.heap.size + 1 + 1, 1, none⟩ = some (.slice none 0 0) := (ca_other k2_1)
      replace k2_2 : (w2.alloc (.cells #[.bool xf.g, .slice xf.a xf.n xf.c] 28)).cell? ⟨w.heap.size + 1 + 1, 2, none⟩ = some (.bool false) := (ca_other k2_2)
      replace k2_3 : (w2.alloc (.cells #[.bool xf.g, .slice xf.a xf.n xf.c] 28)).cell? ⟨w.heap.size + 1 + 1, 3, none⟩ = some (.slice none 0 0) := (ca_other k2_3)
      have k3_0 : (w2.alloc (.cells #[.bool xf.g, .slice xf.a xf.n xf.c] 28)).cell? ⟨w2.heap.size, 0, none⟩ = some (.bool xf.g) := by simp [go_sem]
      have k3_1 : (w2.alloc (.cells #[.bool xf.g, .slice xf.a xf.n xf.c] 28)).cell? ⟨w2.heap.size, 1, none⟩ = some (.slice xf.a xf.n xf.c) := by simp [go_sem]
      replace z2 : ∀ o, (w2.alloc (.cells #[.bool xf.g, .slice xf.a xf.n xf.c] 28)).frozen? ⟨w.heap.size + 1 + 1, o, none⟩ = false := fun o => frozen_later hb (by omega) (z2 o)
      replace QA := hide ((unhide QA).later hb)
      replace QB := hide ((unhide QB).later hb)
      replace OF := hide ((unhide OF).later hb)
      replace HB := hide (below_on (unhide HB) hb)
      have szw3 := hb.size
      clear hb
      generalize (w2.alloc (.cells #[.bool xf.g, .slice xf.a xf.n xf.c] 28)) = w3 at *
      have lt5 : w2.heap.size < w3.heap.size := World.block_lt_of_cell? _ _ k3_0
      go_upto_region 4 with fail
      go_cut [6] (fun p wx => ∃ (G : Nat) (x : QV), p = .pointer (some ⟨G, 0, none⟩) ∧ Hid (BxA w wx G x (an / ad) 1) ∧ Hid (Below w3.heap.size w3 wx) ∧ w3.heap.size ≤ G)
      case first =>
        go_region_held3 (fun w' => w'.cell? ⟨w2.heap.size, 0, none⟩ = some (.bool xf.g) ∧ w'.cell? ⟨w2.heap.size, 1, none⟩ = some (.slice xf.a xf.n xf.c)) (with_reducible (first | exact ⟨k3_0, k3_1⟩ | exact ⟨cd_other k3_0, cd_other k3_1⟩ | exact ⟨ca_other k3_0, ca_other k3_1⟩ | exact ⟨cd_other (ca_other k3_0), cd_other (ca_other k3_1)⟩ | exact ⟨cs_other (cs_other (cs_other (cs_other (k3_0) (by omega)) (by omega)) (by omega)) (by omega), cs_other (cs_other (cs_other (cs_other (k3_1) (by omega)) (by omega)) (by omega)) (by omega)⟩ | fail))
          (first
          | (go_at_call 160; refine (ofI_v 1 _ (by omega) (by omega)).mono ?_; rintro e wo1 ⟨y1, ly1, rfl, hb, oy, ay, ny⟩; have hbx : Below w3.heap.size w3 wo1 := (by first | exact below_of_drew hb | exact bad hb); have szwo1 := hbx.size; replace z2 := fun o => frozen_later hbx (World.block_lt_of_cell? _ _ k2_0) (z2 o); replace k0_0 := cell_later hbx k0_0; replace k0_1 := cell_later hbx k0_1; replace k0_2 := cell_later hbx k0_2; replace k0_3 := cell_later hbx k0_3; replace k1_0 := cell_later hbx k1_0; replace k1_1 := cell_later hbx k1_1; replace k1_2 := cell_later hbx k1_2; replace k1_3 := cell_later hbx k1_3; replace k2_0 := cell_later hbx k2_0; replace k2_1 := cell_later hbx k2_1; replace k2_2 := cell_later hbx k2_2; replace k2_3 := cell_later hbx k2_3; replace k3_0 := cell_later hbx k3_0; replace k3_1 := cell_later hbx k3_1; replace QA := hide ((unhide QA).later hbx); replace QB := hide ((unhide QB).later hbx); replace OF := hide ((unhide OF).later hbx); have Py1 := hide (outN_ow oy ay ny); (try (replace gf := fun o => frozen_later hbx (World.block_lt_of_cell? _ _ g0) (gf o); replace g0 := cell_later hbx g0; replace g1 := cell_later hbx g1; replace g2 := cell_later hbx g2; replace g3 := cell_later hbx g3)); (try (refine cutP (p := wo1.cell? ⟨w3.heap.size, 0, none⟩ = some (.bool false) ∧ wo1.cell? ⟨w3.heap.size, 1, none⟩ = some (.slice none 0 0) ∧ wo1.cell? ⟨w3.heap.size, 2, none⟩ = some (.bool false) ∧ wo1.cell? ⟨w3.heap.size, 3, none⟩ = some (.slice none 0 0) ∧ ∀ o, wo1.frozen? ⟨w3.heap.size, o, none⟩ = false) ?_ (fun dd => ?_); (focus (refine ⟨cell_later hb ?_, cell_later hb ?_, cell_later hb ?_, cell_later hb ?_, fun o => frozen_later hb ?_ ?_⟩ <;> (simp [go_sem]; done))); obtain ⟨g0, g1, g2, g3, gf⟩ := dd)); have zz := hb.size; (try simp at zz); have HBr := hide hbx; clear hbx hb oy ay ny))
        all_goals go_wp2_with fail
        all_goals go_meet
        all_goals first
          | (with_reducible refine ⟨_, ⟨xf, y1⟩, rfl, hide (bxA_alloc (x := ⟨xf, y1⟩) 30 (below_on (unhide HB) (unhide HBr)) (unhide OF) (unhide Py1) ?_ ?_ ?_ ?_ ?_), hide ((unhide HBr).alloc (unhide HBr).size _), (unhide HBr).size⟩ <;> first | omega | (simp; done) | (simp; omega))
          | (with_reducible refine ⟨_, ⟨xf, y1⟩, rfl, hide (bxA_set (x := ⟨xf, y1⟩) (below_on (unhide HB) (unhide HBr)) (unhide OF) (unhide Py1) ?_ ?_ ?_ ?_ ?_ ?_ ?_ ?_ g0 g1 g2 g3 gf), hide ((metQ_but (v := ⟨xf, y1⟩)).below (unhide HBr) ?_ (unhide HBr).size), ?_⟩ <;> first | omega | (simp; done) | (simp; omega))
      case rest =>
        obtain ⟨G, xG, rfl, HG, hb0, loG⟩ := hcut
        have hb := unhide hb0
        clear hb0
        have hiG := (unhide HG).hi
        have szG := hb.size
        replace z2 := fun o => frozen_later hb (World.block_lt_of_cell? _ _ k2_0) (z2 o)
        replace k0_0 := cell_later hb k0_0
        replace k0_1 := cell_later hb k0_1
        replace k0_2 := cell_later hb k0_2
        replace k0_3 := cell_later hb k0_3
        replace k1_0 := cell_later hb k1_0
        replace k1_1 := cell_later hb k1_1
        replace k1_2 := cell_later hb k1_2
        replace k1_3 := cell_later hb k1_3
        replace k2_0 := cell_later hb k2_0
        replace k2_1 := cell_later hb k2_1
        replace k2_2 := cell_later hb k2_2
        replace k2_3 := cell_later hb k2_3
        replace k3_0 := cell_later hb k3_0
        replace k3_1 := cell_later hb k3_1
        replace QA := hide ((unhide QA).later hb)
        replace QB := hide ((unhide QB).later hb)
        replace OF := hide ((unhide OF).later hb)
        have OG := hide ((unhide HG).ow)
        replace HB := hide (below_on (unhide HB) hb)
        clear hb
        have k4_0 := (unhide HG).c0
        have k4_1 := (unhide HG).c1
        have k4_2 := (unhide HG).c2
        have k4_3 := (unhide HG).c3
        clear HG
        obtain ⟨w4, hw4⟩ : ∃ x, x = wc := ⟨_, rfl⟩
        subst hw4
        go_upto_region 5 with fail
        go_cut [7] (fun p wx => ∃ (G : Nat) (x : QV), p = .pointer (some ⟨G, 0, none⟩) ∧ Hid (BxA w4 wx G x (an / ad + 1) 1) ∧ Hid (Below w4.heap.size w4 wx) ∧ w4.heap.size ≤ G)
        case first =>
          go_region_held3 (fun w' => w'.cell? ⟨w2.heap.size, 0, none⟩ = some (.bool xf.g) ∧ w'.cell? ⟨w2.heap.size, 1, none⟩ = some (.slice xf.a xf.n xf.c)) (with_reducible (first | exact ⟨k3_0, k3_1⟩ | exact ⟨cd_other k3_0, cd_other k3_1⟩ | exact ⟨ca_other k3_0, ca_other k3_1⟩ | exact ⟨cd_other (ca_other k3_0), cd_other (ca_other k3_1)⟩ | exact ⟨cs_other (cs_other (cs_other (cs_other (k3_0) (by omega)) (by omega)) (by omega)) (by omega), cs_other (cs_other (cs_other (cs_other (k3_1) (by omega)) (by omega)) (by omega)) (by omega)⟩ | fail))
            (first
            | (have chk := Px1; clear chk; go_at_call 160; refine (ofI_v 1 _ (by omega) (by omega)).mono ?_; rintro e wo3 ⟨y3, ly3, rfl, hb, oy, ay, ny⟩; have hbx : Below wa.heap.size wa wo3 := (by first | exact hb | exact ba hb); have szwo3 := hbx.size; replace z2 := fun o => frozen_later hbx (World.block_lt_of_cell? _ _ k2_0) (z2 o); replace k0_0 := cell_later hbx k0_0; replace k0_1 := cell_later hbx k0_1; replace k0_2 := cell_later hbx k0_2; replace k0_3 := cell_later hbx k0_3; replace k1_0 := cell_later hbx k1_0; replace k1_1 := cell_later hbx k1_1; replace k1_2 := cell_later hbx k1_2; replace k1_3 := cell_later hbx k1_3; replace k2_0 := cell_later hbx k2_0; replace k2_1 := cell_later hbx k2_1; replace k2_2 := cell_later hbx k2_2; replace k2_3 := cell_later hbx k2_3; replace k3_0 := cell_later hbx k3_0; replace k3_1 := cell_later hbx k3_1; replace k4_0 := cell_later hbx k4_0; replace k4_1 := cell_later hbx k4_1; replace k4_2 := cell_later hbx k4_2; replace k4_3 := cell_later hbx k4_3; replace QA := hide ((unhide QA).later hbx); replace QB := hide ((unhide QB).later hbx); replace OF := hide ((unhide OF).later hbx); replace OG := hide ((unhide OG).later hbx); replace Py2 := hide ((unhide Py2).later hbx); replace Px1 := hide ((unhide Px1).later hbx); have Py3 := hide (outN_ow oy ay ny); (try (replace gf := fun o => frozen_later hbx (World.block_lt_of_cell? _ _ g0) (gf o); replace g0 := cell_later hbx g0; replace g1 := cell_later hbx g1; replace g2 := cell_later hbx g2; replace g3 := cell_later hbx g3)); (try (refine cutP (p := wo3.cell? ⟨wa.heap.size, 0, none⟩ = some (.bool false) ∧ wo3.cell? ⟨wa.heap.size, 1, none⟩ = some (.slice none 0 0) ∧ wo3.cell? ⟨wa.heap.size, 2, none⟩ = some (.bool false) ∧ wo3.cell? ⟨wa.heap.size, 3, none⟩ = some (.slice none 0 0) ∧ ∀ o, wo3.frozen? ⟨wa.heap.size, o, none⟩ = false) ?_ (fun dd => ?_); (focus (refine ⟨cell_later hb ?_, cell_later hb ?_, cell_later hb ?_, cell_later hb ?_, fun o => frozen_later hb ?_ ?_⟩ <;> (simp [go_sem]; done))); obtain ⟨g0, g1, g2, g3, gf⟩ := dd)); have zz := hb.size; (try simp at zz); have HBr := hide (below_on (unhide HBr) hbx); clear hbx hb oy ay ny)
            | (go_at_call 146; refine (addI_v xf y2 _ _ _ ?_ ?_ ((unhide BF).mono (by omega)) (one_bd2 (by omega))).mono ?_; (first | exact (unhide OF).is.later (Below.refl _ _) | exact (unhide OF).is.later ((Below.refl _ _).alloc (Nat.le_refl _) _)); (first | exact (unhide Py2).is.later (Below.refl _ _) | exact (unhide Py2).is.later ((Below.refl _ _).alloc (Nat.le_refl _) _)); rintro e wa ⟨x1, l1, rfl, hb, o1, a1, n1⟩; have hbx : Below wo2.heap.size wo2 wa := (by first | exact hb | exact ba hb); have szwa := hbx.size; replace z2 := fun o => frozen_later hbx (World.block_lt_of_cell? _ _ k2_0) (z2 o); replace k0_0 := cell_later hbx k0_0; replace k0_1 := cell_later hbx k0_1; replace k0_2 := cell_later hbx k0_2; replace k0_3 := cell_later hbx k0_3; replace k1_0 := cell_later hbx k1_0; replace k1_1 := cell_later hbx k1_1; replace k1_2 := cell_later hbx k1_2; replace k1_3 := cell_later hbx k1_3; replace k2_0 := cell_later hbx k2_0; replace k2_1 := cell_later hbx k2_1; replace k2_2 := cell_later hbx k2_2; replace k2_3 := cell_later hbx k2_3; replace k3_0 := cell_later hbx k3_0; replace k3_1 := cell_later hbx k3_1; replace k4_0 := cell_later hbx k4_0; replace k4_1 := cell_later hbx k4_1; replace k4_2 := cell_later hbx k4_2; replace k4_3 := cell_later hbx k4_3; replace QA := hide ((unhide QA).later hbx); replace QB := hide ((unhide QB).later hbx); replace OF := hide ((unhide OF).later hbx); replace OG := hide ((unhide OG).later hbx); replace Py2 := hide ((unhide Py2).later hbx); have Px1 := hide (outN_ow o1 a1 n1); (try (replace gf := fun o => frozen_later hbx (World.block_lt_of_cell? _ _ g0) (gf o); replace g0 := cell_later hbx g0; replace g1 := cell_later hbx g1; replace g2 := cell_later hbx g2; replace g3 := cell_later hbx g3)); (try (refine cutP (p := wa.cell? ⟨wo2.heap.size, 0, none⟩ = some (.bool false) ∧ wa.cell? ⟨wo2.heap.size, 1, none⟩ = some (.slice none 0 0) ∧ wa.cell? ⟨wo2.heap.size, 2, none⟩ = some (.bool false) ∧ wa.cell? ⟨wo2.heap.size, 3, none⟩ = some (.slice none 0 0) ∧ ∀ o, wa.frozen? ⟨wo2.heap.size, o, none⟩ = false) ?_ (fun dd => ?_); (focus (refine ⟨cell_later hb ?_, cell_later hb ?_, cell_later hb ?_, cell_later hb ?_, fun o => frozen_later hb ?_ ?_⟩ <;> (simp [go_sem]; done))); obtain ⟨g0, g1, g2, g3, gf⟩ := dd)); have zz := hb.size; (try simp at zz); have HBr := hide (below_on (unhide HBr) hbx); clear hbx hb o1 a1 n1)
            | (go_at_call 160; refine (ofI_v 1 _ (by omega) (by omega)).mono ?_; rintro e wo2 ⟨y2, ly2, rfl, hb, oy, ay, ny⟩; have hbx : Below w4.heap.size w4 wo2 := (by first | exact below_of_drew hb | exact bad hb); have szwo2 := hbx.size; replace z2 := fun o => frozen_later hbx (World.block_lt_of_cell? _ _ k2_0) (z2 o); replace k0_0 := cell_later hbx k0_0; replace k0_1 := cell_later hbx k0_1; replace k0_2 := cell_later hbx k0_2; replace k0_3 := cell_later hbx k0_3; replace k1_0 := cell_later hbx k1_0; replace k1_1 := cell_later hbx k1_1; replace k1_2 := cell_later hbx k1_2; replace k1_3 := cell_later hbx k1_3; replace k2_0 := cell_later hbx k2_0; replace k2_1 := cell_later hbx k2_1; replace k2_2 := cell_later hbx k2_2; replace k2_3 := cell_later hbx k2_3; replace k3_0 := cell_later hbx k3_0; replace k3_1 := cell_later hbx k3_1; replace k4_0 := cell_later hbx k4_0; replace k4_1 := cell_later hbx k4_1; replace k4_2 := cell_later hbx k4_2; replace k4_3 := cell_later hbx k4_3; replace QA := hide ((unhide QA).later hbx); replace QB := hide ((unhide QB).later hbx); replace OF := hide ((unhide OF).later hbx); replace OG := hide ((unhide OG).later hbx); have Py2 := hide (outN_ow oy ay ny); (try (replace gf := fun o => frozen_later hbx (World.block_lt_of_cell? _ _ g0) (gf o); replace g0 := cell_later hbx g0; replace g1 := cell_later hbx g1; replace g2 := cell_later hbx g2; replace g3 := cell_later hbx g3)); (try (refine cutP (p := wo2.cell? ⟨w4.heap.size, 0, none⟩ = some (.bool false) ∧ wo2.cell? ⟨w4.heap.size, 1, none⟩ = some (.slice none 0 0) ∧ wo2.cell? ⟨w4.heap.size, 2, none⟩ = some (.bool false) ∧ wo2.cell? ⟨w4.heap.size, 3, none⟩ = some (.slice none 0 0) ∧ ∀ o, wo2.frozen? ⟨w4.heap.size, o, none⟩ = false) ?_ (fun dd => ?_); (focus (refine ⟨cell_later hb ?_, cell_later hb ?_, cell_later hb ?_, cell_later hb ?_, fun o => frozen_later hb ?_ ?_⟩ <;> (simp [go_sem]; done))); obtain ⟨g0, g1, g2, g3, gf⟩ := dd)); have zz := hb.size; (try simp at zz); have HBr := hide hbx; clear hbx hb oy ay ny))
          all_goals go_wp2_with fail
          all_goals go_meet
          all_goals first
            | (with_reducible refine ⟨_, ⟨x1, y3⟩, rfl, hide (bxA_alloc (x := ⟨x1, y3⟩) 30 (unhide HBr) (unhide Px1) (unhide Py3) ?_ ?_ ?_ ?_ ?_), hide ((unhide HBr).alloc (unhide HBr).size _), (unhide HBr).size⟩ <;> first | omega | (simp; done) | (simp; omega))
            | (with_reducible refine ⟨_, ⟨x1, y3⟩, rfl, hide (bxA_set (x := ⟨x1, y3⟩) (unhide HBr) (unhide Px1) (unhide Py3) ?_ ?_ ?_ ?_ ?_ ?_ ?_ ?_ g0 g1 g2 g3 gf), hide ((metQ_but (v := ⟨x1, y3⟩)).below (unhide HBr) ?_ (unhide HBr).size), ?_⟩ <;> first | omega | (simp; done) | (simp; omega))
        case rest =>
          obtain ⟨J, xJ, rfl, HJ, hb0, loJ⟩ := hcut
          have hb := unhide hb0
          clear hb0
          have hiJ := (unhide HJ).hi
          have szJ := hb.size
          replace z2 := fun o => frozen_later hb (World.block_lt_of_cell? _ _ k2_0) (z2 o)
          replace k1_0 := cell_later hb k1_0
          replace k1_1 := cell_later hb k1_1
          replace k1_2 := cell_later hb k1_2
          replace k1_3 := cell_later hb k1_3
          replace k2_0 := cell_later hb k2_0
          replace k2_1 := cell_later hb k2_1
          replace k2_2 := cell_later hb k2_2
          replace k2_3 := cell_later hb k2_3
          clear k0_0 k0_1 k0_2 k0_3 k3_0 k3_1 k4_0 k4_1 k4_2 k4_3
          replace QA := hide ((unhide QA).later hb)
          replace QB := hide ((unhide QB).later hb)
          replace OF := hide ((unhide OF).later hb)
          replace OG := hide ((unhide OG).later hb)
          have OJ := hide ((unhide HJ).ow)
          replace HB := hide (below_on (unhide HB) hb)
          clear hb
          have k5_0 := (unhide HJ).c0
          have k5_1 := (unhide HJ).c1
          have k5_2 := (unhide HJ).c2
          have k5_3 := (unhide HJ).c3
          clear HJ
          obtain ⟨wd, hwd⟩ : ∃ x, x = wc := ⟨_, rfl⟩
          subst hwd
          go_wp2_with fail
          refine (cmpQI xJ bq _ _ _ _ _ (unhide OJ).is (unhide QB) (((unhide BF).add (one_bd2 (by omega))).mono (by omega)) (one_bd2 (by omega)) ((unhide KB).1.mono (by omega)) ((unhide KB).2.mono (by omega))).mono ?_
          rintro e w5 ⟨rfl, hb⟩
          have s5 := hb.size
          replace z2 := fun o => frozen_later hb (World.block_lt_of_cell? _ _ k2_0) (z2 o)
          replace k5_0 := cell_later hb k5_0
          replace k5_1 := cell_later hb k5_1
          replace k5_2 := cell_later hb k5_2
          replace k5_3 := cell_later hb k5_3
          replace k2_0 := cell_later hb k2_0
          replace k2_1 := cell_later hb k2_1
          replace k2_2 := cell_later hb k2_2
          replace k2_3 := cell_later hb k2_3
          clear k1_0 k1_1 k1_2 k1_3
          replace QA := hide ((unhide QA).later hb)
          replace QB := hide ((unhide QB).later hb)
          replace OF := hide ((unhide OF).later hb)
          replace OG := hide ((unhide OG).later hb)
          replace OJ := hide ((unhide OJ).later hb)
          replace HB := hide (below_on (unhide HB) hb)
          clear hb
          go_wp2
          refine bodyPost_ret (v := .agg #[.bool xJ.num.g, .slice xJ.num.a xJ.num.n xJ.num.c, .bool xJ.den.g, .slice xJ.den.a xJ.den.n xJ.den.c]) (by simp [results, Try.results97, go_sem, k2_0, k2_1, k2_2, k2_3]) rfl ?_
          obtain ⟨xs, us, k1, k2, k3, k4⟩ := unhide OJ
          exact outQ_fin (q := xJ) (R := w.heap.size + 1 + 1) (by omega) (unhide HB) (metQ_but (w5 := w5) (v := xJ) (G := w.heap.size + 1 + 1)) (k1.wide (by omega) (by omega)) k2 k3 k4
    · have t1 : decide (0 ≤ cmpZ (an * bd) (bn * ad)) = false := cmpZ_ge0 c0
      have t2 : decide (cmpZ ((an / ad + 1) * bd) bn < 0) = false := by have := cmpZ_lt0 c1; rw [Int.mul_one] at this; exact this
      rw [smp_mid c0 c1]
      clear c0 c1
      have BF := hide (floor_bd (unhide PA) (unhide KA).1)
      have B0 := hide (show Below w.heap.size w (((w.alloc (.cells #[.bool aq.num.g, .slice aq.num.a aq.num.n aq.num.c, .bool aq.den.g, .slice aq.den.a aq.den.n aq.den.c] 30)).alloc (.cells #[.bool bq.num.g, .slice bq.num.a bq.num.n bq.num.c, .bool bq.den.g, .slice bq.den.a bq.den.n bq.den.c] 30)).alloc (.cells #[.bool false, .slice none 0 0, .bool false, .slice none 0 0] 30)) from ((((Below.refl _ _).alloc (by simp) _).alloc (by simp) _).alloc (by simp <;> omega) _))
      go_enter Try.func97, Try.ntmps97
      go_wp2_with fail
      refine (cmpQI aq bq _ _ _ _ _ ((unhide QA).later (unhide B0)) ((unhide QB).later (unhide B0)) ((unhide KA).1.mono (by omega)) ((unhide KA).2.mono (by omega)) ((unhide KB).1.mono (by omega)) ((unhide KB).2.mono (by omega))).mono ?_
      rintro e w1 ⟨rfl, hb⟩
      have s1 : w.heap.size + 1 + 1 < w1.heap.size := by have := hb.size; simp at this; omega
      have k0_0 : w1.cell? ⟨w.heap.size, 0, none⟩ = some (.bool aq.num.g) := cell_later hb (by simp [go_sem])
      have k0_1 : w1.cell? ⟨w.heap.size, 1, none⟩ = some (.slice aq.num.a aq.num.n aq.num.c) := cell_later hb (by simp [go_sem])
      have k0_2 : w1.cell? ⟨w.heap.size, 2, none⟩ = some (.bool aq.den.g) := cell_later hb (by simp [go_sem])
      have k0_3 : w1.cell? ⟨w.heap.size, 3, none⟩ = some (.slice aq.den.a aq.den.n aq.den.c) := cell_later hb (by simp [go_sem])
      have k1_0 : w1.cell? ⟨w.heap.size + 1, 0, none⟩ = some (.bool bq.num.g) := cell_later hb (by simp [go_sem])
      have k1_1 : w1.cell? ⟨w.heap.size + 1, 1, none⟩ = some (.slice bq.num.a bq.num.n bq.num.c) := cell_later hb (by simp [go_sem])
      have k1_2 : w1.cell? ⟨w.heap.size + 1, 2, none⟩ = some (.bool bq.den.g) := cell_later hb (by simp [go_sem])
      have k1_3 : w1.cell? ⟨w.heap.size + 1, 3, none⟩ = some (.slice bq.den.a bq.den.n bq.den.c) := cell_later hb (by simp [go_sem])
      have k2_0 : w1.cell? ⟨w.heap.size + 1 + 1, 0, none⟩ = some (.bool false) := cell_later hb (by simp [go_sem])
      have k2_1 : w1.cell? ⟨w.heap.size + 1 + 1, 1, none⟩ = some (.slice none 0 0) := cell_later hb (by simp [go_sem])
      have k2_2 : w1.cell? ⟨w.heap.size + 1 + 1, 2, none⟩ = some (.bool false) := cell_later hb (by simp [go_sem])
      have k2_3 : w1.cell? ⟨w.heap.size + 1 + 1, 3, none⟩ = some (.slice none 0 0) := cell_later hb (by simp [go_sem])
      have z2 : ∀ o, w1.frozen? ⟨w.heap.size + 1 + 1, o, none⟩ = false := fun o => frozen_later hb (by simp) (by simp [go_sem])
      have HB := hide (below_on (unhide B0) hb)
      clear hb
      replace QA := hide ((unhide QA).later (unhide HB))
      replace QB := hide ((unhide QB).later (unhide HB))
      go_wp2_with fail
      refine (floorO aq _ _ _ (unhide QA) (unhide PA) ((unhide KA).1.mono (by omega)) ((unhide KA).2.mono (by omega))).mono ?_
      rintro e w2 ⟨xf, lf, rfl, hb, of, af, nf⟩
      have s2 := hb.size
      replace z2 := fun o => frozen_later hb (World.block_lt_of_cell? _ _ k2_0) (z2 o)
      replace k0_0 := cell_later hb k0_0
      replace k0_1 := cell_later hb k0_1
      replace k0_2 := cell_later hb k0_2
      replace k0_3 := cell_later hb k0_3
      replace k1_0 := cell_later hb k1_0
      replace k1_1 := cell_later hb k1_1
      replace k1_2 := cell_later hb k1_2
      replace k1_3 := cell_later hb k1_3
      replace k2_0 := cell_later hb k2_0
      replace k2_1 := cell_later hb k2_1
      replace k2_2 := cell_later hb k2_2
      replace k2_3 := cell_later hb k2_3
      replace QA := hide ((unhide QA).later hb)
      replace QB := hide ((unhide QB).later hb)
      have OF := hide (outN_ow of af nf)
      replace HB := hide (below_on (unhide HB) hb)
      clear hb
      clear of af nf
      go_upto_region 4 with fail
      have hb : Below w2.heap.size w2 (w2.alloc (.cells #[.bool xf.g, .slice xf.a xf.n xf.c] 28)) := ((Below.refl _ _).alloc (by simp) _)
      replace k0_0 : (w2.alloc (.cells #[.bool xf.g, .slice xf.a xf.n xf.c] 28)).cell? ⟨w.heap.size, 0, none⟩ = some (.bool aq.num.g) := (ca_other k0_0)
      replace k0_1 : (w2.alloc (.cells #[.bool xf.g, .slice xf.a xf.n xf.c] 28)).cell? ⟨w.heap.size, 1, none⟩ = some (.slice aq.num.a aq.num.n aq.num.c) := (ca_other k0_1)
      replace k0_2 : (w2.alloc (.cells #[.bool xf.g, .slice xf.a xf.n xf.c] 28)).cell? ⟨w.heap.size, 2, none⟩ = some (.bool aq.den.g) := (ca_other k0_2)
      replace k0_3 : (w2.alloc (.cells #[.bool xf.g, .slice xf.a xf.n xf.c] 28)).cell? ⟨w.heap.size, 3, none⟩ = some (.slice aq.den.a aq.den.n aq.den.c) := (ca_other k0_3)
      replace k1_0 : (w2.alloc (.cells #[.bool xf.g, .slice xf.a xf.n xf.c] 28)).cell? ⟨w.heap.size + 1, 0, none⟩ = some (.bool bq.num.g) := (ca_other k1_0)
      replace k1_1 : (w2.alloc (.cells #[.bool xf.g, .slice xf.a xf.n xf.c] 28)).cell? ⟨w.heap.size + 1, 1, none⟩ = some (.slice bq.num.a bq.num.n bq.num.c) := (ca_other k1_1)
      replace k1_2 : (w2.alloc (.cells #[.bool xf.g, .slice xf.a xf.n xf.c] 28)).cell? ⟨w.heap.size + 1, 2, none⟩ = some (.bool bq.den.g) := (ca_other k1_2)
      replace k1_3 : (w2.alloc (.cells #[.bool xf.g, .slice xf.a xf.n xf.c] 28)).cell? ⟨w.heap.size + 1, 3, none⟩ = some (.slice bq.den.a bq.den.n bq.den.c) := (ca_other k1_3)
      replace k2_0 : (w2.alloc (.cells #[.bool xf.g, .slice xf.a xf.n xf.c] 28)).cell? ⟨w.heap.size + 1 + 1, 0, none⟩ = some (.bool false) := (ca_other k2_0)
      replace k2_1 : (w2.alloc (.cells #[.bool xf.g, .slice xf.a xf.n xf.c] 28)).cell? ⟨w.heap.size + 1 + 1, 1, none⟩ = some (.slice none 0 0) := (ca_other k2_1)
      replace k2_2 : (w2.alloc (.cells #[.bool xf.g, .slice xf.a xf.n xf.c] 28)).cell? ⟨w.heap.size + 1 + 1, 2, none⟩ = some (.bool false) := (ca_other k2_2)
      replace k2_3 : (w2.alloc (.cells #[.bool xf.g, .slice xf.a xf.n xf.c] 28)).cell? ⟨w.heap.size + 1 + 1, 3, none⟩ = some (.slice none 0 0) := (ca_other k2_3)
      have k3_0 : (w2.alloc (.cells #[.bool xf.g, .slice xf.a xf.n xf.c] 28)).cell? ⟨w2.heap.size, 0, none⟩ = some (.bool xf.g) := by simp [go_sem]
      have k3_1 : (w2.alloc (.cells #[.bool xf.g, .slice xf.a xf.n xf.c] 28)).cell? ⟨w2.heap.size, 1, none⟩ = some (.slice xf.a xf.n xf.c) := by simp [go_sem]
      replace z2 : ∀ o, (w2.alloc (.cells #[.bool xf.g, .slice xf.a xf.n xf.c] 28)).frozen? ⟨w.heap.size + 1 + 1, o, none⟩ = false := fun o => frozen_later hb (by omega) (z2 o)
      replace QA := hide ((unhide QA).later hb)
      replace QB := hide ((unhide QB).later hb)
      replace OF := hide ((unhide OF).later hb)
      replace HB := hide (below_on (unhide HB) hb)
      have szw3 := hb.size
      clear hb
      generalize (w2.alloc (.cells #[.bool xf.g, .slice xf.a xf.n xf.c] 28)) = w3 at *
      have lt5 : w2.heap.size < w3.heap.size := World.block_lt_of_cell? _ _ k3_0
      go_upto_region 4 with fail
      go_cut [6] (fun p wx => ∃ (G : Nat) (x : QV), p = .pointer (some ⟨G, 0, none⟩) ∧ Hid (BxA w wx G x (an / ad) 1) ∧ Hid (Below w3.heap.size w3 wx) ∧ w3.heap.size ≤ G)
      case first =>
        go_region_held3 (fun w' => w'.cell? ⟨w2.heap.size, 0, none⟩ = some (.bool xf.g) ∧ w'.cell? ⟨w2.heap.size, 1, none⟩ = some (.slice xf.a xf.n xf.c)) (with_reducible (first | exact ⟨k3_0, k3_1⟩ | exact ⟨cd_other k3_0, cd_other k3_1⟩ | exact ⟨ca_other k3_0, ca_other k3_1⟩ | exact ⟨cd_other (ca_other k3_0), cd_other (ca_other k3_1)⟩ | exact ⟨cs_other (cs_other (cs_other (cs_other (k3_0) (by omega)) (by omega)) (by omega)) (by omega), cs_other (cs_other (cs_other (cs_other (k3_1) (by omega)) (by omega)) (by omega)) (by omega)⟩ | fail))
          (first
          | (go_at_call 160; refine (ofI_v 1 _ (by omega) (by omega)).mono ?_; rintro e wo1 ⟨y1, ly1, rfl, hb, oy, ay, ny⟩; have hbx : Below w3.heap.size w3 wo1 := (by first | exact below_of_drew hb | exact bad hb); have szwo1 := hbx.size; replace z2 := fun o => frozen_later hbx (World.block_lt_of_cell? _ _ k2_0) (z2 o); replace k0_0 := cell_later hbx k0_0; replace k0_1 := cell_later hbx k0_1; replace k0_2 := cell_later hbx k0_2; replace k0_3 := cell_later hbx k0_3; replace k1_0 := cell_later hbx k1_0; replace k1_1 := cell_later hbx k1_1; replace k1_2 := cell_later hbx k1_2; replace k1_3 := cell_later hbx k1_3; replace k2_0 := cell_later hbx k2_0; replace k2_1 := cell_later hbx k2_1; replace k2_2 := cell_later hbx k2_2; replace k2_3 := cell_later hbx k2_3; replace k3_0 := cell_later hbx k3_0; replace k3_1 := cell_later hbx k3_1; replace QA := hide ((unhide QA).later hbx); replace QB := hide ((unhide QB).later hbx); replace OF := hide ((unhide OF).later hbx); have Py1 := hide (outN_ow oy ay ny); (try (replace gf := fun o => frozen_later hbx (World.block_lt_of_cell? _ _ g0) (gf o); replace g0 := cell_later hbx g0; replace g1 := cell_later hbx g1; replace g2 := cell_later hbx g2; replace g3 := cell_later hbx g3)); (try (refine cutP (p := wo1.cell? ⟨w3.heap.size, 0, none⟩ = some (.bool false) ∧ wo1.cell? ⟨w3.heap.size, 1, none⟩ = some (.slice none 0 0) ∧ wo1.cell? ⟨w3.heap.size, 2, none⟩ = some (.bool false) ∧ wo1.cell? ⟨w3.heap.size, 3, none⟩ = some (.slice none 0 0) ∧ ∀ o, wo1.frozen? ⟨w3.heap.size, o, none⟩ = false) ?_ (fun dd => ?_); (focus (refine ⟨cell_later hb ?_, cell_later hb ?_, cell_later hb ?_, cell_later hb ?_, fun o => frozen_later hb ?_ ?_⟩ <;> (simp [go_sem]; done))); obtain ⟨g0, g1, g2, g3, gf⟩ := dd)); have zz := hb.size; (try simp at zz); have HBr := hide hbx; clear hbx hb oy ay ny))
        all_goals go_wp2_with fail
        all_goals go_meet
        all_goals first
          | (with_reducible refine ⟨_, ⟨xf, y1⟩, rfl, hide (bxA_alloc (x := ⟨xf, y1⟩) 30 (below_on (unhide HB) (unhide HBr)) (unhide OF) (unhide Py1) ?_ ?_ ?_ ?_ ?_), hide ((unhide HBr).alloc (unhide HBr).size _), (unhide HBr).size⟩ <;> first | omega | (simp; done) | (simp; omega))
          | (with_reducible refine ⟨_, ⟨xf, y1⟩, rfl, hide (bxA_set (x := ⟨xf, y1⟩) (below_on (unhide HB) (unhide HBr)) (unhide OF) (unhide Py1) ?_ ?_ ?_ ?_ ?_ ?_ ?_ ?_ g0 g1 g2 g3 gf), hide ((metQ_but (v := ⟨xf, y1⟩)).below (unhide HBr) ?_ (unhide HBr).size), ?_⟩ <;> first | omega | (simp; done) | (simp; omega))
      case rest =>
        obtain ⟨G, xG, rfl, HG, hb0, loG⟩ := hcut
        have hb := unhide hb0
        clear hb0
        have hiG := (unhide HG).hi
        have szG := hb.size
        replace z2 := fun o => frozen_later hb (World.block_lt_of_cell? _ _ k2_0) (z2 o)
        replace k0_0 := cell_later hb k0_0
        replace k0_1 := cell_later hb k0_1
        replace k0_2 := cell_later hb k0_2
        replace k0_3 := cell_later hb k0_3
        replace k1_0 := cell_later hb k1_0
        replace k1_1 := cell_later hb k1_1
        replace k1_2 := cell_later hb k1_2
        replace k1_3 := cell_later hb k1_3
        replace k2_0 := cell_later hb k2_0
        replace k2_1 := cell_later hb k2_1
        replace k2_2 := cell_later hb k2_2
        replace k2_3 := cell_later hb k2_3
        replace k3_0 := cell_later hb k3_0
        replace k3_1 := cell_later hb k3_1
        replace QA := hide ((unhide QA).later hb)
        replace QB := hide ((unhide QB).later hb)
        replace OF := hide ((unhide OF).later hb)
        have OG := hide ((unhide HG).ow)
        replace HB := hide (below_on (unhide HB) hb)
        clear hb
        have k4_0 := (unhide HG).c0
        have k4_1 := (unhide HG).c1
        have k4_2 := (unhide HG).c2
        have k4_3 := (unhide HG).c3
        clear HG
        obtain ⟨w4, hw4⟩ : ∃ x, x = wc := ⟨_, rfl⟩
        subst hw4
        go_upto_region 5 with fail
        go_cut [7] (fun p wx => ∃ (G : Nat) (x : QV), p = .pointer (some ⟨G, 0, none⟩) ∧ Hid (BxA w4 wx G x (an / ad + 1) 1) ∧ Hid (Below w4.heap.size w4 wx) ∧ w4.heap.size ≤ G)
        case first =>
          go_region_held3 (fun w' => w'.cell? ⟨w2.heap.size, 0, none⟩ = some (.bool xf.g) ∧ w'.cell? ⟨w2.heap.size, 1, none⟩ = some (.slice xf.a xf.n xf.c)) (with_reducible (first | exact ⟨k3_0, k3_1⟩ | exact ⟨cd_other k3_0, cd_other k3_1⟩ | exact ⟨ca_other k3_0, ca_other k3_1⟩ | exact ⟨cd_other (ca_other k3_0), cd_other (ca_other k3_1)⟩ | exact ⟨cs_other (cs_other (cs_other (cs_other (k3_0) (by omega)) (by omega)) (by omega)) (by omega), cs_other (cs_other (cs_other (cs_other (k3_1) (by omega)) (by omega)) (by omega)) (by omega)⟩ | fail))
            (first
            | (have chk := Px1; clear chk; go_at_call 160; refine (ofI_v 1 _ (by omega) (by omega)).mono ?_; rintro e wo3 ⟨y3, ly3, rfl, hb, oy, ay, ny⟩; have hbx : Below wa.heap.size wa wo3 := (by first | exact hb | exact ba hb); have szwo3 := hbx.size; replace z2 := fun o => frozen_later hbx (World.block_lt_of_cell? _ _ k2_0) (z2 o); replace k0_0 := cell_later hbx k0_0; replace k0_1 := cell_later hbx k0_1; replace k0_2 := cell_later hbx k0_2; replace k0_3 := cell_later hbx k0_3; replace k1_0 := cell_later hbx k1_0; replace k1_1 := cell_later hbx k1_1; replace k1_2 := cell_later hbx k1_2; replace k1_3 := cell_later hbx k1_3; replace k2_0 := cell_later hbx k2_0; replace k2_1 := cell_later hbx k2_1; replace k2_2 := cell_later hbx k2_2; replace k2_3 := cell_later hbx k2_3; replace k3_0 := cell_later hbx k3_0; replace k3_1 := cell_later hbx k3_1; replace k4_0 := cell_later hbx k4_0; replace k4_1 := cell_later hbx k4_1; replace k4_2 := cell_later hbx k4_2; replace k4_3 := cell_later hbx k4_3; replace QA := hide ((unhide QA).later hbx); replace QB := hide ((unhide QB).later hbx); replace OF := hide ((unhide OF).later hbx); replace OG := hide ((unhide OG).later hbx); replace Py2 := hide ((unhide Py2).later hbx); replace Px1 := hide ((unhide Px1).later hbx); have Py3 := hide (outN_ow oy ay ny); (try (replace gf := fun o => frozen_later hbx (World.block_lt_of_cell? _ _ g0) (gf o); replace g0 := cell_later hbx g0; replace g1 := cell_later hbx g1; replace g2 := cell_later hbx g2; replace g3 := cell_later hbx g3)); (try (refine cutP (p := wo3.cell? ⟨wa.heap.size, 0, none⟩ = some (.bool false) ∧ wo3.cell? ⟨wa.heap.size, 1, none⟩ = some (.slice none 0 0) ∧ wo3.cell? ⟨wa.heap.size, 2, none⟩ = some (.bool false) ∧ wo3.cell? ⟨wa.heap.size, 3, none⟩ = some (.slice none 0 0) ∧ ∀ o, wo3.frozen? ⟨wa.heap.size, o, none⟩ = false) ?_ (fun dd => ?_); (focus (refine ⟨cell_later hb ?_, cell_later hb ?_, cell_later hb ?_, cell_later hb ?_, fun o => frozen_later hb ?_ ?_⟩ <;> (simp [go_sem]; done))); obtain ⟨g0, g1, g2, g3, gf⟩ := dd)); have zz := hb.size; (try simp at zz); have HBr := hide (below_on (unhide HBr) hbx); clear hbx hb oy ay ny)
            | (go_at_call 146; refine (addI_v xf y2 _ _ _ ?_ ?_ ((unhide BF).mono (by omega)) (one_bd2 (by omega))).mono ?_; (first | exact (unhide OF).is.later (Below.refl _ _) | exact (unhide OF).is.later ((Below.refl _ _).alloc (Nat.le_refl _) _)); (first | exact (unhide Py2).is.later (Below.refl _ _) | exact (unhide Py2).is.later ((Below.refl _ _).alloc (Nat.le_refl _) _)); rintro e wa ⟨x1, l1, rfl, hb, o1, a1, n1⟩; have hbx : Below wo2.heap.size wo2 wa := (by first | exact hb | exact ba hb); have szwa := hbx.size; replace z2 := fun o => frozen_later hbx (World.block_lt_of_cell? _ _ k2_0) (z2 o); replace k0_0 := cell_later hbx k0_0; replace k0_1 := cell_later hbx k0_1; replace k0_2 := cell_later hbx k0_2; replace k0_3 := cell_later hbx k0_3; replace k1_0 := cell_later hbx k1_0; replace k1_1 := cell_later hbx k1_1; replace k1_2 := cell_later hbx k1_2; replace k1_3 := cell_later hbx k1_3; replace k2_0 := cell_later hbx k2_0; replace k2_1 := cell_later hbx k2_1; replace k2_2 := cell_later hbx k2_2; replace k2_3 := cell_later hbx k2_3; replace k3_0 := cell_later hbx k3_0; replace k3_1 := cell_later hbx k3_1; replace k4_0 := cell_later hbx k4_0; replace k4_1 := cell_later hbx k4_1; replace k4_2 := cell_later hbx k4_2; replace k4_3 := cell_later hbx k4_3; replace QA := hide ((unhide QA).later hbx); replace QB := hide ((unhide QB).later hbx); replace OF := hide ((unhide OF).later hbx); replace OG := hide ((unhide OG).later hbx); replace Py2 := hide ((unhide Py2).later hbx); have Px1 := hide (outN_ow o1 a1 n1); (try (replace gf := fun o => frozen_later hbx (World.block_lt_of_cell? _ _ g0) (gf o); replace g0 := cell_later hbx g0; replace g1 := cell_later hbx g1; replace g2 := cell_later hbx g2; replace g3 := cell_later hbx g3)); (try (refine cutP (p := wa.cell? ⟨wo2.heap.size, 0, none⟩ = some (.bool false) ∧ wa.cell? ⟨wo2.heap.size, 1, none⟩ = some (.slice none 0 0) ∧ wa.cell? ⟨wo2.heap.size, 2, none⟩ = some (.bool false) ∧ wa.cell? ⟨wo2.heap.size, 3, none⟩ = some (.slice none 0 0) ∧ ∀ o, wa.frozen? ⟨wo2.heap.size, o, none⟩ = false) ?_ (fun dd => ?_); (focus (refine ⟨cell_later hb ?_, cell_later hb ?_, cell_later hb ?_, cell_later hb ?_, fun o => frozen_later hb ?_ ?_⟩ <;> (simp [go_sem]; done))); obtain ⟨g0, g1, g2, g3, gf⟩ := dd)); have zz := hb.size; (try simp at zz); have HBr := hide (below_on (unhide HBr) hbx); clear hbx hb o1 a1 n1)
            | (go_at_call 160; refine (ofI_v 1 _ (by omega) (by omega)).mono ?_; rintro e wo2 ⟨y2, ly2, rfl, hb, oy, ay, ny⟩; have hbx : Below w4.heap.size w4 wo2 := (by first | exact below_of_drew hb | exact bad hb); have szwo2 := hbx.size; replace z2 := fun o => frozen_later hbx (World.block_lt_of_cell? _ _ k2_0) (z2 o); replace k0_0 := cell_later hbx k0_0; replace k0_1 := cell_later hbx k0_1; replace k0_2 := cell_later hbx k0_2; replace k0_3 := cell_later hbx k0_3; replace k1_0 := cell_later hbx k1_0; replace k1_1 := cell_later hbx k1_1; replace k1_2 := cell_later hbx k1_2; replace k1_3 := cell_later hbx k1_3; replace k2_0 := cell_later hbx k2_0; replace k2_1 := cell_later hbx k2_1; replace k2_2 := cell_later hbx k2_2; replace k2_3 := cell_later hbx k2_3; replace k3_0 := cell_later hbx k3_0; replace k3_1 := cell_later hbx k3_1; replace k4_0 := cell_later hbx k4_0; replace k4_1 := cell_later hbx k4_1; replace k4_2 := cell_later hbx k4_2; replace k4_3 := cell_later hbx k4_3; replace QA := hide ((unhide QA).later hbx); replace QB := hide ((unhide QB).later hbx); replace OF := hide ((unhide OF).later hbx); replace OG := hide ((unhide OG).later hbx); have Py2 := hide (outN_ow oy ay ny); (try (replace gf := fun o => frozen_later hbx (World.block_lt_of_cell? _ _ g0) (gf o); replace g0 := cell_later hbx g0; replace g1 := cell_later hbx g1; replace g2 := cell_later hbx g2; replace g3 := cell_later hbx g3)); (try (refine cutP (p := wo2.cell? ⟨w4.heap.size, 0, none⟩ = some (.bool false) ∧ wo2.cell? ⟨w4.heap.size, 1, none⟩ = some (.slice none 0 0) ∧ wo2.cell? ⟨w4.heap.size, 2, none⟩ = some (.bool false) ∧ wo2.cell? ⟨w4.heap.size, 3, none⟩ = some (.slice none 0 0) ∧ ∀ o, wo2.frozen? ⟨w4.heap.size, o, none⟩ = false) ?_ (fun dd => ?_); (focus (refine ⟨cell_later hb ?_, cell_later hb ?_, cell_later hb ?_, cell_later hb ?_, fun o => frozen_later hb ?_ ?_⟩ <;> (simp [go_sem]; done))); obtain ⟨g0, g1, g2, g3, gf⟩ := dd)); have zz := hb.size; (try simp at zz); have HBr := hide hbx; clear hbx hb oy ay ny))
          all_goals go_wp2_with fail
          all_goals go_meet
          all_goals first
            | (with_reducible refine ⟨_, ⟨x1, y3⟩, rfl, hide (bxA_alloc (x := ⟨x1, y3⟩) 30 (unhide HBr) (unhide Px1) (unhide Py3) ?_ ?_ ?_ ?_ ?_), hide ((unhide HBr).alloc (unhide HBr).size _), (unhide HBr).size⟩ <;> first | omega | (simp; done) | (simp; omega))
            | (with_reducible refine ⟨_, ⟨x1, y3⟩, rfl, hide (bxA_set (x := ⟨x1, y3⟩) (unhide HBr) (unhide Px1) (unhide Py3) ?_ ?_ ?_ ?_ ?_ ?_ ?_ ?_ g0 g1 g2 g3 gf), hide ((metQ_but (v := ⟨x1, y3⟩)).below (unhide HBr) ?_ (unhide HBr).size), ?_⟩ <;> first | omega | (simp; done) | (simp; omega))
        case rest =>
          obtain ⟨J, xJ, rfl, HJ, hb0, loJ⟩ := hcut
          have hb := unhide hb0
          clear hb0
          have hiJ := (unhide HJ).hi
          have szJ := hb.size
          replace z2 := fun o => frozen_later hb (World.block_lt_of_cell? _ _ k2_0) (z2 o)
          replace k0_0 := cell_later hb k0_0
          replace k0_1 := cell_later hb k0_1
          replace k0_2 := cell_later hb k0_2
          replace k0_3 := cell_later hb k0_3
          replace k1_0 := cell_later hb k1_0
          replace k1_1 := cell_later hb k1_1
          replace k1_2 := cell_later hb k1_2
          replace k1_3 := cell_later hb k1_3
          replace k2_0 := cell_later hb k2_0
          replace k2_1 := cell_later hb k2_1
          replace k2_2 := cell_later hb k2_2
          replace k2_3 := cell_later hb k2_3
          replace k4_0 := cell_later hb k4_0
          replace k4_1 := cell_later hb k4_1
          replace k4_2 := cell_later hb k4_2
          replace k4_3 := cell_later hb k4_3
          clear k3_0 k3_1
          replace QA := hide ((unhide QA).later hb)
          replace QB := hide ((unhide QB).later hb)
          replace OF := hide ((unhide OF).later hb)
          replace OG := hide ((unhide OG).later hb)
          have OJ := hide ((unhide HJ).ow)
          replace HB := hide (below_on (unhide HB) hb)
          clear hb
          have k5_0 := (unhide HJ).c0
          have k5_1 := (unhide HJ).c1
          have k5_2 := (unhide HJ).c2
          have k5_3 := (unhide HJ).c3
          clear HJ
          obtain ⟨wd, hwd⟩ : ∃ x, x = wc := ⟨_, rfl⟩
          subst hwd
          go_wp2_with fail
          refine (cmpQI xJ bq _ _ _ _ _ (unhide OJ).is (unhide QB) (((unhide BF).add (one_bd2 (by omega))).mono (by omega)) (one_bd2 (by omega)) ((unhide KB).1.mono (by omega)) ((unhide KB).2.mono (by omega))).mono ?_
          rintro e w5 ⟨rfl, hb⟩
          have s5 := hb.size
          replace z2 := fun o => frozen_later hb (World.block_lt_of_cell? _ _ k2_0) (z2 o)
          replace k0_0 := cell_later hb k0_0
          replace k0_1 := cell_later hb k0_1
          replace k0_2 := cell_later hb k0_2
          replace k0_3 := cell_later hb k0_3
          replace k1_0 := cell_later hb k1_0
          replace k1_1 := cell_later hb k1_1
          replace k1_2 := cell_later hb k1_2
          replace k1_3 := cell_later hb k1_3
          replace k2_0 := cell_later hb k2_0
          replace k2_1 := cell_later hb k2_1
          replace k2_2 := cell_later hb k2_2
          replace k2_3 := cell_later hb k2_3
          replace k4_0 := cell_later hb k4_0
          replace k4_1 := cell_later hb k4_1
          replace k4_2 := cell_later hb k4_2
          replace k4_3 := cell_later hb k4_3
          replace k5_0 := cell_later hb k5_0
          replace k5_1 := cell_later hb k5_1
          replace k5_2 := cell_later hb k5_2
          replace k5_3 := cell_later hb k5_3
          replace QA := hide ((unhide QA).later hb)
          replace QB := hide ((unhide QB).later hb)
          replace OF := hide ((unhide OF).later hb)
          replace OG := hide ((unhide OG).later hb)
          replace OJ := hide ((unhide OJ).later hb)
          replace HB := hide (below_on (unhide HB) hb)
          clear hb
          go_wp2_with fail
          refine (midI_v xG xJ aq bq _ _ _ _ _ _ _ _ _ (unhide OG).is (unhide OJ).is (unhide QA) (unhide QB) ⟨(unhide BF).mono (by omega), one_bd2 (by omega)⟩ ⟨((unhide BF).add (one_bd2 (by omega))).mono (by omega), one_bd2 (by omega)⟩ ⟨(unhide KA).1.mono (by omega), (unhide KA).2.mono (by omega)⟩ ⟨(unhide KB).1.mono (by omega), (unhide KB).2.mono (by omega)⟩).mono ?_
          rintro e w6 ⟨r, xs, us, rfl, hb, k1, k2, k3, k4⟩
          have s6 := hb.size
          have OR := hide (And.intro k1 (And.intro k2 (And.intro k3 k4)))
          replace z2 := fun o => frozen_later hb (World.block_lt_of_cell? _ _ k2_0) (z2 o)
          replace k2_0 := cell_later hb k2_0
          replace k2_1 := cell_later hb k2_1
          replace k2_2 := cell_later hb k2_2
          replace k2_3 := cell_later hb k2_3
          clear k0_0 k0_1 k0_2 k0_3 k1_0 k1_1 k1_2 k1_3 k4_0 k4_1 k4_2 k4_3 k5_0 k5_1 k5_2 k5_3
          replace QA := hide ((unhide QA).later hb)
          replace QB := hide ((unhide QB).later hb)
          replace OF := hide ((unhide OF).later hb)
          replace OG := hide ((unhide OG).later hb)
          replace OJ := hide ((unhide OJ).later hb)
          replace HB := hide (below_on (unhide HB) hb)
          clear hb
          clear k1 k2 k3 k4
          go_wp2
          refine bodyPost_ret (v := .agg #[.bool r.num.g, .slice r.num.a r.num.n r.num.c, .bool r.den.g, .slice r.den.a r.den.n r.den.c]) (by simp [results, Try.results97, go_sem, k2_0, k2_1, k2_2, k2_3]) rfl ?_
          exact outQ_fin (q := r) (R := w.heap.size + 1 + 1) (by omega) (unhide HB) (metQ_but (w5 := w6) (v := r) (G := w.heap.size + 1 + 1)) ((unhide OR).1.wide (by omega) (by omega)) (unhide OR).2.1 (unhide OR).2.2.1 (unhide OR).2.2.2
end Go.Proofs.Ytlmeokeanihhoaa
namespace Go.Proofs.Ytlmeokeanihhoaa
open Go.RowKit
set_option linter.unusedVariables false
set_option maxRecDepth 100000
set_option linter.unusedSimpArgs false

def pS (d d' : QD) : Bool := (gQ d && gQ d') && decide ((smp (nQ d) (dQ d) (nQ d') (dQ d')).2 ≠ 0)
theorem pS_bad {d d' : QD} (h : (gQ d && gQ d') = false) : pS d d' = false := by unfold pS; rw [h]; rfl
theorem pS_none {d d' : QD} (h : (smp (nQ d) (dQ d) (nQ d') (dQ d')) = (0, 0)) : pS d d' = false := by unfold pS; rw [h]; cases (gQ d && gQ d') <;> rfl
theorem pS_some {d d' : QD} (h : (gQ d && gQ d') = true) (k : (smp (nQ d) (dQ d) (nQ d') (dQ d')).2 ≠ 0) : pS d d' = true := by unfold pS; rw [h, decide_eq_true k]; rfl

set_option maxHeartbeats 4000000 in
theorem ofSimp (q q' : QV) (d d' : QD) (w : World) (h : AllAr w [(q.num, d.num), (q.den, d.den)]) (h' : AllAr w [(q'.num, d'.num), (q'.den, d'.den)]) :
    Calls Try.prog 79 #[.agg #[.bool q.num.g, .slice q.num.a q.num.n q.num.c, .bool q.den.g, .slice q.den.a q.den.n q.den.c], .agg #[.bool q'.num.g, .slice q'.num.a q'.num.n q'.num.c, .bool q'.den.g, .slice q'.den.a q'.den.n q'.den.c], .func (Fn.func 97) #[] #[], .func (Fn.func 81) #[] #[]] w (RetQ w (AnsQ (pS d d') (smp (nQ d) (dQ d) (nQ d') (dQ d')).1 (smp (nQ d) (dQ d) (nQ d') (dQ d')).2)) := by
  have H1 := hide h
  have H2 := hide h'
  clear h h'
  cases hg1 : gQ d
  · have G1 := hide (fun w1 (k : AllAr w1 [(q.num, d.num), (q.den, d.den)]) => goodQI q d w1 k)
    rw [hg1] at G1
    rw [pS_bad (by rw [hg1]; rfl)]
    clear hg1
    have B0 := hide (show Below w.heap.size w (((w.alloc (.cells #[.bool q.num.g, .slice q.num.a q.num.n q.num.c, .bool q.den.g, .slice q.den.a q.den.n q.den.c] 30)).alloc (.cells #[.bool q'.num.g, .slice q'.num.a q'.num.n q'.num.c, .bool q'.den.g, .slice q'.den.a q'.den.n q'.den.c] 30)).alloc (.cells #[.bool false, .slice none 0 0, .bool false, .slice none 0 0] 30)) from ((((Below.refl _ _).alloc (by simp) _).alloc (by simp) _).alloc (by simp <;> omega) _))
    go_enter Try.func79, Try.ntmps79
    go_wp2_with fail
    refine (unhide G1 _ ((unhide H1).later (unhide B0))).mono ?_
    rintro e w1 ⟨rfl, hb⟩
    have s1 : w.heap.size + 1 + 1 < w1.heap.size := by have := hb.size; simp at this; omega
    have k2_0 : w1.cell? ⟨w.heap.size + 1 + 1, 0, none⟩ = some (.bool false) := cell_later hb (by simp [go_sem])
    have k2_1 : w1.cell? ⟨w.heap.size + 1 + 1, 1, none⟩ = some (.slice none 0 0) := cell_later hb (by simp [go_sem])
    have k2_2 : w1.cell? ⟨w.heap.size + 1 + 1, 2, none⟩ = some (.bool false) := cell_later hb (by simp [go_sem])
    have k2_3 : w1.cell? ⟨w.heap.size + 1 + 1, 3, none⟩ = some (.slice none 0 0) := cell_later hb (by simp [go_sem])
    have z2 : ∀ o, w1.frozen? ⟨w.heap.size + 1 + 1, o, none⟩ = false := fun o => frozen_later hb (by simp) (by simp [go_sem])
    have HB := hide (below_on (unhide B0) hb)
    clear hb
    go_upto_region 3 with fail
    have hb : Below w1.heap.size w1 (w1.alloc (.cells #[.bool false, .slice none 0 0, .bool false, .slice none 0 0] 30)) := ((Below.refl _ _).alloc (by simp) _)
    have k3_0 : (w1.alloc (.cells #[.bool false, .slice none 0 0, .bool false, .slice none 0 0] 30)).cell? ⟨w1.heap.size, 0, none⟩ = some (.bool false) := by simp [go_sem]
    have k3_1 : (w1.alloc (.cells #[.bool false, .slice none 0 0, .bool false, .slice none 0 0] 30)).cell? ⟨w1.heap.size, 1, none⟩ = some (.slice none 0 0) := by simp [go_sem]
    have k3_2 : (w1.alloc (.cells #[.bool false, .slice none 0 0, .bool false, .slice none 0 0] 30)).cell? ⟨w1.heap.size, 2, none⟩ = some (.bool false) := by simp [go_sem]
    have k3_3 : (w1.alloc (.cells #[.bool false, .slice none 0 0, .bool false, .slice none 0 0] 30)).cell? ⟨w1.heap.size, 3, none⟩ = some (.slice none 0 0) := by simp [go_sem]
    replace k2_0 : (w1.alloc (.cells #[.bool false, .slice none 0 0, .bool false, .slice none 0 0] 30)).cell? ⟨w.heap.size + 1 + 1, 0, none⟩ = some (.bool false) := (ca_other k2_0)
    replace k2_1 : (w1.alloc (.cells #[.bool false, .slice none 0 0, .bool false, .slice none 0 0] 30)).cell? ⟨w.heap.size + 1 + 1, 1, none⟩ = some (.slice none 0 0) := (ca_other k2_1)
    replace k2_2 : (w1.alloc (.cells #[.bool false, .slice none 0 0, .bool false, .slice none 0 0] 30)).cell? ⟨w.heap.size + 1 + 1, 2, none⟩ = some (.bool false) := (ca_other k2_2)
    replace k2_3 : (w1.alloc (.cells #[.bool false, .slice none 0 0, .bool false, .slice none 0 0] 30)).cell? ⟨w.heap.size + 1 + 1, 3, none⟩ = some (.slice none 0 0) := (ca_other k2_3)
    replace z2 : ∀ o, (w1.alloc (.cells #[.bool false, .slice none 0 0, .bool false, .slice none 0 0] 30)).frozen? ⟨w.heap.size + 1 + 1, o, none⟩ = false := fun o => frozen_later hb (by omega) (z2 o)
    replace HB := hide (below_on (unhide HB) hb)
    have szwz := hb.size
    clear hb
    generalize (w1.alloc (.cells #[.bool false, .slice none 0 0, .bool false, .slice none 0 0] 30)) = wz at *
    go_wp2
    refine bodyPost_ret (v := .tuple #[.agg #[.bool false, .slice none 0 0, .bool false, .slice none 0 0], .bool false]) (by simp [results, Try.results79, go_sem, k2_0, k2_1, k2_2, k2_3]) rfl ?_
    exact retQ_fin (v := (⟨⟨false, none, 0, 0⟩, ⟨false, none, 0, 0⟩⟩ : QV)) (d := (⟨⟨false, []⟩, ⟨false, []⟩⟩ : QD)) (R := w.heap.size + 1 + 1) (by omega) (unhide HB) (metQ_but (w5 := wz) (v := (⟨⟨false, none, 0, 0⟩, ⟨false, none, 0, 0⟩⟩ : QV)) (G := w.heap.size + 1 + 1)) (zeroQ _ _ _) (ansQ_none _ _)
  · cases hg2 : gQ d'
    · have G1 := hide (fun w1 (k : AllAr w1 [(q.num, d.num), (q.den, d.den)]) => goodQI q d w1 k)
      have G2 := hide (fun w1 (k : AllAr w1 [(q'.num, d'.num), (q'.den, d'.den)]) => goodQI q' d' w1 k)
      rw [hg1] at G1
      rw [hg2] at G2
      rw [pS_bad (by rw [hg1, hg2]; rfl)]
      clear hg1 hg2
      have B0 := hide (show Below w.heap.size w (((w.alloc (.cells #[.bool q.num.g, .slice q.num.a q.num.n q.num.c, .bool q.den.g, .slice q.den.a q.den.n q.den.c] 30)).alloc (.cells #[.bool q'.num.g, .slice q'.num.a q'.num.n q'.num.c, .bool q'.den.g, .slice q'.den.a q'.den.n q'.den.c] 30)).alloc (.cells #[.bool false, .slice none 0 0, .bool false, .slice none 0 0] 30)) from ((((Below.refl _ _).alloc (by simp) _).alloc (by simp) _).alloc (by simp <;> omega) _))
      go_enter Try.func79, Try.ntmps79
      go_wp2_with fail
      refine (unhide G1 _ ((unhide H1).later (unhide B0))).mono ?_
      rintro e w1 ⟨rfl, hb⟩
      have s1 : w.heap.size + 1 + 1 < w1.heap.size := by have := hb.size; simp at this; omega
      have k1_0 : w1.cell? ⟨w.heap.size + 1, 0, none⟩ = some (.bool q'.num.g) := cell_later hb (by simp [go_sem])
      have k1_1 : w1.cell? ⟨w.heap.size + 1, 1, none⟩ = some (.slice q'.num.a q'.num.n q'.num.c) := cell_later hb (by simp [go_sem])
      have k1_2 : w1.cell? ⟨w.heap.size + 1, 2, none⟩ = some (.bool q'.den.g) := cell_later hb (by simp [go_sem])
      have k1_3 : w1.cell? ⟨w.heap.size + 1, 3, none⟩ = some (.slice q'.den.a q'.den.n q'.den.c) := cell_later hb (by simp [go_sem])
      have k2_0 : w1.cell? ⟨w.heap.size + 1 + 1, 0, none⟩ = some (.bool false) := cell_later hb (by simp [go_sem])
      have k2_1 : w1.cell? ⟨w.heap.size + 1 + 1, 1, none⟩ = some (.slice none 0 0) := cell_later hb (by simp [go_sem])
      have k2_2 : w1.cell? ⟨w.heap.size + 1 + 1, 2, none⟩ = some (.bool false) := cell_later hb (by simp [go_sem])
      have k2_3 : w1.cell? ⟨w.heap.size + 1 + 1, 3, none⟩ = some (.slice none 0 0) := cell_later hb (by simp [go_sem])
      have z2 : ∀ o, w1.frozen? ⟨w.heap.size + 1 + 1, o, none⟩ = false := fun o => frozen_later hb (by simp) (by simp [go_sem])
      have HB := hide (below_on (unhide B0) hb)
      clear hb
      go_wp2_with fail
      refine (unhide G2 _ ((unhide H2).later (unhide HB))).mono ?_
      rintro e w2 ⟨rfl, hb⟩
      have s2 := hb.size
      replace z2 := fun o => frozen_later hb (World.block_lt_of_cell? _ _ k2_0) (z2 o)
      replace k2_0 := cell_later hb k2_0
      replace k2_1 := cell_later hb k2_1
      replace k2_2 := cell_later hb k2_2
      replace k2_3 := cell_later hb k2_3
      clear k1_0 k1_1 k1_2 k1_3
      replace HB := hide (below_on (unhide HB) hb)
      clear hb
      go_upto_region 3 with fail
      have hb : Below w2.heap.size w2 (w2.alloc (.cells #[.bool false, .slice none 0 0, .bool false, .slice none 0 0] 30)) := ((Below.refl _ _).alloc (by simp) _)
      have k3_0 : (w2.alloc (.cells #[.bool false, .slice none 0 0, .bool false, .slice none 0 0] 30)).cell? ⟨w2.heap.size, 0, none⟩ = some (.bool false) := by simp [go_sem]
      have k3_1 : (w2.alloc (.cells #[.bool false, .slice none 0 0, .bool false, .slice none 0 0] 30)).cell? ⟨w2.heap.size, 1, none⟩ = some (.slice none 0 0) := by simp [go_sem]
      have k3_2 : (w2.alloc (.cells #[.bool false, .slice none 0 0, .bool false, .slice none 0 0] 30)).cell? ⟨w2.heap.size, 2, none⟩ = some (.bool false) := by simp [go_sem]
      have k3_3 : (w2.alloc (.cells #[.bool false, .slice none 0 0, .bool false, .slice none 0 0] 30)).cell? ⟨w2.heap.size, 3, none⟩ = some (.slice none 0 0) := by simp [go_sem]
      replace k2_0 : (w2.alloc (.cells #[.bool false, .slice none 0 0, .bool false, .slice none 0 0] 30)).cell? ⟨w.heap.size + 1 + 1, 0, none⟩ = some (.bool false) := (ca_other k2_0)
      replace k2_1 : (w2.alloc (.cells #[.bool false, .slice none 0 0, .bool false, .slice none 0 0] 30)).cell? ⟨w.heap.size + 1 + 1, 1, none⟩ = some (.slice none 0 0) := (ca_other k2_1)
      replace k2_2 : (w2.alloc (.cells #[.bool false, .slice none 0 0, .bool false, .slice none 0 0] 30)).cell? ⟨w.heap.size + 1 + 1, 2, none⟩ = some (.bool false) := (ca_other k2_2)
      replace k2_3 : (w2.alloc (.cells #[.bool false, .slice none 0 0, .bool false, .slice none 0 0] 30)).cell? ⟨w.heap.size + 1 + 1, 3, none⟩ = some (.slice none 0 0) := (ca_other k2_3)
      replace z2 : ∀ o, (w2.alloc (.cells #[.bool false, .slice none 0 0, .bool false, .slice none 0 0] 30)).frozen? ⟨w.heap.size + 1 + 1, o, none⟩ = false := fun o => frozen_later hb (by omega) (z2 o)
      replace HB := hide (below_on (unhide HB) hb)
      have szwz := hb.size
      clear hb
      generalize (w2.alloc (.cells #[.bool false, .slice none 0 0, .bool false, .slice none 0 0] 30)) = wz at *
      go_wp2
      refine bodyPost_ret (v := .tuple #[.agg #[.bool false, .slice none 0 0, .bool false, .slice none 0 0], .bool false]) (by simp [results, Try.results79, go_sem, k2_0, k2_1, k2_2, k2_3]) rfl ?_
      exact retQ_fin (v := (⟨⟨false, none, 0, 0⟩, ⟨false, none, 0, 0⟩⟩ : QV)) (d := (⟨⟨false, []⟩, ⟨false, []⟩⟩ : QD)) (R := w.heap.size + 1 + 1) (by omega) (unhide HB) (metQ_but (w5 := wz) (v := (⟨⟨false, none, 0, 0⟩, ⟨false, none, 0, 0⟩⟩ : QV)) (G := w.heap.size + 1 + 1)) (zeroQ _ _ _) (ansQ_none _ _)
    · by_cases hs : (smp (nQ d) (dQ d) (nQ d') (dQ d')).2 ≠ 0
      · have G1 := hide (fun w1 (k : AllAr w1 [(q.num, d.num), (q.den, d.den)]) => goodQI q d w1 k)
        have G2 := hide (fun w1 (k : AllAr w1 [(q'.num, d'.num), (q'.den, d'.den)]) => goodQI q' d' w1 k)
        rw [hg1] at G1
        rw [hg2] at G2
        have J1 := hide (isGood_of (unhide H1) hg1)
        have J2 := hide (isGood_of (unhide H2) hg2)
        rw [pS_some (by rw [hg1, hg2]; rfl) hs]
        have HS := hide hs
        clear hg1 hg2 hs
        have B0 := hide (show Below w.heap.size w (((w.alloc (.cells #[.bool q.num.g, .slice q.num.a q.num.n q.num.c, .bool q.den.g, .slice q.den.a q.den.n q.den.c] 30)).alloc (.cells #[.bool q'.num.g, .slice q'.num.a q'.num.n q'.num.c, .bool q'.den.g, .slice q'.den.a q'.den.n q'.den.c] 30)).alloc (.cells #[.bool false, .slice none 0 0, .bool false, .slice none 0 0] 30)) from ((((Below.refl _ _).alloc (by simp) _).alloc (by simp) _).alloc (by simp <;> omega) _))
        go_enter Try.func79, Try.ntmps79
        go_wp2_with fail
        refine (unhide G1 _ ((unhide H1).later (unhide B0))).mono ?_
        rintro e w1 ⟨rfl, hb⟩
        have s1 : w.heap.size + 1 + 1 < w1.heap.size := by have := hb.size; simp at this; omega
        have k0_0 : w1.cell? ⟨w.heap.size, 0, none⟩ = some (.bool q.num.g) := cell_later hb (by simp [go_sem])
        have k0_1 : w1.cell? ⟨w.heap.size, 1, none⟩ = some (.slice q.num.a q.num.n q.num.c) := cell_later hb (by simp [go_sem])
        have k0_2 : w1.cell? ⟨w.heap.size, 2, none⟩ = some (.bool q.den.g) := cell_later hb (by simp [go_sem])
        have k0_3 : w1.cell? ⟨w.heap.size, 3, none⟩ = some (.slice q.den.a q.den.n q.den.c) := cell_later hb (by simp [go_sem])
        have k1_0 : w1.cell? ⟨w.heap.size + 1, 0, none⟩ = some (.bool q'.num.g) := cell_later hb (by simp [go_sem])
        have k1_1 : w1.cell? ⟨w.heap.size + 1, 1, none⟩ = some (.slice q'.num.a q'.num.n q'.num.c) := cell_later hb (by simp [go_sem])
        have k1_2 : w1.cell? ⟨w.heap.size + 1, 2, none⟩ = some (.bool q'.den.g) := cell_later hb (by simp [go_sem])
        have k1_3 : w1.cell? ⟨w.heap.size + 1, 3, none⟩ = some (.slice q'.den.a q'.den.n q'.den.c) := cell_later hb (by simp [go_sem])
        have k2_0 : w1.cell? ⟨w.heap.size + 1 + 1, 0, none⟩ = some (.bool false) := cell_later hb (by simp [go_sem])
        have k2_1 : w1.cell? ⟨w.heap.size + 1 + 1, 1, none⟩ = some (.slice none 0 0) := cell_later hb (by simp [go_sem])
        have k2_2 : w1.cell? ⟨w.heap.size + 1 + 1, 2, none⟩ = some (.bool false) := cell_later hb (by simp [go_sem])
        have k2_3 : w1.cell? ⟨w.heap.size + 1 + 1, 3, none⟩ = some (.slice none 0 0) := cell_later hb (by simp [go_sem])
        have z2 : ∀ o, w1.frozen? ⟨w.heap.size + 1 + 1, o, none⟩ = false := fun o => frozen_later hb (by simp) (by simp [go_sem])
        have HB := hide (below_on (unhide B0) hb)
        clear hb
        go_wp2_with fail
        refine (unhide G2 _ ((unhide H2).later (unhide HB))).mono ?_
        rintro e w2 ⟨rfl, hb⟩
        have s2 := hb.size
        replace z2 := fun o => frozen_later hb (World.block_lt_of_cell? _ _ k2_0) (z2 o)
        replace k0_0 := cell_later hb k0_0
        replace k0_1 := cell_later hb k0_1
        replace k0_2 := cell_later hb k0_2
        replace k0_3 := cell_later hb k0_3
        replace k1_0 := cell_later hb k1_0
        replace k1_1 := cell_later hb k1_1
        replace k1_2 := cell_later hb k1_2
        replace k1_3 := cell_later hb k1_3
        replace k2_0 := cell_later hb k2_0
        replace k2_1 := cell_later hb k2_1
        replace k2_2 := cell_later hb k2_2
        replace k2_3 := cell_later hb k2_3
        replace HB := hide (below_on (unhide HB) hb)
        clear hb
        go_wp2_with fail
        refine (simpI_v q q' _ _ _ _ _ ((unhide J1).is.later (unhide HB)) ((unhide J2).is.later (unhide HB)) (unhide J1).pos (unhide J2).pos ⟨(unhide J1).kn, (unhide J1).kd⟩ ⟨(unhide J2).kn, (unhide J2).kd⟩).mono ?_
        rintro e w3 ⟨r, zs, us, rfl, hb, or, ar, nz, nu⟩
        have s3 := hb.size
        have RM : r.den.n ≤ maxLen := Nat.le_trans ar.tail.head.ar.cap ar.tail.head.ar.top
        have NN := hide (And.intro nz nu)
        replace z2 := fun o => frozen_later hb (World.block_lt_of_cell? _ _ k2_0) (z2 o)
        replace k2_0 := cell_later hb k2_0
        replace k2_1 := cell_later hb k2_1
        replace k2_2 := cell_later hb k2_2
        replace k2_3 := cell_later hb k2_3
        clear k0_0 k0_1 k0_2 k0_3 k1_0 k1_1 k1_2 k1_3
        have OR := hide (or)
        replace HB := hide (below_on (unhide HB) hb)
        clear hb
        clear or ar nz nu
        go_wp2_with fail
        refine (whereQ r _ _ zs us w2.heap.size w3.heap.size _ (unhide OR) (Nat.le_refl _) RM (unhide NN).1 (unhide NN).2 (unhide HS)).mono ?_
        rintro e w4 ⟨v, dv, ok, rfl, hb, ov, hu⟩
        have s4 := hb.size
        have UU := hide hu
        replace z2 := fun o => frozen_later hb (World.block_lt_of_cell? _ _ k2_0) (z2 o)
        replace k2_0 := cell_later hb k2_0
        replace k2_1 := cell_later hb k2_1
        replace k2_2 := cell_later hb k2_2
        replace k2_3 := cell_later hb k2_3
        replace OR := hide ((unhide OR).later hb)
        have OV := hide (ov)
        replace HB := hide (below_on (unhide HB) hb)
        clear hb
        clear ov hu
        go_wp2
        refine bodyPost_ret (v := .tuple #[.agg #[.bool v.num.g, .slice v.num.a v.num.n v.num.c, .bool v.den.g, .slice v.den.a v.den.n v.den.c], .bool ok]) (by simp [results, Try.results79, go_sem, k2_0, k2_1, k2_2, k2_3]) rfl ?_
        exact retQ_fin (v := v) (d := dv) (R := w.heap.size + 1 + 1) (by omega) (unhide HB) (metQ_but (w5 := w4) (v := v) (G := w.heap.size + 1 + 1)) ((unhide OV).wide (by omega) (by omega)) (unhide UU)
      · have G1 := hide (fun w1 (k : AllAr w1 [(q.num, d.num), (q.den, d.den)]) => goodQI q d w1 k)
        have G2 := hide (fun w1 (k : AllAr w1 [(q'.num, d'.num), (q'.den, d'.den)]) => goodQI q' d' w1 k)
        rw [hg1] at G1
        rw [hg2] at G2
        have J1 := hide (isGood_of (unhide H1) hg1)
        have J2 := hide (isGood_of (unhide H2) hg2)
        have HS := hide (show (smp (nQ d) (dQ d) (nQ d') (dQ d')).2 = 0 from Classical.byContradiction hs)
        rw [pS_none (by rcases smp_pos (an := nQ d) (ad := dQ d) (bn := nQ d') (bd := dQ d') with e | e; exact e; exact absurd (unhide HS) (by omega))]
        clear hg1 hg2 hs
        have B0 := hide (show Below w.heap.size w (((w.alloc (.cells #[.bool q.num.g, .slice q.num.a q.num.n q.num.c, .bool q.den.g, .slice q.den.a q.den.n q.den.c] 30)).alloc (.cells #[.bool q'.num.g, .slice q'.num.a q'.num.n q'.num.c, .bool q'.den.g, .slice q'.den.a q'.den.n q'.den.c] 30)).alloc (.cells #[.bool false, .slice none 0 0, .bool false, .slice none 0 0] 30)) from ((((Below.refl _ _).alloc (by simp) _).alloc (by simp) _).alloc (by simp <;> omega) _))
        go_enter Try.func79, Try.ntmps79
        go_wp2_with fail
        refine (unhide G1 _ ((unhide H1).later (unhide B0))).mono ?_
        rintro e w1 ⟨rfl, hb⟩
        have s1 : w.heap.size + 1 + 1 < w1.heap.size := by have := hb.size; simp at this; omega
        have k0_0 : w1.cell? ⟨w.heap.size, 0, none⟩ = some (.bool q.num.g) := cell_later hb (by simp [go_sem])
        have k0_1 : w1.cell? ⟨w.heap.size, 1, none⟩ = some (.slice q.num.a q.num.n q.num.c) := cell_later hb (by simp [go_sem])
        have k0_2 : w1.cell? ⟨w.heap.size, 2, none⟩ = some (.bool q.den.g) := cell_later hb (by simp [go_sem])
        have k0_3 : w1.cell? ⟨w.heap.size, 3, none⟩ = some (.slice q.den.a q.den.n q.den.c) := cell_later hb (by simp [go_sem])
        have k1_0 : w1.cell? ⟨w.heap.size + 1, 0, none⟩ = some (.bool q'.num.g) := cell_later hb (by simp [go_sem])
        have k1_1 : w1.cell? ⟨w.heap.size + 1, 1, none⟩ = some (.slice q'.num.a q'.num.n q'.num.c) := cell_later hb (by simp [go_sem])
        have k1_2 : w1.cell? ⟨w.heap.size + 1, 2, none⟩ = some (.bool q'.den.g) := cell_later hb (by simp [go_sem])
        have k1_3 : w1.cell? ⟨w.heap.size + 1, 3, none⟩ = some (.slice q'.den.a q'.den.n q'.den.c) := cell_later hb (by simp [go_sem])
        have k2_0 : w1.cell? ⟨w.heap.size + 1 + 1, 0, none⟩ = some (.bool false) := cell_later hb (by simp [go_sem])
        have k2_1 : w1.cell? ⟨w.heap.size + 1 + 1, 1, none⟩ = some (.slice none 0 0) := cell_later hb (by simp [go_sem])
        have k2_2 : w1.cell? ⟨w.heap.size + 1 + 1, 2, none⟩ = some (.bool false) := cell_later hb (by simp [go_sem])
        have k2_3 : w1.cell? ⟨w.heap.size + 1 + 1, 3, none⟩ = some (.slice none 0 0) := cell_later hb (by simp [go_sem])
        have z2 : ∀ o, w1.frozen? ⟨w.heap.size + 1 + 1, o, none⟩ = false := fun o => frozen_later hb (by simp) (by simp [go_sem])
        have HB := hide (below_on (unhide B0) hb)
        clear hb
        go_wp2_with fail
        refine (unhide G2 _ ((unhide H2).later (unhide HB))).mono ?_
        rintro e w2 ⟨rfl, hb⟩
        have s2 := hb.size
        replace z2 := fun o => frozen_later hb (World.block_lt_of_cell? _ _ k2_0) (z2 o)
        replace k0_0 := cell_later hb k0_0
        replace k0_1 := cell_later hb k0_1
        replace k0_2 := cell_later hb k0_2
        replace k0_3 := cell_later hb k0_3
        replace k1_0 := cell_later hb k1_0
        replace k1_1 := cell_later hb k1_1
        replace k1_2 := cell_later hb k1_2
        replace k1_3 := cell_later hb k1_3
        replace k2_0 := cell_later hb k2_0
        replace k2_1 := cell_later hb k2_1
        replace k2_2 := cell_later hb k2_2
        replace k2_3 := cell_later hb k2_3
        replace HB := hide (below_on (unhide HB) hb)
        clear hb
        go_wp2_with fail
        refine (simpI_v q q' _ _ _ _ _ ((unhide J1).is.later (unhide HB)) ((unhide J2).is.later (unhide HB)) (unhide J1).pos (unhide J2).pos ⟨(unhide J1).kn, (unhide J1).kd⟩ ⟨(unhide J2).kn, (unhide J2).kd⟩).mono ?_
        rintro e w3 ⟨r, zs, us, rfl, hb, or, ar, nz, nu⟩
        have s3 := hb.size
        have RM : r.den.n ≤ maxLen := Nat.le_trans ar.tail.head.ar.cap ar.tail.head.ar.top
        have NN := hide (And.intro nz nu)
        have DZ : Hid (decide (r.den.n ≠ 0 ∧ r.num.n ≤ 40 ∧ r.den.n ≤ 40) = false) := hide (decide_eq_false (fun hh => hh.1 (by have e1 := ar.tail.head.ar.len; rw [← e1]; have e2 := nu.nil_iff.2 (by rw [unhide HS]; rfl); rw [e2]; rfl)))
        replace z2 := fun o => frozen_later hb (World.block_lt_of_cell? _ _ k2_0) (z2 o)
        replace k2_0 := cell_later hb k2_0
        replace k2_1 := cell_later hb k2_1
        replace k2_2 := cell_later hb k2_2
        replace k2_3 := cell_later hb k2_3
        clear k0_0 k0_1 k0_2 k0_3 k1_0 k1_1 k1_2 k1_3
        have OR := hide (or)
        replace HB := hide (below_on (unhide HB) hb)
        clear hb
        clear or ar nz nu
        go_wp2_with fail
        refine (whereQ_no r w2.heap.size w3.heap.size _ RM (unhide DZ)).mono ?_
        rintro e w4 ⟨v, dv, ok, rfl, hb, ov, hu, hk⟩
        have s4 := hb.size
        have UU : Hid (AnsQ false (smp (nQ d) (dQ d) (nQ d') (dQ d')).1 (smp (nQ d) (dQ d) (nQ d') (dQ d')).2 dv ok) := hide (.inr ⟨rfl, hk, hu⟩)
        replace z2 := fun o => frozen_later hb (World.block_lt_of_cell? _ _ k2_0) (z2 o)
        replace k2_0 := cell_later hb k2_0
        replace k2_1 := cell_later hb k2_1
        replace k2_2 := cell_later hb k2_2
        replace k2_3 := cell_later hb k2_3
        replace OR := hide ((unhide OR).later hb)
        have OV := hide (ov)
        replace HB := hide (below_on (unhide HB) hb)
        clear hb
        clear ov hu hk
        go_wp2
        refine bodyPost_ret (v := .tuple #[.agg #[.bool v.num.g, .slice v.num.a v.num.n v.num.c, .bool v.den.g, .slice v.den.a v.den.n v.den.c], .bool ok]) (by simp [results, Try.results79, go_sem, k2_0, k2_1, k2_2, k2_3]) rfl ?_
        exact retQ_fin (v := v) (d := dv) (R := w.heap.size + 1 + 1) (by omega) (unhide HB) (metQ_but (w5 := w4) (v := v) (G := w.heap.size + 1 + 1)) ((unhide OV).wide (by omega) (by omega)) (unhide UU)

set_option maxHeartbeats 2000000 in
theorem SimpRI (q q' : QV) (d d' : QD) (w : World) (h : AllAr w [(q.num, d.num), (q.den, d.den)]) (h' : AllAr w [(q'.num, d'.num), (q'.den, d'.den)]) :
    Calls Try.prog 33 #[.agg #[.bool q.num.g, .slice q.num.a q.num.n q.num.c, .bool q.den.g, .slice q.den.a q.den.n q.den.c], .agg #[.bool q'.num.g, .slice q'.num.a q'.num.n q'.num.c, .bool q'.den.g, .slice q'.den.a q'.den.n q'.den.c]] w (RetQ w (AnsQ (pS d d') (smp (nQ d) (dQ d) (nQ d') (dQ d')).1 (smp (nQ d) (dQ d) (nQ d') (dQ d')).2)) := by
  have H1 := hide h
  have H2 := hide h'
  clear h h'
  have B0 := hide (show Below w.heap.size w (((w.alloc (.cells #[.bool q.num.g, .slice q.num.a q.num.n q.num.c, .bool q.den.g, .slice q.den.a q.den.n q.den.c] 30)).alloc (.cells #[.bool q'.num.g, .slice q'.num.a q'.num.n q'.num.c, .bool q'.den.g, .slice q'.den.a q'.den.n q'.den.c] 30)).alloc (.cells #[.bool false, .slice none 0 0, .bool false, .slice none 0 0] 30)) from ((((Below.refl _ _).alloc (by simp) _).alloc (by simp) _).alloc (by simp <;> omega) _))
  go_enter Try.func33, Try.ntmps33
  go_wp2_with fail
  refine (ofSimp q q' d d' _ ((unhide H1).later (unhide B0)) ((unhide H2).later (unhide B0))).mono ?_
  rintro e w2 ⟨v, dv, ok, rfl, hb, ov, hu⟩
  have s2 : w.heap.size + 1 + 1 < w2.heap.size := by have := hb.size; simp at this; omega
  have UU := hide hu
  have k2_0 : w2.cell? ⟨w.heap.size + 1 + 1, 0, none⟩ = some (.bool false) := cell_later hb (by simp [go_sem])
  have k2_1 : w2.cell? ⟨w.heap.size + 1 + 1, 1, none⟩ = some (.slice none 0 0) := cell_later hb (by simp [go_sem])
  have k2_2 : w2.cell? ⟨w.heap.size + 1 + 1, 2, none⟩ = some (.bool false) := cell_later hb (by simp [go_sem])
  have k2_3 : w2.cell? ⟨w.heap.size + 1 + 1, 3, none⟩ = some (.slice none 0 0) := cell_later hb (by simp [go_sem])
  have z2 : ∀ o, w2.frozen? ⟨w.heap.size + 1 + 1, o, none⟩ = false := fun o => frozen_later hb (by simp) (by simp [go_sem])
  have OV := hide (ov)
  have HB := hide (below_on (unhide B0) hb)
  clear hb
  clear ov hu
  go_wp2
  refine bodyPost_ret (v := .tuple #[.agg #[.bool v.num.g, .slice v.num.a v.num.n v.num.c, .bool v.den.g, .slice v.den.a v.den.n v.den.c], .bool ok]) (by simp [results, Try.results33, go_sem, k2_0, k2_1, k2_2, k2_3]) rfl ?_
  exact retQ_fin (v := v) (d := dv) (R := w.heap.size + 1 + 1) (by omega) (unhide HB) (metQ_but (w5 := w2) (v := v) (G := w.heap.size + 1 + 1)) ((unhide OV).wide (by simp) (by omega)) (unhide UU)

/-- A fraction whose limbs lie neither in block L nor in block J. -/
def NotB (L J : Nat) (b : BV) (V : Int) : Prop := V = 0 ∨ ∃ p : Addr, b.a = some p ∧ p.block ≠ L ∧ p.block ≠ J
structure IsQ2 (L J : Nat) (w : World) (q : QV) (N D : Int) : Prop where
  is : IsQ w q N D
  n : NotB L J q.num N
  d : NotB L J q.den D
theorem IsQ2.later {L J : Nat} {w w' : World} {q : QV} {N D : Int} (h : IsQ2 L J w q N D) (hb : Below w.heap.size w w') : IsQ2 L J w' q N D := ⟨h.is.later hb, h.n, h.d⟩
theorem isB_but1 {L J G : Nat} {w w' : World} {b : BV} {V : Int} (h : IsB w b V) (hn : NotB L J b V) (hG : G = L ∨ G = J) (hb : But G (G + 1) w w') : IsB w' b V := by
  obtain ⟨xs, h1, h2⟩ := h
  refine ⟨xs, ⟨h1.sg, ⟨?_, h1.ar.len, h1.ar.cap, h1.ar.top, h1.ar.addr⟩⟩, h2⟩
  rcases h1.ar.sl with e | ⟨b', off, e, hlt, hc⟩
  · exact .inl e
  · rcases hn with e0 | ⟨p, hp, hd1, hd2⟩
    · exact .inl (h2.nil_iff.2 (by omega))
    · rw [e] at hp
      obtain rfl := Option.some.inj hp
      have k1 : b' ≠ L := hd1
      have k2 : b' ≠ J := hd2
      exact .inr ⟨b', off, e, Nat.lt_of_lt_of_le hlt hb.size, fun i hi => hb.cell (hc i hi) (by omega)⟩
theorem IsQ2.but {L J G : Nat} {w w' : World} {q : QV} {N D : Int} (h : IsQ2 L J w q N D) (hG : G = L ∨ G = J) (hb : But G (G + 1) w w') : IsQ2 L J w' q N D :=
  ⟨⟨isB_but1 h.is.1 h.n hG hb, isB_but1 h.is.2 h.d hG hb⟩, h.n, h.d⟩
theorem notB_low {L J : Nat} {w : World} {b : BV} {V : Int} (h : IsB w b V) (h1 : w.heap.size ≤ L) (h2 : w.heap.size ≤ J) : NotB L J b V := by
  obtain ⟨xs, k1, k2⟩ := h
  rcases k1.ar.sl with e | ⟨b', off, e, hlt, hc⟩
  · exact .inl (by have := k2.nil_iff.1 e; omega)
  · exact .inr ⟨_, e, by show b' ≠ L; omega, by show b' ≠ J; omega⟩
theorem notB_own {L J lo hi : Nat} {w : World} {b : BV} {V : Int} (h : Ow lo hi w b V) (h1 : L < lo ∨ hi ≤ L) (h2 : J < lo ∨ hi ≤ J) : NotB L J b V := by
  obtain ⟨xs, k1, _, k2⟩ := h
  rcases (k1.own (b, ⟨decide (V < 0), xs⟩) (by simp)).own with e | ⟨b', cur, e, e1, e2, _⟩
  · exact .inl (by have := k2.nil_iff.1 e; omega)
  · exact .inr ⟨_, e, by show b' ≠ L; omega, by show b' ≠ J; omega⟩
theorem OwQ.notB {L J lo hi : Nat} {w : World} {x : QV} {N D : Int} (h : OwQ lo hi w x N D) (h1 : L < lo) (h2 : J < lo) : IsQ2 L J w x N D := by
  have hi' := h.is
  obtain ⟨xs, us, k1, k2, k3, k4⟩ := h
  refine ⟨hi', ?_, ?_⟩
  · rcases (k1.own (x.num, ⟨decide (N < 0), xs⟩) (by simp)).own with e | ⟨b', cur, e, e1, e2, _⟩
    · exact .inl (by have := k3.nil_iff.1 e; omega)
    · exact .inr ⟨_, e, by show b' ≠ L; omega, by show b' ≠ J; omega⟩
  · rcases (k1.own (x.den, ⟨decide (D < 0), us⟩) (by simp)).own with e | ⟨b', cur, e, e1, e2, _⟩
    · exact .inl (by have := k4.nil_iff.1 e; omega)
    · exact .inr ⟨_, e, by show b' ≠ L; omega, by show b' ≠ J; omega⟩
theorem isQ_pair {w : World} {x y : BV} {N D : Int} (h : IsB w x N) (k : IsB w y D) : IsQ w ⟨x, y⟩ N D := ⟨h, k⟩
theorem low_int (N : Int) : lowN N 1 = N ∧ lowD N 1 = 1 := by
  have h := low_low (N := N) (D := 1) (by decide)
  have c := low_cross (N := N) (D := 1) (by decide)
  rw [Int.mul_one] at c
  have hd : lowD N 1 = 1 := by
    have := lowD_le N 1
    have := lowD_pos (N := N) (D := 1) (by decide)
    omega
  rw [hd, Int.mul_one] at c
  exact ⟨c, hd⟩
theorem low_next (f : Int) : lowN (f * 1 + 1 * 1) (1 * 1) = f + 1 ∧ lowD (f * 1 + 1 * 1) (1 * 1) = 1 := by
  rw [Int.mul_one, Int.mul_one]
  exact low_int _
/-- The variable hi: its box, apart from its own limbs and from lo's box. -/
structure BxH (L : Nat) (wk wx : World) (G : Nat) (x : QV) (N D : Int) : Prop where
  lo : wk.heap.size ≤ G
  hi : G < wx.heap.size
  c0 : wx.cell? ⟨G, 0, none⟩ = some (.bool x.num.g)
  c1 : wx.cell? ⟨G, 1, none⟩ = some (.slice x.num.a x.num.n x.num.c)
  c2 : wx.cell? ⟨G, 2, none⟩ = some (.bool x.den.g)
  c3 : wx.cell? ⟨G, 3, none⟩ = some (.slice x.den.a x.den.n x.den.c)
  fz : ∀ o, wx.frozen? ⟨G, o, none⟩ = false
  is : IsQ2 L G wx x N D
  bel : Below wk.heap.size wk wx
theorem bxH_alloc {L B : Nat} {wk w5 : World} {x : QV} {N D : Int} (t : TypeId) (hk : Below wk.heap.size wk w5) (how1 : Ow B w5.heap.size w5 x.num N) (how2 : Ow B w5.heap.size w5 x.den D) (hL : L < B) : BxH L wk (w5.alloc (.cells #[.bool x.num.g, .slice x.num.a x.num.n x.num.c, .bool x.den.g, .slice x.den.a x.den.n x.den.c] t)) w5.heap.size x N D := by
  have al : Below w5.heap.size w5 (w5.alloc (.cells #[.bool x.num.g, .slice x.num.a x.num.n x.num.c, .bool x.den.g, .slice x.den.a x.den.n x.den.c] t)) := (Below.refl _ _).alloc (Nat.le_refl _) _
  exact ⟨hk.size, by simp, by simp [go_sem], by simp [go_sem], by simp [go_sem], by simp [go_sem], fun o => by simp [go_sem], ⟨⟨how1.is.later al, how2.is.later al⟩, notB_own how1 (.inl hL) (.inr (Nat.le_refl _)), notB_own how2 (.inl hL) (.inr (Nat.le_refl _))⟩, hk.alloc hk.size _⟩
theorem bxH_set {L B G : Nat} {wk w5 : World} {x : QV} {N D : Int} {z0 : Value} {z1 : Value} {z2 : Value} {z3 : Value} (hk : Below wk.heap.size wk w5) (how1 : Ow B w5.heap.size w5 x.num N) (how2 : Ow B w5.heap.size w5 x.den D) (hL : L < B) (hG : wk.heap.size ≤ G) (hGB : G < B) (e0 : w5.cell? ⟨G, 0, none⟩ = some z0) (e1 : w5.cell? ⟨G, 1, none⟩ = some z1) (e2 : w5.cell? ⟨G, 2, none⟩ = some z2) (e3 : w5.cell? ⟨G, 3, none⟩ = some z3) (ef : ∀ o, w5.frozen? ⟨G, o, none⟩ = false) : BxH L wk ((((w5.setCell ⟨G, 0, none⟩ (.bool x.num.g)).setCell ⟨G, 1, none⟩ (.slice x.num.a x.num.n x.num.c)).setCell ⟨G, 2, none⟩ (.bool x.den.g)).setCell ⟨G, 3, none⟩ (.slice x.den.a x.den.n x.den.c)) G x N D := by
  have hb := metQ_but (w5 := w5) (v := x) (G := G)
  have hlt : G < w5.heap.size := World.block_lt_of_cell? _ _ e0
  have n1 : NotB L G x.num N := notB_own how1 (.inl hL) (.inl hGB)
  have n2 : NotB L G x.den D := notB_own how2 (.inl hL) (.inl hGB)
  refine ⟨hG, by have := hb.size; omega, ?_, ?_, ?_, ?_, fun o => by simp [go_sem, ef o], (⟨⟨how1.is, how2.is⟩, n1, n2⟩ : IsQ2 L G w5 x N D).but (.inr rfl) hb, hb.below hk hG hk.size⟩
  · simp [go_sem, e0, e1, e2, e3]
  · simp [go_sem, e0, e1, e2, e3]
  · simp [go_sem, e0, e1, e2, e3]
  · simp [go_sem, e0, e1, e2, e3]
/-- The boxes of SimplestIn's loop. -/
structure MiS (L J : Nat) (w wr : World) (lq hq q q' : QV) : Prop where
  p0_0 : wr.cell? ⟨L, 0, none⟩ = some (.bool lq.num.g)
  p0_1 : wr.cell? ⟨L, 1, none⟩ = some (.slice lq.num.a lq.num.n lq.num.c)
  p0_2 : wr.cell? ⟨L, 2, none⟩ = some (.bool lq.den.g)
  p0_3 : wr.cell? ⟨L, 3, none⟩ = some (.slice lq.den.a lq.den.n lq.den.c)
  p1_0 : wr.cell? ⟨J, 0, none⟩ = some (.bool hq.num.g)
  p1_1 : wr.cell? ⟨J, 1, none⟩ = some (.slice hq.num.a hq.num.n hq.num.c)
  p1_2 : wr.cell? ⟨J, 2, none⟩ = some (.bool hq.den.g)
  p1_3 : wr.cell? ⟨J, 3, none⟩ = some (.slice hq.den.a hq.den.n hq.den.c)
  p2_0 : wr.cell? ⟨w.heap.size, 0, none⟩ = some (.bool q.num.g)
  p2_1 : wr.cell? ⟨w.heap.size, 1, none⟩ = some (.slice q.num.a q.num.n q.num.c)
  p2_2 : wr.cell? ⟨w.heap.size, 2, none⟩ = some (.bool q.den.g)
  p2_3 : wr.cell? ⟨w.heap.size, 3, none⟩ = some (.slice q.den.a q.den.n q.den.c)
  p3_0 : wr.cell? ⟨w.heap.size + 1, 0, none⟩ = some (.bool q'.num.g)
  p3_1 : wr.cell? ⟨w.heap.size + 1, 1, none⟩ = some (.slice q'.num.a q'.num.n q'.num.c)
  p3_2 : wr.cell? ⟨w.heap.size + 1, 2, none⟩ = some (.bool q'.den.g)
  p3_3 : wr.cell? ⟨w.heap.size + 1, 3, none⟩ = some (.slice q'.den.a q'.den.n q'.den.c)
  p4_0 : wr.cell? ⟨w.heap.size + 1 + 1, 0, none⟩ = some (.bool false)
  p4_1 : wr.cell? ⟨w.heap.size + 1 + 1, 1, none⟩ = some (.slice none 0 0)
  p4_2 : wr.cell? ⟨w.heap.size + 1 + 1, 2, none⟩ = some (.bool false)
  p4_3 : wr.cell? ⟨w.heap.size + 1 + 1, 3, none⟩ = some (.slice none 0 0)
  f0 : ∀ o, wr.frozen? ⟨L, o, none⟩ = false
  f1 : ∀ o, wr.frozen? ⟨J, o, none⟩ = false
  f4 : ∀ o, wr.frozen? ⟨w.heap.size + 1 + 1, o, none⟩ = false
  bel : Below w.heap.size w wr
theorem MiS.later {L J : Nat} {w wr wy : World} {lq hq q q' : QV} (h : MiS L J w wr lq hq q q') (hb : Below wr.heap.size wr wy) : MiS L J w wy lq hq q q' :=
  ⟨cell_later hb h.p0_0, cell_later hb h.p0_1, cell_later hb h.p0_2, cell_later hb h.p0_3, cell_later hb h.p1_0, cell_later hb h.p1_1, cell_later hb h.p1_2, cell_later hb h.p1_3, cell_later hb h.p2_0, cell_later hb h.p2_1, cell_later hb h.p2_2, cell_later hb h.p2_3, cell_later hb h.p3_0, cell_later hb h.p3_1, cell_later hb h.p3_2, cell_later hb h.p3_3, cell_later hb h.p4_0, cell_later hb h.p4_1, cell_later hb h.p4_2, cell_later hb h.p4_3, fun o => frozen_later hb (World.block_lt_of_cell? _ _ h.p0_0) (h.f0 o), fun o => frozen_later hb (World.block_lt_of_cell? _ _ h.p1_0) (h.f1 o), fun o => frozen_later hb (World.block_lt_of_cell? _ _ h.p4_0) (h.f4 o), below_on h.bel hb⟩
theorem MiS.set0 {L J : Nat} {w wr : World} {lq hq q q' x : QV} (h : MiS L J w wr lq hq q q') (hL : w.heap.size + 1 + 1 < L) (hJ : L < J) : MiS L J w ((((wr.setCell ⟨L, 0, none⟩ (.bool x.num.g)).setCell ⟨L, 1, none⟩ (.slice x.num.a x.num.n x.num.c)).setCell ⟨L, 2, none⟩ (.bool x.den.g)).setCell ⟨L, 3, none⟩ (.slice x.den.a x.den.n x.den.c)) x hq q q' :=
  ⟨by simp [go_sem, h.p0_0, h.p0_1, h.p0_2, h.p0_3], by simp [go_sem, h.p0_0, h.p0_1, h.p0_2, h.p0_3], by simp [go_sem, h.p0_0, h.p0_1, h.p0_2, h.p0_3], by simp [go_sem, h.p0_0, h.p0_1, h.p0_2, h.p0_3], cs_other (cs_other (cs_other (cs_other h.p1_0 (by omega)) (by omega)) (by omega)) (by omega), cs_other (cs_other (cs_other (cs_other h.p1_1 (by omega)) (by omega)) (by omega)) (by omega), cs_other (cs_other (cs_other (cs_other h.p1_2 (by omega)) (by omega)) (by omega)) (by omega), cs_other (cs_other (cs_other (cs_other h.p1_3 (by omega)) (by omega)) (by omega)) (by omega), cs_other (cs_other (cs_other (cs_other h.p2_0 (by omega)) (by omega)) (by omega)) (by omega), cs_other (cs_other (cs_other (cs_other h.p2_1 (by omega)) (by omega)) (by omega)) (by omega), cs_other (cs_other (cs_other (cs_other h.p2_2 (by omega)) (by omega)) (by omega)) (by omega), cs_other (cs_other (cs_other (cs_other h.p2_3 (by omega)) (by omega)) (by omega)) (by omega), cs_other (cs_other (cs_other (cs_other h.p3_0 (by omega)) (by omega)) (by omega)) (by omega), cs_other (cs_other (cs_other (cs_other h.p3_1 (by omega)) (by omega)) (by omega)) (by omega), cs_other (cs_other (cs_other (cs_other h.p3_2 (by omega)) (by omega)) (by omega)) (by omega), cs_other (cs_other (cs_other (cs_other h.p3_3 (by omega)) (by omega)) (by omega)) (by omega), cs_other (cs_other (cs_other (cs_other h.p4_0 (by omega)) (by omega)) (by omega)) (by omega), cs_other (cs_other (cs_other (cs_other h.p4_1 (by omega)) (by omega)) (by omega)) (by omega), cs_other (cs_other (cs_other (cs_other h.p4_2 (by omega)) (by omega)) (by omega)) (by omega), cs_other (cs_other (cs_other (cs_other h.p4_3 (by omega)) (by omega)) (by omega)) (by omega), fun o => by simp [go_sem, h.f0 o], fun o => by simp [go_sem, h.f1 o], fun o => by simp [go_sem, h.f4 o], ((((h.bel.setCell (by show w.heap.size ≤ L; omega) _).setCell (by show w.heap.size ≤ L; omega) _).setCell (by show w.heap.size ≤ L; omega) _).setCell (by show w.heap.size ≤ L; omega) _)⟩
theorem MiS.set1 {L J : Nat} {w wr : World} {lq hq q q' x : QV} (h : MiS L J w wr lq hq q q') (hL : w.heap.size + 1 + 1 < L) (hJ : L < J) : MiS L J w ((((wr.setCell ⟨J, 0, none⟩ (.bool x.num.g)).setCell ⟨J, 1, none⟩ (.slice x.num.a x.num.n x.num.c)).setCell ⟨J, 2, none⟩ (.bool x.den.g)).setCell ⟨J, 3, none⟩ (.slice x.den.a x.den.n x.den.c)) lq x q q' :=
  ⟨cs_other (cs_other (cs_other (cs_other h.p0_0 (by omega)) (by omega)) (by omega)) (by omega), cs_other (cs_other (cs_other (cs_other h.p0_1 (by omega)) (by omega)) (by omega)) (by omega), cs_other (cs_other (cs_other (cs_other h.p0_2 (by omega)) (by omega)) (by omega)) (by omega), cs_other (cs_other (cs_other (cs_other h.p0_3 (by omega)) (by omega)) (by omega)) (by omega), by simp [go_sem, h.p1_0, h.p1_1, h.p1_2, h.p1_3], by simp [go_sem, h.p1_0, h.p1_1, h.p1_2, h.p1_3], by simp [go_sem, h.p1_0, h.p1_1, h.p1_2, h.p1_3], by simp [go_sem, h.p1_0, h.p1_1, h.p1_2, h.p1_3], cs_other (cs_other (cs_other (cs_other h.p2_0 (by omega)) (by omega)) (by omega)) (by omega), cs_other (cs_other (cs_other (cs_other h.p2_1 (by omega)) (by omega)) (by omega)) (by omega), cs_other (cs_other (cs_other (cs_other h.p2_2 (by omega)) (by omega)) (by omega)) (by omega), cs_other (cs_other (cs_other (cs_other h.p2_3 (by omega)) (by omega)) (by omega)) (by omega), cs_other (cs_other (cs_other (cs_other h.p3_0 (by omega)) (by omega)) (by omega)) (by omega), cs_other (cs_other (cs_other (cs_other h.p3_1 (by omega)) (by omega)) (by omega)) (by omega), cs_other (cs_other (cs_other (cs_other h.p3_2 (by omega)) (by omega)) (by omega)) (by omega), cs_other (cs_other (cs_other (cs_other h.p3_3 (by omega)) (by omega)) (by omega)) (by omega), cs_other (cs_other (cs_other (cs_other h.p4_0 (by omega)) (by omega)) (by omega)) (by omega), cs_other (cs_other (cs_other (cs_other h.p4_1 (by omega)) (by omega)) (by omega)) (by omega), cs_other (cs_other (cs_other (cs_other h.p4_2 (by omega)) (by omega)) (by omega)) (by omega), cs_other (cs_other (cs_other (cs_other h.p4_3 (by omega)) (by omega)) (by omega)) (by omega), fun o => by simp [go_sem, h.f0 o], fun o => by simp [go_sem, h.f1 o], fun o => by simp [go_sem, h.f4 o], ((((h.bel.setCell (by show w.heap.size ≤ J; omega) _).setCell (by show w.heap.size ≤ J; omega) _).setCell (by show w.heap.size ≤ J; omega) _).setCell (by show w.heap.size ≤ J; omega) _)⟩

set_option maxHeartbeats 8000000 in
theorem SimpRS (q q' : QV) (d d' : QD) (w : World) (h : AllAr w [(q.num, d.num), (q.den, d.den)]) (h' : AllAr w [(q'.num, d'.num), (q'.den, d'.den)]) :
    Calls Try.prog 32 #[.agg #[.bool q.num.g, .slice q.num.a q.num.n q.num.c, .bool q.den.g, .slice q.den.a q.den.n q.den.c], .agg #[.bool q'.num.g, .slice q'.num.a q'.num.n q'.num.c, .bool q'.den.g, .slice q'.den.a q'.den.n q'.den.c]] w (RetQ w (AnsQ (pS d d') (smp (nQ d) (dQ d) (nQ d') (dQ d')).1 (smp (nQ d) (dQ d) (nQ d') (dQ d')).2)) := by
  have H1 := hide h
  have H2 := hide h'
  clear h h'
  cases hg : (gQ d && gQ d')
  · have GB := hide (fun w1 (k : AllAr w1 [(q.num, d.num), (q.den, d.den)]) (k' : AllAr w1 [(q'.num, d'.num), (q'.den, d'.den)]) => bothQS q q' d d' w1 k k')
    rw [hg] at GB
    rw [pS_bad hg]
    clear hg
    have B0 := hide (show Below w.heap.size w (((w.alloc (.cells #[.bool q.num.g, .slice q.num.a q.num.n q.num.c, .bool q.den.g, .slice q.den.a q.den.n q.den.c] 30)).alloc (.cells #[.bool q'.num.g, .slice q'.num.a q'.num.n q'.num.c, .bool q'.den.g, .slice q'.den.a q'.den.n q'.den.c] 30)).alloc (.cells #[.bool false, .slice none 0 0, .bool false, .slice none 0 0] 30)) from ((((Below.refl _ _).alloc (by simp) _).alloc (by simp) _).alloc (by simp <;> omega) _))
    go_enter Try.func32, Try.ntmps32
    go_wp2_with fail
    refine (unhide GB _ ((unhide H1).later (unhide B0)) ((unhide H2).later (unhide B0))).mono ?_
    rintro e w1 ⟨rfl, hb⟩
    have s1 : w.heap.size + 1 + 1 < w1.heap.size := by have := hb.size; simp at this; omega
    have k2_0 : w1.cell? ⟨w.heap.size + 1 + 1, 0, none⟩ = some (.bool false) := cell_later hb (by simp [go_sem])
    have k2_1 : w1.cell? ⟨w.heap.size + 1 + 1, 1, none⟩ = some (.slice none 0 0) := cell_later hb (by simp [go_sem])
    have k2_2 : w1.cell? ⟨w.heap.size + 1 + 1, 2, none⟩ = some (.bool false) := cell_later hb (by simp [go_sem])
    have k2_3 : w1.cell? ⟨w.heap.size + 1 + 1, 3, none⟩ = some (.slice none 0 0) := cell_later hb (by simp [go_sem])
    have z2 : ∀ o, w1.frozen? ⟨w.heap.size + 1 + 1, o, none⟩ = false := fun o => frozen_later hb (by simp) (by simp [go_sem])
    have HB := hide (below_on (unhide B0) hb)
    clear hb
    go_wp2
    refine bodyPost_ret (v := .tuple #[.agg #[.bool false, .slice none 0 0, .bool false, .slice none 0 0], .bool false]) (by simp [results, Try.results32, go_sem, k2_0, k2_1, k2_2, k2_3]) rfl ?_
    exact retQ_fin (v := (⟨⟨false, none, 0, 0⟩, ⟨false, none, 0, 0⟩⟩ : QV)) (d := (⟨⟨false, []⟩, ⟨false, []⟩⟩ : QD)) (R := w.heap.size + 1 + 1) (by omega) (unhide HB) (metQ_but (w5 := w1) (v := (⟨⟨false, none, 0, 0⟩, ⟨false, none, 0, 0⟩⟩ : QV)) (G := w.heap.size + 1 + 1)) (zeroQ _ _ _) (ansQ_none _ _)
  · by_cases c0 : nQ d' * dQ d ≤ nQ d * dQ d'
    · have GB := hide (fun w1 (k : AllAr w1 [(q.num, d.num), (q.den, d.den)]) (k' : AllAr w1 [(q'.num, d'.num), (q'.den, d'.den)]) => bothQS q q' d d' w1 k k')
      rw [hg] at GB
      have hgs : gQ d = true ∧ gQ d' = true := by revert hg; cases gQ d <;> cases gQ d' <;> simp
      have J1 := hide (isGood_of (unhide H1) hgs.1)
      have J2 := hide (isGood_of (unhide H2) hgs.2)
      have t1 : decide (0 ≤ cmpZ (nQ d * dQ d') (nQ d' * dQ d)) = true := cmpZ_ge1 c0
      rw [pS_none (smp_no c0)]
      clear hg hgs c0
      have B0 := hide (show Below w.heap.size w (((w.alloc (.cells #[.bool q.num.g, .slice q.num.a q.num.n q.num.c, .bool q.den.g, .slice q.den.a q.den.n q.den.c] 30)).alloc (.cells #[.bool q'.num.g, .slice q'.num.a q'.num.n q'.num.c, .bool q'.den.g, .slice q'.den.a q'.den.n q'.den.c] 30)).alloc (.cells #[.bool false, .slice none 0 0, .bool false, .slice none 0 0] 30)) from ((((Below.refl _ _).alloc (by simp) _).alloc (by simp) _).alloc (by simp <;> omega) _))
      go_enter Try.func32, Try.ntmps32
      go_wp2_with fail
      refine (unhide GB _ ((unhide H1).later (unhide B0)) ((unhide H2).later (unhide B0))).mono ?_
      rintro e w1 ⟨rfl, hb⟩
      have s1 : w.heap.size + 1 + 1 < w1.heap.size := by have := hb.size; simp at this; omega
      have k0_0 : w1.cell? ⟨w.heap.size, 0, none⟩ = some (.bool q.num.g) := cell_later hb (by simp [go_sem])
      have k0_1 : w1.cell? ⟨w.heap.size, 1, none⟩ = some (.slice q.num.a q.num.n q.num.c) := cell_later hb (by simp [go_sem])
      have k0_2 : w1.cell? ⟨w.heap.size, 2, none⟩ = some (.bool q.den.g) := cell_later hb (by simp [go_sem])
      have k0_3 : w1.cell? ⟨w.heap.size, 3, none⟩ = some (.slice q.den.a q.den.n q.den.c) := cell_later hb (by simp [go_sem])
      have k1_0 : w1.cell? ⟨w.heap.size + 1, 0, none⟩ = some (.bool q'.num.g) := cell_later hb (by simp [go_sem])
      have k1_1 : w1.cell? ⟨w.heap.size + 1, 1, none⟩ = some (.slice q'.num.a q'.num.n q'.num.c) := cell_later hb (by simp [go_sem])
      have k1_2 : w1.cell? ⟨w.heap.size + 1, 2, none⟩ = some (.bool q'.den.g) := cell_later hb (by simp [go_sem])
      have k1_3 : w1.cell? ⟨w.heap.size + 1, 3, none⟩ = some (.slice q'.den.a q'.den.n q'.den.c) := cell_later hb (by simp [go_sem])
      have k2_0 : w1.cell? ⟨w.heap.size + 1 + 1, 0, none⟩ = some (.bool false) := cell_later hb (by simp [go_sem])
      have k2_1 : w1.cell? ⟨w.heap.size + 1 + 1, 1, none⟩ = some (.slice none 0 0) := cell_later hb (by simp [go_sem])
      have k2_2 : w1.cell? ⟨w.heap.size + 1 + 1, 2, none⟩ = some (.bool false) := cell_later hb (by simp [go_sem])
      have k2_3 : w1.cell? ⟨w.heap.size + 1 + 1, 3, none⟩ = some (.slice none 0 0) := cell_later hb (by simp [go_sem])
      have z2 : ∀ o, w1.frozen? ⟨w.heap.size + 1 + 1, o, none⟩ = false := fun o => frozen_later hb (by simp) (by simp [go_sem])
      have HB := hide (below_on (unhide B0) hb)
      clear hb
      go_wp2_with fail
      refine (cmpQS q q' _ _ _ _ _ ((unhide J1).is.later (unhide HB)) ((unhide J2).is.later (unhide HB)) ((unhide J1).kn.mono (by omega)) ((unhide J1).kd.mono (by omega)) ((unhide J2).kn.mono (by omega)) ((unhide J2).kd.mono (by omega))).mono ?_
      rintro e w2 ⟨rfl, hb⟩
      have s2 := hb.size
      replace z2 := fun o => frozen_later hb (World.block_lt_of_cell? _ _ k2_0) (z2 o)
      replace k2_0 := cell_later hb k2_0
      replace k2_1 := cell_later hb k2_1
      replace k2_2 := cell_later hb k2_2
      replace k2_3 := cell_later hb k2_3
      clear k0_0 k0_1 k0_2 k0_3 k1_0 k1_1 k1_2 k1_3
      replace HB := hide (below_on (unhide HB) hb)
      clear hb
      go_wp2
      refine bodyPost_ret (v := .tuple #[.agg #[.bool false, .slice none 0 0, .bool false, .slice none 0 0], .bool false]) (by simp [results, Try.results32, go_sem, k2_0, k2_1, k2_2, k2_3]) rfl ?_
      exact retQ_fin (v := (⟨⟨false, none, 0, 0⟩, ⟨false, none, 0, 0⟩⟩ : QV)) (d := (⟨⟨false, []⟩, ⟨false, []⟩⟩ : QD)) (R := w.heap.size + 1 + 1) (by omega) (unhide HB) (metQ_but (w5 := w2) (v := (⟨⟨false, none, 0, 0⟩, ⟨false, none, 0, 0⟩⟩ : QV)) (G := w.heap.size + 1 + 1)) (zeroQ _ _ _) (ansQ_none _ _)
    · by_cases c1 : ((nQ d / dQ d) + 1) * dQ d' < nQ d' * 1
      · have GB := hide (fun w1 (k : AllAr w1 [(q.num, d.num), (q.den, d.den)]) (k' : AllAr w1 [(q'.num, d'.num), (q'.den, d'.den)]) => bothQS q q' d d' w1 k k')
        rw [hg] at GB
        have hgs : gQ d = true ∧ gQ d' = true := by revert hg; cases gQ d <;> cases gQ d' <;> simp
        have J1 := hide (isGood_of (unhide H1) hgs.1)
        have J2 := hide (isGood_of (unhide H2) hgs.2)
        have t1 : decide (0 ≤ cmpZ (nQ d * dQ d') (nQ d' * dQ d)) = false := cmpZ_ge0 c0
        have t2 : decide (cmpZ (((nQ d / dQ d) + 1) * dQ d') (nQ d') < 0) = true := by have := cmpZ_lt1 c1; rw [Int.mul_one] at this; exact this
        have SE := hide (smp_next c0 c1)
        have HG := hide hg
        have BF := hide (floor_bd (unhide J1).pos (unhide J1).kn)
        clear hg hgs c0 c1
        have B0 := hide (show Below w.heap.size w (((w.alloc (.cells #[.bool q.num.g, .slice q.num.a q.num.n q.num.c, .bool q.den.g, .slice q.den.a q.den.n q.den.c] 30)).alloc (.cells #[.bool q'.num.g, .slice q'.num.a q'.num.n q'.num.c, .bool q'.den.g, .slice q'.den.a q'.den.n q'.den.c] 30)).alloc (.cells #[.bool false, .slice none 0 0, .bool false, .slice none 0 0] 30)) from ((((Below.refl _ _).alloc (by simp) _).alloc (by simp) _).alloc (by simp <;> omega) _))
        go_enter Try.func32, Try.ntmps32
        go_wp2_with fail
        refine (unhide GB _ ((unhide H1).later (unhide B0)) ((unhide H2).later (unhide B0))).mono ?_
        rintro e w1 ⟨rfl, hb⟩
        have s1 : w.heap.size + 1 + 1 < w1.heap.size := by have := hb.size; simp at this; omega
        have k0_0 : w1.cell? ⟨w.heap.size, 0, none⟩ = some (.bool q.num.g) := cell_later hb (by simp [go_sem])
        have k0_1 : w1.cell? ⟨w.heap.size, 1, none⟩ = some (.slice q.num.a q.num.n q.num.c) := cell_later hb (by simp [go_sem])
        have k0_2 : w1.cell? ⟨w.heap.size, 2, none⟩ = some (.bool q.den.g) := cell_later hb (by simp [go_sem])
        have k0_3 : w1.cell? ⟨w.heap.size, 3, none⟩ = some (.slice q.den.a q.den.n q.den.c) := cell_later hb (by simp [go_sem])
        have k1_0 : w1.cell? ⟨w.heap.size + 1, 0, none⟩ = some (.bool q'.num.g) := cell_later hb (by simp [go_sem])
        have k1_1 : w1.cell? ⟨w.heap.size + 1, 1, none⟩ = some (.slice q'.num.a q'.num.n q'.num.c) := cell_later hb (by simp [go_sem])
        have k1_2 : w1.cell? ⟨w.heap.size + 1, 2, none⟩ = some (.bool q'.den.g) := cell_later hb (by simp [go_sem])
        have k1_3 : w1.cell? ⟨w.heap.size + 1, 3, none⟩ = some (.slice q'.den.a q'.den.n q'.den.c) := cell_later hb (by simp [go_sem])
        have k2_0 : w1.cell? ⟨w.heap.size + 1 + 1, 0, none⟩ = some (.bool false) := cell_later hb (by simp [go_sem])
        have k2_1 : w1.cell? ⟨w.heap.size + 1 + 1, 1, none⟩ = some (.slice none 0 0) := cell_later hb (by simp [go_sem])
        have k2_2 : w1.cell? ⟨w.heap.size + 1 + 1, 2, none⟩ = some (.bool false) := cell_later hb (by simp [go_sem])
        have k2_3 : w1.cell? ⟨w.heap.size + 1 + 1, 3, none⟩ = some (.slice none 0 0) := cell_later hb (by simp [go_sem])
        have z2 : ∀ o, w1.frozen? ⟨w.heap.size + 1 + 1, o, none⟩ = false := fun o => frozen_later hb (by simp) (by simp [go_sem])
        have HB := hide (below_on (unhide B0) hb)
        clear hb
        have QA := hide ((unhide J1).is.later (unhide HB))
        have QB := hide ((unhide J2).is.later (unhide HB))
        go_wp2_with fail
        refine (cmpQS q q' _ _ _ _ _ (unhide QA) (unhide QB) ((unhide J1).kn.mono (by omega)) ((unhide J1).kd.mono (by omega)) ((unhide J2).kn.mono (by omega)) ((unhide J2).kd.mono (by omega))).mono ?_
        rintro e w2 ⟨rfl, hb⟩
        have s2 := hb.size
        replace z2 := fun o => frozen_later hb (World.block_lt_of_cell? _ _ k2_0) (z2 o)
        replace k0_0 := cell_later hb k0_0
        replace k0_1 := cell_later hb k0_1
        replace k0_2 := cell_later hb k0_2
        replace k0_3 := cell_later hb k0_3
        replace k1_0 := cell_later hb k1_0
        replace k1_1 := cell_later hb k1_1
        replace k1_2 := cell_later hb k1_2
        replace k1_3 := cell_later hb k1_3
        replace k2_0 := cell_later hb k2_0
        replace k2_1 := cell_later hb k2_1
        replace k2_2 := cell_later hb k2_2
        replace k2_3 := cell_later hb k2_3
        replace QA := hide ((unhide QA).later hb)
        replace QB := hide ((unhide QB).later hb)
        replace HB := hide (below_on (unhide HB) hb)
        clear hb
        go_wp2_with fail
        refine (floorS q _ _ _ (unhide QA) (unhide J1).pos ((unhide J1).kn.mono (by omega)) ((unhide J1).kd.mono (by omega))).mono ?_
        rintro e w3 ⟨xf, lf, rfl, hb, of, af, nf⟩
        have s3 := hb.size
        replace z2 := fun o => frozen_later hb (World.block_lt_of_cell? _ _ k2_0) (z2 o)
        replace k0_0 := cell_later hb k0_0
        replace k0_1 := cell_later hb k0_1
        replace k0_2 := cell_later hb k0_2
        replace k0_3 := cell_later hb k0_3
        replace k1_0 := cell_later hb k1_0
        replace k1_1 := cell_later hb k1_1
        replace k1_2 := cell_later hb k1_2
        replace k1_3 := cell_later hb k1_3
        replace k2_0 := cell_later hb k2_0
        replace k2_1 := cell_later hb k2_1
        replace k2_2 := cell_later hb k2_2
        replace k2_3 := cell_later hb k2_3
        replace QA := hide ((unhide QA).later hb)
        replace QB := hide ((unhide QB).later hb)
        have OF := hide (outN_ow of af nf)
        replace HB := hide (below_on (unhide HB) hb)
        clear hb
        clear of af nf
        go_wp2_with fail
        refine (ofS_v 1 _ (by omega) (by omega)).mono ?_
        rintro e w4 ⟨y1, ly1, rfl, hb, oy, ay, ny⟩
        have s4 := hb.size
        replace z2 := fun o => frozen_later hb (World.block_lt_of_cell? _ _ k2_0) (z2 o)
        replace k0_0 := cell_later hb k0_0
        replace k0_1 := cell_later hb k0_1
        replace k0_2 := cell_later hb k0_2
        replace k0_3 := cell_later hb k0_3
        replace k1_0 := cell_later hb k1_0
        replace k1_1 := cell_later hb k1_1
        replace k1_2 := cell_later hb k1_2
        replace k1_3 := cell_later hb k1_3
        replace k2_0 := cell_later hb k2_0
        replace k2_1 := cell_later hb k2_1
        replace k2_2 := cell_later hb k2_2
        replace k2_3 := cell_later hb k2_3
        replace QA := hide ((unhide QA).later hb)
        replace QB := hide ((unhide QB).later hb)
        replace OF := hide ((unhide OF).later hb)
        have OY := hide (outN_ow oy ay ny)
        replace HB := hide (below_on (unhide HB) hb)
        clear hb
        clear oy ay ny
        go_upto_region 4 with fail
        have hb : Below w4.heap.size w4 (w4.alloc (.cells #[.bool xf.g, .slice xf.a xf.n xf.c, .bool y1.g, .slice y1.a y1.n y1.c] 30)) := ((Below.refl _ _).alloc (by simp) _)
        replace k0_0 : (w4.alloc (.cells #[.bool xf.g, .slice xf.a xf.n xf.c, .bool y1.g, .slice y1.a y1.n y1.c] 30)).cell? ⟨w.heap.size, 0, none⟩ = some (.bool q.num.g) := (ca_other k0_0)
        replace k0_1 : (w4.alloc (.cells #[.bool xf.g, .slice xf.a xf.n xf.c, .bool y1.g, .slice y1.a y1.n y1.c] 30)).cell? ⟨w.heap.size, 1, none⟩ = some (.slice q.num.a q.num.n q.num.c) := (ca_other k0_1)
        replace k0_2 : (w4.alloc (.cells #[.bool xf.g, .slice xf.a xf.n xf.c, .bool y1.g, .slice y1.a y1.n y1.c] 30)).cell? ⟨w.heap.size, 2, none⟩ = some (.bool q.den.g) := (ca_other k0_2)
        replace k0_3 : (w4.alloc (.cells #[.bool xf.g, .slice xf.a xf.n xf.c, .bool y1.g, .slice y1.a y1.n y1.c] 30)).cell? ⟨w.heap.size, 3, none⟩ = some (.slice q.den.a q.den.n q.den.c) := (ca_other k0_3)
        replace k1_0 : (w4.alloc (.cells #[.bool xf.g, .slice xf.a xf.n xf.c, .bool y1.g, .slice y1.a y1.n y1.c] 30)).cell? ⟨w.heap.size + 1, 0, none⟩ = some (.bool q'.num.g) := (ca_other k1_0)
        replace k1_1 : (w4.alloc (.cells #[.bool xf.g, .slice xf.a xf.n xf.c, .bool y1.g, .slice y1.a y1.n y1.c] 30)).cell? ⟨w.heap.size + 1, 1, none⟩ = some (.slice q'.num.a q'.num.n q'.num.c) := (ca_other k1_1)
        replace k1_2 : (w4.alloc (.cells #[.bool xf.g, .slice xf.a xf.n xf.c, .bool y1.g, .slice y1.a y1.n y1.c] 30)).cell? ⟨w.heap.size + 1, 2, none⟩ = some (.bool q'.den.g) := (ca_other k1_2)
        replace k1_3 : (w4.alloc (.cells #[.bool xf.g, .slice xf.a xf.n xf.c, .bool y1.g, .slice y1.a y1.n y1.c] 30)).cell? ⟨w.heap.size + 1, 3, none⟩ = some (.slice q'.den.a q'.den.n q'.den.c) := (ca_other k1_3)
        replace k2_0 : (w4.alloc (.cells #[.bool xf.g, .slice xf.a xf.n xf.c, .bool y1.g, .slice y1.a y1.n y1.c] 30)).cell? ⟨w.heap.size + 1 + 1, 0, none⟩ = some (.bool false) := (ca_other k2_0)
        replace k2_1 : (w4.alloc (.cells #[.bool xf.g, .slice xf.a xf.n xf.c, .bool y1.g, .slice y1.a y1.n y1.c] 30)).cell? ⟨w.heap.size + 1 + 1, 1, none⟩ = some (.slice none 0 0) := (ca_other k2_1)
        replace k2_2 : (w4.alloc (.cells #[.bool xf.g, .slice xf.a xf.n xf.c, .bool y1.g, .slice y1.a y1.n y1.c] 30)).cell? ⟨w.heap.size + 1 + 1, 2, none⟩ = some (.bool false) := (ca_other k2_2)
        replace k2_3 : (w4.alloc (.cells #[.bool xf.g, .slice xf.a xf.n xf.c, .bool y1.g, .slice y1.a y1.n y1.c] 30)).cell? ⟨w.heap.size + 1 + 1, 3, none⟩ = some (.slice none 0 0) := (ca_other k2_3)
        have k3_0 : (w4.alloc (.cells #[.bool xf.g, .slice xf.a xf.n xf.c, .bool y1.g, .slice y1.a y1.n y1.c] 30)).cell? ⟨w4.heap.size, 0, none⟩ = some (.bool xf.g) := by simp [go_sem]
        have k3_1 : (w4.alloc (.cells #[.bool xf.g, .slice xf.a xf.n xf.c, .bool y1.g, .slice y1.a y1.n y1.c] 30)).cell? ⟨w4.heap.size, 1, none⟩ = some (.slice xf.a xf.n xf.c) := by simp [go_sem]
        have k3_2 : (w4.alloc (.cells #[.bool xf.g, .slice xf.a xf.n xf.c, .bool y1.g, .slice y1.a y1.n y1.c] 30)).cell? ⟨w4.heap.size, 2, none⟩ = some (.bool y1.g) := by simp [go_sem]
        have k3_3 : (w4.alloc (.cells #[.bool xf.g, .slice xf.a xf.n xf.c, .bool y1.g, .slice y1.a y1.n y1.c] 30)).cell? ⟨w4.heap.size, 3, none⟩ = some (.slice y1.a y1.n y1.c) := by simp [go_sem]
        replace z2 : ∀ o, (w4.alloc (.cells #[.bool xf.g, .slice xf.a xf.n xf.c, .bool y1.g, .slice y1.a y1.n y1.c] 30)).frozen? ⟨w.heap.size + 1 + 1, o, none⟩ = false := fun o => frozen_later hb (by omega) (z2 o)
        have z3 : ∀ o, (w4.alloc (.cells #[.bool xf.g, .slice xf.a xf.n xf.c, .bool y1.g, .slice y1.a y1.n y1.c] 30)).frozen? ⟨w4.heap.size, o, none⟩ = false := fun o => by simp [go_sem]
        replace QA := hide ((unhide QA).later hb)
        replace QB := hide ((unhide QB).later hb)
        replace OF := hide ((unhide OF).later hb)
        replace OY := hide ((unhide OY).later hb)
        replace HB := hide (below_on (unhide HB) hb)
        have szw5 := hb.size
        clear hb
        generalize (w4.alloc (.cells #[.bool xf.g, .slice xf.a xf.n xf.c, .bool y1.g, .slice y1.a y1.n y1.c] 30)) = w5 at *
        have lt6 : w4.heap.size < w5.heap.size := World.block_lt_of_cell? _ _ k3_0
        go_cut [7] (fun p wx => ∃ (G : Nat) (x : QV), p = .pointer (some ⟨G, 0, none⟩) ∧ Hid (BxH w4.heap.size w5 wx G x ((nQ d / dQ d) + 1) 1))
        case first =>
          go_region_held3 (fun w' => w'.cell? ⟨w4.heap.size, 0, none⟩ = some (.bool xf.g) ∧ w'.cell? ⟨w4.heap.size, 1, none⟩ = some (.slice xf.a xf.n xf.c) ∧ w'.cell? ⟨w4.heap.size, 2, none⟩ = some (.bool y1.g) ∧ w'.cell? ⟨w4.heap.size, 3, none⟩ = some (.slice y1.a y1.n y1.c)) (with_reducible (first | exact ⟨k3_0, k3_1, k3_2, k3_3⟩ | exact ⟨cd_other k3_0, cd_other k3_1, cd_other k3_2, cd_other k3_3⟩ | exact ⟨ca_other k3_0, ca_other k3_1, ca_other k3_2, ca_other k3_3⟩ | exact ⟨cd_other (ca_other k3_0), cd_other (ca_other k3_1), cd_other (ca_other k3_2), cd_other (ca_other k3_3)⟩ | exact ⟨cs_other (cs_other (cs_other (cs_other (k3_0) (by omega)) (by omega)) (by omega)) (by omega), cs_other (cs_other (cs_other (cs_other (k3_1) (by omega)) (by omega)) (by omega)) (by omega), cs_other (cs_other (cs_other (cs_other (k3_2) (by omega)) (by omega)) (by omega)) (by omega), cs_other (cs_other (cs_other (cs_other (k3_3) (by omega)) (by omega)) (by omega)) (by omega)⟩ | fail))
            (first
            | (go_at_call 95; refine (wholeS 1 _ (by omega) (by omega)).mono ?_; rintro e wa ⟨o1, lo1, mo1, rfl, hb, oo, ao, m1, m2⟩; have hbx : Below w5.heap.size w5 wa := (by first | exact below_of_drew hb | exact bad hb); have szwa := hbx.size; replace z2 := fun o => frozen_later hbx (World.block_lt_of_cell? _ _ k2_0) (z2 o); replace z3 := fun o => frozen_later hbx (World.block_lt_of_cell? _ _ k3_0) (z3 o); replace k0_0 := cell_later hbx k0_0; replace k0_1 := cell_later hbx k0_1; replace k0_2 := cell_later hbx k0_2; replace k0_3 := cell_later hbx k0_3; replace k1_0 := cell_later hbx k1_0; replace k1_1 := cell_later hbx k1_1; replace k1_2 := cell_later hbx k1_2; replace k1_3 := cell_later hbx k1_3; replace k2_0 := cell_later hbx k2_0; replace k2_1 := cell_later hbx k2_1; replace k2_2 := cell_later hbx k2_2; replace k2_3 := cell_later hbx k2_3; replace k3_0 := cell_later hbx k3_0; replace k3_1 := cell_later hbx k3_1; replace k3_2 := cell_later hbx k3_2; replace k3_3 := cell_later hbx k3_3; replace QA := hide ((unhide QA).later hbx); replace QB := hide ((unhide QB).later hbx); replace OF := hide ((unhide OF).later hbx); replace OY := hide ((unhide OY).later hbx); have OQ1 := hide (isQ_of ao m1 m2); (try (replace gf := fun o => frozen_later hbx (World.block_lt_of_cell? _ _ g0) (gf o); replace g0 := cell_later hbx g0; replace g1 := cell_later hbx g1; replace g2 := cell_later hbx g2; replace g3 := cell_later hbx g3)); (try (refine cutP (p := wa.cell? ⟨w5.heap.size, 0, none⟩ = some (.bool false) ∧ wa.cell? ⟨w5.heap.size, 1, none⟩ = some (.slice none 0 0) ∧ wa.cell? ⟨w5.heap.size, 2, none⟩ = some (.bool false) ∧ wa.cell? ⟨w5.heap.size, 3, none⟩ = some (.slice none 0 0) ∧ ∀ o, wa.frozen? ⟨w5.heap.size, o, none⟩ = false) ?_ (fun dd => ?_); (focus (refine ⟨cell_later hb ?_, cell_later hb ?_, cell_later hb ?_, cell_later hb ?_, fun o => frozen_later hb ?_ ?_⟩ <;> (simp [go_sem]; done))); obtain ⟨g0, g1, g2, g3, gf⟩ := dd)); have zz := hb.size; (try simp at zz); have HBr := hide hbx; clear hbx hb oo ao m1 m2)
            | (go_at_call 77; refine (addQS ⟨xf, y1⟩ o1 (nQ d / dQ d) 1 1 1 _ ?_ ?_ (by decide) ((unhide BF).mono (by omega)) (one_bd2 (by omega)) (one_bd2 (by omega)) (one_bd2 (by omega))).mono ?_; (first | exact (isQ_pair (unhide OF).is (unhide OY).is).later (Below.refl _ _) | exact (isQ_pair (unhide OF).is (unhide OY).is).later ((Below.refl _ _).alloc (Nat.le_refl _) _)); (first | exact (unhide OQ1).later (Below.refl _ _) | exact (unhide OQ1).later ((Below.refl _ _).alloc (Nat.le_refl _) _)); rintro e wb ⟨r, rfl, hb, or1, or2⟩; have hbx : Below wa.heap.size wa wb := (by first | exact hb | exact ba hb); have szwb := hbx.size; replace z2 := fun o => frozen_later hbx (World.block_lt_of_cell? _ _ k2_0) (z2 o); replace z3 := fun o => frozen_later hbx (World.block_lt_of_cell? _ _ k3_0) (z3 o); replace k0_0 := cell_later hbx k0_0; replace k0_1 := cell_later hbx k0_1; replace k0_2 := cell_later hbx k0_2; replace k0_3 := cell_later hbx k0_3; replace k1_0 := cell_later hbx k1_0; replace k1_1 := cell_later hbx k1_1; replace k1_2 := cell_later hbx k1_2; replace k1_3 := cell_later hbx k1_3; replace k2_0 := cell_later hbx k2_0; replace k2_1 := cell_later hbx k2_1; replace k2_2 := cell_later hbx k2_2; replace k2_3 := cell_later hbx k2_3; replace k3_0 := cell_later hbx k3_0; replace k3_1 := cell_later hbx k3_1; replace k3_2 := cell_later hbx k3_2; replace k3_3 := cell_later hbx k3_3; replace QA := hide ((unhide QA).later hbx); replace QB := hide ((unhide QB).later hbx); replace OF := hide ((unhide OF).later hbx); replace OY := hide ((unhide OY).later hbx); replace OQ1 := hide ((unhide OQ1).later hbx); have le := low_next (nQ d / dQ d); rw [le.1] at or1; rw [le.2] at or2; clear le; have Px1 := hide (or1); have Px2 := hide (or2); (try (replace gf := fun o => frozen_later hbx (World.block_lt_of_cell? _ _ g0) (gf o); replace g0 := cell_later hbx g0; replace g1 := cell_later hbx g1; replace g2 := cell_later hbx g2; replace g3 := cell_later hbx g3)); (try (refine cutP (p := wb.cell? ⟨wa.heap.size, 0, none⟩ = some (.bool false) ∧ wb.cell? ⟨wa.heap.size, 1, none⟩ = some (.slice none 0 0) ∧ wb.cell? ⟨wa.heap.size, 2, none⟩ = some (.bool false) ∧ wb.cell? ⟨wa.heap.size, 3, none⟩ = some (.slice none 0 0) ∧ ∀ o, wb.frozen? ⟨wa.heap.size, o, none⟩ = false) ?_ (fun dd => ?_); (focus (refine ⟨cell_later hb ?_, cell_later hb ?_, cell_later hb ?_, cell_later hb ?_, fun o => frozen_later hb ?_ ?_⟩ <;> (simp [go_sem]; done))); obtain ⟨g0, g1, g2, g3, gf⟩ := dd)); have zz := hb.size; (try simp at zz); have HBr := hide (below_on (unhide HBr) hbx); clear hbx hb or1 or2))
          all_goals go_wp2_with fail
          all_goals go_meet
          all_goals first
            | (with_reducible refine ⟨_, r, rfl, hide (bxH_alloc (x := r) 30 (unhide HBr) (unhide Px1) (unhide Px2) ?_)⟩ <;> first | omega | (simp; done) | (simp; omega))
            | (with_reducible refine ⟨_, r, rfl, hide (bxH_set (x := r) (unhide HBr) (unhide Px1) (unhide Px2) ?_ ?_ ?_ g0 g1 g2 g3 gf)⟩ <;> first | omega | (simp; done) | (simp; omega))
        case rest =>
          obtain ⟨J, xJ, rfl, HJ⟩ := hcut
          have hb := (unhide HJ).bel
          have szJ := hb.size
          have loJ := (unhide HJ).lo
          have hiJ := (unhide HJ).hi
          replace z2 := fun o => frozen_later hb (World.block_lt_of_cell? _ _ k2_0) (z2 o)
          replace z3 := fun o => frozen_later hb (World.block_lt_of_cell? _ _ k3_0) (z3 o)
          replace k0_0 := cell_later hb k0_0
          replace k0_1 := cell_later hb k0_1
          replace k0_2 := cell_later hb k0_2
          replace k0_3 := cell_later hb k0_3
          replace k1_0 := cell_later hb k1_0
          replace k1_1 := cell_later hb k1_1
          replace k1_2 := cell_later hb k1_2
          replace k1_3 := cell_later hb k1_3
          replace k2_0 := cell_later hb k2_0
          replace k2_1 := cell_later hb k2_1
          replace k2_2 := cell_later hb k2_2
          replace k2_3 := cell_later hb k2_3
          replace k3_0 := cell_later hb k3_0
          replace k3_1 := cell_later hb k3_1
          replace k3_2 := cell_later hb k3_2
          replace k3_3 := cell_later hb k3_3
          replace QA := hide ((unhide QA).later hb)
          replace QB := hide ((unhide QB).later hb)
          replace OF := hide ((unhide OF).later hb)
          replace OY := hide ((unhide OY).later hb)
          have IJ := hide ((unhide HJ).is)
          replace HB := hide (below_on (unhide HB) hb)
          clear hb
          have k4_0 := (unhide HJ).c0
          have k4_1 := (unhide HJ).c1
          have k4_2 := (unhide HJ).c2
          have k4_3 := (unhide HJ).c3
          have z4 := (unhide HJ).fz
          clear HJ
          obtain ⟨w6, hw6⟩ : ∃ x, x = wc := ⟨_, rfl⟩
          subst hw6
          go_wp2_with fail
          refine (cmpQS xJ q' _ _ _ _ _ (unhide IJ).is (unhide QB) (((unhide BF).add (one_bd2 (by omega))).mono (by omega)) (one_bd2 (by omega)) ((unhide J2).kn.mono (by omega)) ((unhide J2).kd.mono (by omega))).mono ?_
          rintro e w7 ⟨rfl, hb⟩
          have s7 := hb.size
          replace z2 := fun o => frozen_later hb (World.block_lt_of_cell? _ _ k2_0) (z2 o)
          replace k4_0 := cell_later hb k4_0
          replace k4_1 := cell_later hb k4_1
          replace k4_2 := cell_later hb k4_2
          replace k4_3 := cell_later hb k4_3
          replace k2_0 := cell_later hb k2_0
          replace k2_1 := cell_later hb k2_1
          replace k2_2 := cell_later hb k2_2
          replace k2_3 := cell_later hb k2_3
          clear k0_0 k0_1 k0_2 k0_3 k1_0 k1_1 k1_2 k1_3 k3_0 k3_1 k3_2 k3_3
          clear z3 z4
          replace QA := hide ((unhide QA).later hb)
          replace QB := hide ((unhide QB).later hb)
          replace OF := hide ((unhide OF).later hb)
          replace OY := hide ((unhide OY).later hb)
          replace IJ := hide ((unhide IJ).later hb)
          replace HB := hide (below_on (unhide HB) hb)
          clear hb
          go_wp2_with fail
          refine (fitsQS xJ _ _ _ (unhide IJ).is (by decide)).mono ?_
          rintro e w8 ⟨v, dv, ok, rfl, hb, ov, hu⟩
          have s8 := hb.size
          have UU : Hid (AnsQ (pS d d') (smp (nQ d) (dQ d) (nQ d') (dQ d')).1 (smp (nQ d) (dQ d) (nQ d') (dQ d')).2 dv ok) := hide (by have e := unhide SE; rw [pS_some (unhide HG) (by rw [e]; show (1 : Int) ≠ 0; decide), e]; exact hu)
          replace z2 := fun o => frozen_later hb (World.block_lt_of_cell? _ _ k2_0) (z2 o)
          replace k2_0 := cell_later hb k2_0
          replace k2_1 := cell_later hb k2_1
          replace k2_2 := cell_later hb k2_2
          replace k2_3 := cell_later hb k2_3
          clear k4_0 k4_1 k4_2 k4_3
          replace QA := hide ((unhide QA).later hb)
          replace QB := hide ((unhide QB).later hb)
          replace OF := hide ((unhide OF).later hb)
          replace OY := hide ((unhide OY).later hb)
          replace IJ := hide ((unhide IJ).later hb)
          have OV := hide (ov)
          replace HB := hide (below_on (unhide HB) hb)
          clear hb
          clear ov hu
          go_wp2
          refine bodyPost_ret (v := .tuple #[.agg #[.bool v.num.g, .slice v.num.a v.num.n v.num.c, .bool v.den.g, .slice v.den.a v.den.n v.den.c], .bool ok]) (by simp [results, Try.results32, go_sem, k2_0, k2_1, k2_2, k2_3]) rfl ?_
          exact retQ_fin (v := v) (d := dv) (R := w.heap.size + 1 + 1) (by omega) (unhide HB) (metQ_but (w5 := w8) (v := v) (G := w.heap.size + 1 + 1)) ((unhide OV).wide (by omega) (by omega)) (unhide UU)
      · have GB := hide (fun w1 (k : AllAr w1 [(q.num, d.num), (q.den, d.den)]) (k' : AllAr w1 [(q'.num, d'.num), (q'.den, d'.den)]) => bothQS q q' d d' w1 k k')
        rw [hg] at GB
        have hgs : gQ d = true ∧ gQ d' = true := by revert hg; cases gQ d <;> cases gQ d' <;> simp
        have J1 := hide (isGood_of (unhide H1) hgs.1)
        have J2 := hide (isGood_of (unhide H2) hgs.2)
        have t1 : decide (0 ≤ cmpZ (nQ d * dQ d') (nQ d' * dQ d)) = false := cmpZ_ge0 c0
        have t2 : decide (cmpZ (((nQ d / dQ d) + 1) * dQ d') (nQ d') < 0) = false := by have := cmpZ_lt0 c1; rw [Int.mul_one] at this; exact this
        have SE := hide (smp_mid c0 c1)
        have HG := hide hg
        have BF := hide (floor_bd (unhide J1).pos (unhide J1).kn)
        clear hg hgs c0 c1
        have B0 := hide (show Below w.heap.size w (((w.alloc (.cells #[.bool q.num.g, .slice q.num.a q.num.n q.num.c, .bool q.den.g, .slice q.den.a q.den.n q.den.c] 30)).alloc (.cells #[.bool q'.num.g, .slice q'.num.a q'.num.n q'.num.c, .bool q'.den.g, .slice q'.den.a q'.den.n q'.den.c] 30)).alloc (.cells #[.bool false, .slice none 0 0, .bool false, .slice none 0 0] 30)) from ((((Below.refl _ _).alloc (by simp) _).alloc (by simp) _).alloc (by simp <;> omega) _))
        go_enter Try.func32, Try.ntmps32
        go_wp2_with fail
        refine (unhide GB _ ((unhide H1).later (unhide B0)) ((unhide H2).later (unhide B0))).mono ?_
        rintro e w1 ⟨rfl, hb⟩
        have s1 : w.heap.size + 1 + 1 < w1.heap.size := by have := hb.size; simp at this; omega
        have k0_0 : w1.cell? ⟨w.heap.size, 0, none⟩ = some (.bool q.num.g) := cell_later hb (by simp [go_sem])
        have k0_1 : w1.cell? ⟨w.heap.size, 1, none⟩ = some (.slice q.num.a q.num.n q.num.c) := cell_later hb (by simp [go_sem])
        have k0_2 : w1.cell? ⟨w.heap.size, 2, none⟩ = some (.bool q.den.g) := cell_later hb (by simp [go_sem])
        have k0_3 : w1.cell? ⟨w.heap.size, 3, none⟩ = some (.slice q.den.a q.den.n q.den.c) := cell_later hb (by simp [go_sem])
        have k1_0 : w1.cell? ⟨w.heap.size + 1, 0, none⟩ = some (.bool q'.num.g) := cell_later hb (by simp [go_sem])
        have k1_1 : w1.cell? ⟨w.heap.size + 1, 1, none⟩ = some (.slice q'.num.a q'.num.n q'.num.c) := cell_later hb (by simp [go_sem])
        have k1_2 : w1.cell? ⟨w.heap.size + 1, 2, none⟩ = some (.bool q'.den.g) := cell_later hb (by simp [go_sem])
        have k1_3 : w1.cell? ⟨w.heap.size + 1, 3, none⟩ = some (.slice q'.den.a q'.den.n q'.den.c) := cell_later hb (by simp [go_sem])
        have k2_0 : w1.cell? ⟨w.heap.size + 1 + 1, 0, none⟩ = some (.bool false) := cell_later hb (by simp [go_sem])
        have k2_1 : w1.cell? ⟨w.heap.size + 1 + 1, 1, none⟩ = some (.slice none 0 0) := cell_later hb (by simp [go_sem])
        have k2_2 : w1.cell? ⟨w.heap.size + 1 + 1, 2, none⟩ = some (.bool false) := cell_later hb (by simp [go_sem])
        have k2_3 : w1.cell? ⟨w.heap.size + 1 + 1, 3, none⟩ = some (.slice none 0 0) := cell_later hb (by simp [go_sem])
        have z2 : ∀ o, w1.frozen? ⟨w.heap.size + 1 + 1, o, none⟩ = false := fun o => frozen_later hb (by simp) (by simp [go_sem])
        have HB := hide (below_on (unhide B0) hb)
        clear hb
        have QA := hide ((unhide J1).is.later (unhide HB))
        have QB := hide ((unhide J2).is.later (unhide HB))
        go_wp2_with fail
        refine (cmpQS q q' _ _ _ _ _ (unhide QA) (unhide QB) ((unhide J1).kn.mono (by omega)) ((unhide J1).kd.mono (by omega)) ((unhide J2).kn.mono (by omega)) ((unhide J2).kd.mono (by omega))).mono ?_
        rintro e w2 ⟨rfl, hb⟩
        have s2 := hb.size
        replace z2 := fun o => frozen_later hb (World.block_lt_of_cell? _ _ k2_0) (z2 o)
        replace k0_0 := cell_later hb k0_0
        replace k0_1 := cell_later hb k0_1
        replace k0_2 := cell_later hb k0_2
        replace k0_3 := cell_later hb k0_3
        replace k1_0 := cell_later hb k1_0
        replace k1_1 := cell_later hb k1_1
        replace k1_2 := cell_later hb k1_2
        replace k1_3 := cell_later hb k1_3
        replace k2_0 := cell_later hb k2_0
        replace k2_1 := cell_later hb k2_1
        replace k2_2 := cell_later hb k2_2
        replace k2_3 := cell_later hb k2_3
        replace QA := hide ((unhide QA).later hb)
        replace QB := hide ((unhide QB).later hb)
        replace HB := hide (below_on (unhide HB) hb)
        clear hb
        go_wp2_with fail
        refine (floorS q _ _ _ (unhide QA) (unhide J1).pos ((unhide J1).kn.mono (by omega)) ((unhide J1).kd.mono (by omega))).mono ?_
        rintro e w3 ⟨xf, lf, rfl, hb, of, af, nf⟩
        have s3 := hb.size
        replace z2 := fun o => frozen_later hb (World.block_lt_of_cell? _ _ k2_0) (z2 o)
        replace k0_0 := cell_later hb k0_0
        replace k0_1 := cell_later hb k0_1
        replace k0_2 := cell_later hb k0_2
        replace k0_3 := cell_later hb k0_3
        replace k1_0 := cell_later hb k1_0
        replace k1_1 := cell_later hb k1_1
        replace k1_2 := cell_later hb k1_2
        replace k1_3 := cell_later hb k1_3
        replace k2_0 := cell_later hb k2_0
        replace k2_1 := cell_later hb k2_1
        replace k2_2 := cell_later hb k2_2
        replace k2_3 := cell_later hb k2_3
        replace QA := hide ((unhide QA).later hb)
        replace QB := hide ((unhide QB).later hb)
        have OF := hide (outN_ow of af nf)
        replace HB := hide (below_on (unhide HB) hb)
        clear hb
        clear of af nf
        go_wp2_with fail
        refine (ofS_v 1 _ (by omega) (by omega)).mono ?_
        rintro e w4 ⟨y1, ly1, rfl, hb, oy, ay, ny⟩
        have s4 := hb.size
        replace z2 := fun o => frozen_later hb (World.block_lt_of_cell? _ _ k2_0) (z2 o)
        replace k0_0 := cell_later hb k0_0
        replace k0_1 := cell_later hb k0_1
        replace k0_2 := cell_later hb k0_2
        replace k0_3 := cell_later hb k0_3
        replace k1_0 := cell_later hb k1_0
        replace k1_1 := cell_later hb k1_1
        replace k1_2 := cell_later hb k1_2
        replace k1_3 := cell_later hb k1_3
        replace k2_0 := cell_later hb k2_0
        replace k2_1 := cell_later hb k2_1
        replace k2_2 := cell_later hb k2_2
        replace k2_3 := cell_later hb k2_3
        replace QA := hide ((unhide QA).later hb)
        replace QB := hide ((unhide QB).later hb)
        replace OF := hide ((unhide OF).later hb)
        have OY := hide (outN_ow oy ay ny)
        replace HB := hide (below_on (unhide HB) hb)
        clear hb
        clear oy ay ny
        go_upto_region 4 with fail
        have hb : Below w4.heap.size w4 (w4.alloc (.cells #[.bool xf.g, .slice xf.a xf.n xf.c, .bool y1.g, .slice y1.a y1.n y1.c] 30)) := ((Below.refl _ _).alloc (by simp) _)
        replace k0_0 : (w4.alloc (.cells #[.bool xf.g, .slice xf.a xf.n xf.c, .bool y1.g, .slice y1.a y1.n y1.c] 30)).cell? ⟨w.heap.size, 0, none⟩ = some (.bool q.num.g) := (ca_other k0_0)
        replace k0_1 : (w4.alloc (.cells #[.bool xf.g, .slice xf.a xf.n xf.c, .bool y1.g, .slice y1.a y1.n y1.c] 30)).cell? ⟨w.heap.size, 1, none⟩ = some (.slice q.num.a q.num.n q.num.c) := (ca_other k0_1)
        replace k0_2 : (w4.alloc (.cells #[.bool xf.g, .slice xf.a xf.n xf.c, .bool y1.g, .slice y1.a y1.n y1.c] 30)).cell? ⟨w.heap.size, 2, none⟩ = some (.bool q.den.g) := (ca_other k0_2)
        replace k0_3 : (w4.alloc (.cells #[.bool xf.g, .slice xf.a xf.n xf.c, .bool y1.g, .slice y1.a y1.n y1.c] 30)).cell? ⟨w.heap.size, 3, none⟩ = some (.slice q.den.a q.den.n q.den.c) := (ca_other k0_3)
        replace k1_0 : (w4.alloc (.cells #[.bool xf.g, .slice xf.a xf.n xf.c, .bool y1.g, .slice y1.a y1.n y1.c] 30)).cell? ⟨w.heap.size + 1, 0, none⟩ = some (.bool q'.num.g) := (ca_other k1_0)
        replace k1_1 : (w4.alloc (.cells #[.bool xf.g, .slice xf.a xf.n xf.c, .bool y1.g, .slice y1.a y1.n y1.c] 30)).cell? ⟨w.heap.size + 1, 1, none⟩ = some (.slice q'.num.a q'.num.n q'.num.c) := (ca_other k1_1)
        replace k1_2 : (w4.alloc (.cells #[.bool xf.g, .slice xf.a xf.n xf.c, .bool y1.g, .slice y1.a y1.n y1.c] 30)).cell? ⟨w.heap.size + 1, 2, none⟩ = some (.bool q'.den.g) := (ca_other k1_2)
        replace k1_3 : (w4.alloc (.cells #[.bool xf.g, .slice xf.a xf.n xf.c, .bool y1.g, .slice y1.a y1.n y1.c] 30)).cell? ⟨w.heap.size + 1, 3, none⟩ = some (.slice q'.den.a q'.den.n q'.den.c) := (ca_other k1_3)
        replace k2_0 : (w4.alloc (.cells #[.bool xf.g, .slice xf.a xf.n xf.c, .bool y1.g, .slice y1.a y1.n y1.c] 30)).cell? ⟨w.heap.size + 1 + 1, 0, none⟩ = some (.bool false) := (ca_other k2_0)
        replace k2_1 : (w4.alloc (.cells #[.bool xf.g, .slice xf.a xf.n xf.c, .bool y1.g, .slice y1.a y1.n y1.c] 30)).cell? ⟨w.heap.size + 1 + 1, 1, none⟩ = some (.slice none 0 0) := (ca_other k2_1)
        replace k2_2 : (w4.alloc (.cells #[.bool xf.g, .slice xf.a xf.n xf.c, .bool y1.g, .slice y1.a y1.n y1.c] 30)).cell? ⟨w.heap.size + 1 + 1, 2, none⟩ = some (.bool false) := (ca_other k2_2)
        replace k2_3 : (w4.alloc (.cells #[.bool xf.g, .slice xf.a xf.n xf.c, .bool y1.g, .slice y1.a y1.n y1.c] 30)).cell? ⟨w.heap.size + 1 + 1, 3, none⟩ = some (.slice none 0 0) := (ca_other k2_3)
        have k3_0 : (w4.alloc (.cells #[.bool xf.g, .slice xf.a xf.n xf.c, .bool y1.g, .slice y1.a y1.n y1.c] 30)).cell? ⟨w4.heap.size, 0, none⟩ = some (.bool xf.g) := by simp [go_sem]
        have k3_1 : (w4.alloc (.cells #[.bool xf.g, .slice xf.a xf.n xf.c, .bool y1.g, .slice y1.a y1.n y1.c] 30)).cell? ⟨w4.heap.size, 1, none⟩ = some (.slice xf.a xf.n xf.c) := by simp [go_sem]
        have k3_2 : (w4.alloc (.cells #[.bool xf.g, .slice xf.a xf.n xf.c, .bool y1.g, .slice y1.a y1.n y1.c] 30)).cell? ⟨w4.heap.size, 2, none⟩ = some (.bool y1.g) := by simp [go_sem]
        have k3_3 : (w4.alloc (.cells #[.bool xf.g, .slice xf.a xf.n xf.c, .bool y1.g, .slice y1.a y1.n y1.c] 30)).cell? ⟨w4.heap.size, 3, none⟩ = some (.slice y1.a y1.n y1.c) := by simp [go_sem]
        replace z2 : ∀ o, (w4.alloc (.cells #[.bool xf.g, .slice xf.a xf.n xf.c, .bool y1.g, .slice y1.a y1.n y1.c] 30)).frozen? ⟨w.heap.size + 1 + 1, o, none⟩ = false := fun o => frozen_later hb (by omega) (z2 o)
        have z3 : ∀ o, (w4.alloc (.cells #[.bool xf.g, .slice xf.a xf.n xf.c, .bool y1.g, .slice y1.a y1.n y1.c] 30)).frozen? ⟨w4.heap.size, o, none⟩ = false := fun o => by simp [go_sem]
        replace QA := hide ((unhide QA).later hb)
        replace QB := hide ((unhide QB).later hb)
        replace OF := hide ((unhide OF).later hb)
        replace OY := hide ((unhide OY).later hb)
        replace HB := hide (below_on (unhide HB) hb)
        have szw5 := hb.size
        clear hb
        generalize (w4.alloc (.cells #[.bool xf.g, .slice xf.a xf.n xf.c, .bool y1.g, .slice y1.a y1.n y1.c] 30)) = w5 at *
        have lt6 : w4.heap.size < w5.heap.size := World.block_lt_of_cell? _ _ k3_0
        go_cut [7] (fun p wx => ∃ (G : Nat) (x : QV), p = .pointer (some ⟨G, 0, none⟩) ∧ Hid (BxH w4.heap.size w5 wx G x ((nQ d / dQ d) + 1) 1))
        case first =>
          go_region_held3 (fun w' => w'.cell? ⟨w4.heap.size, 0, none⟩ = some (.bool xf.g) ∧ w'.cell? ⟨w4.heap.size, 1, none⟩ = some (.slice xf.a xf.n xf.c) ∧ w'.cell? ⟨w4.heap.size, 2, none⟩ = some (.bool y1.g) ∧ w'.cell? ⟨w4.heap.size, 3, none⟩ = some (.slice y1.a y1.n y1.c)) (with_reducible (first | exact ⟨k3_0, k3_1, k3_2, k3_3⟩ | exact ⟨cd_other k3_0, cd_other k3_1, cd_other k3_2, cd_other k3_3⟩ | exact ⟨ca_other k3_0, ca_other k3_1, ca_other k3_2, ca_other k3_3⟩ | exact ⟨cd_other (ca_other k3_0), cd_other (ca_other k3_1), cd_other (ca_other k3_2), cd_other (ca_other k3_3)⟩ | exact ⟨cs_other (cs_other (cs_other (cs_other (k3_0) (by omega)) (by omega)) (by omega)) (by omega), cs_other (cs_other (cs_other (cs_other (k3_1) (by omega)) (by omega)) (by omega)) (by omega), cs_other (cs_other (cs_other (cs_other (k3_2) (by omega)) (by omega)) (by omega)) (by omega), cs_other (cs_other (cs_other (cs_other (k3_3) (by omega)) (by omega)) (by omega)) (by omega)⟩ | fail))
            (first
            | (go_at_call 95; refine (wholeS 1 _ (by omega) (by omega)).mono ?_; rintro e wa ⟨o1, lo1, mo1, rfl, hb, oo, ao, m1, m2⟩; have hbx : Below w5.heap.size w5 wa := (by first | exact below_of_drew hb | exact bad hb); have szwa := hbx.size; replace z2 := fun o => frozen_later hbx (World.block_lt_of_cell? _ _ k2_0) (z2 o); replace z3 := fun o => frozen_later hbx (World.block_lt_of_cell? _ _ k3_0) (z3 o); replace k0_0 := cell_later hbx k0_0; replace k0_1 := cell_later hbx k0_1; replace k0_2 := cell_later hbx k0_2; replace k0_3 := cell_later hbx k0_3; replace k1_0 := cell_later hbx k1_0; replace k1_1 := cell_later hbx k1_1; replace k1_2 := cell_later hbx k1_2; replace k1_3 := cell_later hbx k1_3; replace k2_0 := cell_later hbx k2_0; replace k2_1 := cell_later hbx k2_1; replace k2_2 := cell_later hbx k2_2; replace k2_3 := cell_later hbx k2_3; replace k3_0 := cell_later hbx k3_0; replace k3_1 := cell_later hbx k3_1; replace k3_2 := cell_later hbx k3_2; replace k3_3 := cell_later hbx k3_3; replace QA := hide ((unhide QA).later hbx); replace QB := hide ((unhide QB).later hbx); replace OF := hide ((unhide OF).later hbx); replace OY := hide ((unhide OY).later hbx); have OQ1 := hide (isQ_of ao m1 m2); (try (replace gf := fun o => frozen_later hbx (World.block_lt_of_cell? _ _ g0) (gf o); replace g0 := cell_later hbx g0; replace g1 := cell_later hbx g1; replace g2 := cell_later hbx g2; replace g3 := cell_later hbx g3)); (try (refine cutP (p := wa.cell? ⟨w5.heap.size, 0, none⟩ = some (.bool false) ∧ wa.cell? ⟨w5.heap.size, 1, none⟩ = some (.slice none 0 0) ∧ wa.cell? ⟨w5.heap.size, 2, none⟩ = some (.bool false) ∧ wa.cell? ⟨w5.heap.size, 3, none⟩ = some (.slice none 0 0) ∧ ∀ o, wa.frozen? ⟨w5.heap.size, o, none⟩ = false) ?_ (fun dd => ?_); (focus (refine ⟨cell_later hb ?_, cell_later hb ?_, cell_later hb ?_, cell_later hb ?_, fun o => frozen_later hb ?_ ?_⟩ <;> (simp [go_sem]; done))); obtain ⟨g0, g1, g2, g3, gf⟩ := dd)); have zz := hb.size; (try simp at zz); have HBr := hide hbx; clear hbx hb oo ao m1 m2)
            | (go_at_call 77; refine (addQS ⟨xf, y1⟩ o1 (nQ d / dQ d) 1 1 1 _ ?_ ?_ (by decide) ((unhide BF).mono (by omega)) (one_bd2 (by omega)) (one_bd2 (by omega)) (one_bd2 (by omega))).mono ?_; (first | exact (isQ_pair (unhide OF).is (unhide OY).is).later (Below.refl _ _) | exact (isQ_pair (unhide OF).is (unhide OY).is).later ((Below.refl _ _).alloc (Nat.le_refl _) _)); (first | exact (unhide OQ1).later (Below.refl _ _) | exact (unhide OQ1).later ((Below.refl _ _).alloc (Nat.le_refl _) _)); rintro e wb ⟨r, rfl, hb, or1, or2⟩; have hbx : Below wa.heap.size wa wb := (by first | exact hb | exact ba hb); have szwb := hbx.size; replace z2 := fun o => frozen_later hbx (World.block_lt_of_cell? _ _ k2_0) (z2 o); replace z3 := fun o => frozen_later hbx (World.block_lt_of_cell? _ _ k3_0) (z3 o); replace k0_0 := cell_later hbx k0_0; replace k0_1 := cell_later hbx k0_1; replace k0_2 := cell_later hbx k0_2; replace k0_3 := cell_later hbx k0_3; replace k1_0 := cell_later hbx k1_0; replace k1_1 := cell_later hbx k1_1; replace k1_2 := cell_later hbx k1_2; replace k1_3 := cell_later hbx k1_3; replace k2_0 := cell_later hbx k2_0; replace k2_1 := cell_later hbx k2_1; replace k2_2 := cell_later hbx k2_2; replace k2_3 := cell_later hbx k2_3; replace k3_0 := cell_later hbx k3_0; replace k3_1 := cell_later hbx k3_1; replace k3_2 := cell_later hbx k3_2; replace k3_3 := cell_later hbx k3_3; replace QA := hide ((unhide QA).later hbx); replace QB := hide ((unhide QB).later hbx); replace OF := hide ((unhide OF).later hbx); replace OY := hide ((unhide OY).later hbx); replace OQ1 := hide ((unhide OQ1).later hbx); have le := low_next (nQ d / dQ d); rw [le.1] at or1; rw [le.2] at or2; clear le; have Px1 := hide (or1); have Px2 := hide (or2); (try (replace gf := fun o => frozen_later hbx (World.block_lt_of_cell? _ _ g0) (gf o); replace g0 := cell_later hbx g0; replace g1 := cell_later hbx g1; replace g2 := cell_later hbx g2; replace g3 := cell_later hbx g3)); (try (refine cutP (p := wb.cell? ⟨wa.heap.size, 0, none⟩ = some (.bool false) ∧ wb.cell? ⟨wa.heap.size, 1, none⟩ = some (.slice none 0 0) ∧ wb.cell? ⟨wa.heap.size, 2, none⟩ = some (.bool false) ∧ wb.cell? ⟨wa.heap.size, 3, none⟩ = some (.slice none 0 0) ∧ ∀ o, wb.frozen? ⟨wa.heap.size, o, none⟩ = false) ?_ (fun dd => ?_); (focus (refine ⟨cell_later hb ?_, cell_later hb ?_, cell_later hb ?_, cell_later hb ?_, fun o => frozen_later hb ?_ ?_⟩ <;> (simp [go_sem]; done))); obtain ⟨g0, g1, g2, g3, gf⟩ := dd)); have zz := hb.size; (try simp at zz); have HBr := hide (below_on (unhide HBr) hbx); clear hbx hb or1 or2))
          all_goals go_wp2_with fail
          all_goals go_meet
          all_goals first
            | (with_reducible refine ⟨_, r, rfl, hide (bxH_alloc (x := r) 30 (unhide HBr) (unhide Px1) (unhide Px2) ?_)⟩ <;> first | omega | (simp; done) | (simp; omega))
            | (with_reducible refine ⟨_, r, rfl, hide (bxH_set (x := r) (unhide HBr) (unhide Px1) (unhide Px2) ?_ ?_ ?_ g0 g1 g2 g3 gf)⟩ <;> first | omega | (simp; done) | (simp; omega))
        case rest =>
          obtain ⟨J, xJ, rfl, HJ⟩ := hcut
          have hb := (unhide HJ).bel
          have szJ := hb.size
          have loJ := (unhide HJ).lo
          have hiJ := (unhide HJ).hi
          replace z2 := fun o => frozen_later hb (World.block_lt_of_cell? _ _ k2_0) (z2 o)
          replace z3 := fun o => frozen_later hb (World.block_lt_of_cell? _ _ k3_0) (z3 o)
          replace k0_0 := cell_later hb k0_0
          replace k0_1 := cell_later hb k0_1
          replace k0_2 := cell_later hb k0_2
          replace k0_3 := cell_later hb k0_3
          replace k1_0 := cell_later hb k1_0
          replace k1_1 := cell_later hb k1_1
          replace k1_2 := cell_later hb k1_2
          replace k1_3 := cell_later hb k1_3
          replace k2_0 := cell_later hb k2_0
          replace k2_1 := cell_later hb k2_1
          replace k2_2 := cell_later hb k2_2
          replace k2_3 := cell_later hb k2_3
          replace k3_0 := cell_later hb k3_0
          replace k3_1 := cell_later hb k3_1
          replace k3_2 := cell_later hb k3_2
          replace k3_3 := cell_later hb k3_3
          replace QA := hide ((unhide QA).later hb)
          replace QB := hide ((unhide QB).later hb)
          replace OF := hide ((unhide OF).later hb)
          replace OY := hide ((unhide OY).later hb)
          have IJ := hide ((unhide HJ).is)
          replace HB := hide (below_on (unhide HB) hb)
          clear hb
          have k4_0 := (unhide HJ).c0
          have k4_1 := (unhide HJ).c1
          have k4_2 := (unhide HJ).c2
          have k4_3 := (unhide HJ).c3
          have z4 := (unhide HJ).fz
          clear HJ
          obtain ⟨w6, hw6⟩ : ∃ x, x = wc := ⟨_, rfl⟩
          subst hw6
          go_wp2_with fail
          refine (cmpQS xJ q' _ _ _ _ _ (unhide IJ).is (unhide QB) (((unhide BF).add (one_bd2 (by omega))).mono (by omega)) (one_bd2 (by omega)) ((unhide J2).kn.mono (by omega)) ((unhide J2).kd.mono (by omega))).mono ?_
          rintro e w7 ⟨rfl, hb⟩
          have s7 := hb.size
          replace z2 := fun o => frozen_later hb (World.block_lt_of_cell? _ _ k2_0) (z2 o)
          replace z3 := fun o => frozen_later hb (World.block_lt_of_cell? _ _ k3_0) (z3 o)
          replace z4 := fun o => frozen_later hb (World.block_lt_of_cell? _ _ k4_0) (z4 o)
          replace k0_0 := cell_later hb k0_0
          replace k0_1 := cell_later hb k0_1
          replace k0_2 := cell_later hb k0_2
          replace k0_3 := cell_later hb k0_3
          replace k1_0 := cell_later hb k1_0
          replace k1_1 := cell_later hb k1_1
          replace k1_2 := cell_later hb k1_2
          replace k1_3 := cell_later hb k1_3
          replace k2_0 := cell_later hb k2_0
          replace k2_1 := cell_later hb k2_1
          replace k2_2 := cell_later hb k2_2
          replace k2_3 := cell_later hb k2_3
          replace k3_0 := cell_later hb k3_0
          replace k3_1 := cell_later hb k3_1
          replace k3_2 := cell_later hb k3_2
          replace k3_3 := cell_later hb k3_3
          replace k4_0 := cell_later hb k4_0
          replace k4_1 := cell_later hb k4_1
          replace k4_2 := cell_later hb k4_2
          replace k4_3 := cell_later hb k4_3
          replace QA := hide ((unhide QA).later hb)
          replace QB := hide ((unhide QB).later hb)
          replace OF := hide ((unhide OF).later hb)
          replace OY := hide ((unhide OY).later hb)
          replace IJ := hide ((unhide IJ).later hb)
          replace HB := hide (below_on (unhide HB) hb)
          clear hb
          have M0 : Hid (MiS w4.heap.size J w w7 ⟨xf, y1⟩ xJ q q') := hide ⟨k3_0, k3_1, k3_2, k3_3, k4_0, k4_1, k4_2, k4_3, k0_0, k0_1, k0_2, k0_3, k1_0, k1_1, k1_2, k1_3, k2_0, k2_1, k2_2, k2_3, z3, z4, z2, unhide HB⟩
          have QA0 : Hid (IsQ2 w4.heap.size J w7 q (nQ d) (dQ d)) := hide ⟨unhide QA, notB_low (unhide J1).is.1 (by omega) (by omega), notB_low (unhide J1).is.2 (by omega) (by omega)⟩
          have QB0 : Hid (IsQ2 w4.heap.size J w7 q' (nQ d') (dQ d')) := hide ⟨unhide QB, notB_low (unhide J2).is.1 (by omega) (by omega), notB_low (unhide J2).is.2 (by omega) (by omega)⟩
          have QL0 : Hid (IsQ2 w4.heap.size J w7 ⟨xf, y1⟩ (nQ d / dQ d) 1) := hide ⟨⟨(unhide OF).is, (unhide OY).is⟩, notB_own (unhide OF) (.inr (by omega)) (.inr (by omega)), notB_own (unhide OY) (.inr (by omega)) (.inr (by omega))⟩
          have KL0 : Hid ((Bd (nQ d / dQ d) (60 + 0) ∧ Bd 1 (60 + 0)) ∧ (Bd ((nQ d / dQ d) + 1) (60 + 0) ∧ Bd 1 (60 + 0))) := hide ⟨⟨(unhide BF).mono (by omega), one_bd2 (by omega)⟩, ⟨((unhide BF).add (one_bd2 (by omega))).mono (by omega), one_bd2 (by omega)⟩⟩
          have hL : w.heap.size + 1 + 1 < w4.heap.size := by omega
          have hJ : w4.heap.size < J := by omega
          clear QA QB OF OY k0_0 k0_1 k0_2 k0_3 k1_0 k1_1 k1_2 k1_3 k2_0 k2_1 k2_2 k2_3 k3_0 k3_1 k3_2 k3_3 k4_0 k4_1 k4_2 k4_3 z2 z4 z3 HB
          generalize w4.heap.size = L at *
          go_wp2
          go_loopw [8] (fun iv wr => ∃ (i : Nat) (lq hq : QV) (ln ld hn hd : Int), i ≤ 200 ∧ iv = .int .i64 i ∧ 0 < ld ∧ 0 < hd ∧ Hid (midF (200 - i) ln ld hn hd (nQ d) (dQ d) (nQ d') (dQ d') = midF 200 (nQ d / dQ d) 1 ((nQ d / dQ d) + 1) 1 (nQ d) (dQ d) (nQ d') (dQ d')) ∧ Hid (IsQ2 L J wr lq ln ld) ∧ Hid (IsQ2 L J wr hq hn hd) ∧ Hid (IsQ2 L J wr q (nQ d) (dQ d)) ∧ Hid (IsQ2 L J wr q' (nQ d') (dQ d')) ∧ Hid ((Bd ln (60 + i) ∧ Bd ld (60 + i)) ∧ (Bd hn (60 + i) ∧ Bd hd (60 + i))) ∧ Hid (MiS L J w wr lq hq q q')) (fun iv _ => 200 - (intOf iv).toNat)
          case atStart => exact ⟨0, _, _, _, _, _, _, by omega, rfl, by decide, by decide, hide rfl, QL0, IJ, QA0, QB0, KL0, M0⟩
          case round =>
            clear QL0 IJ QA0 QB0 KL0 M0
            obtain ⟨i, lq, hq, ln, ld, hn, hd, hi, rfl, pl, ph, EM, QL, QH, QA, QB, BL, M⟩ := hrel
            have hszJ : J < wr.heap.size := World.block_lt_of_cell? _ _ (unhide M).p1_0
            by_cases hlt : i < 200
            · have hlt' : (i : Int) < 200 := by omega
              have K1 := hide (And.intro ((unhide BL).1.1.mono (show 60 + i ≤ 400000 by omega)) ((unhide BL).2.1.mono (show 60 + i ≤ 400000 by omega)))
              have K2 := hide (And.intro ((unhide BL).1.2.mono (show 60 + i ≤ 400000 by omega)) ((unhide BL).2.2.mono (show 60 + i ≤ 400000 by omega)))
              have BM : Hid (Bd (ln + hn) (60 + (i + 1)) ∧ Bd (ld + hd) (60 + (i + 1))) := hide ⟨((unhide BL).1.1.add (unhide BL).2.1).mono (by omega), ((unhide BL).1.2.add (unhide BL).2.2).mono (by omega)⟩
              have k0_0 := (unhide M).p0_0
              have k0_1 := (unhide M).p0_1
              have k0_2 := (unhide M).p0_2
              have k0_3 := (unhide M).p0_3
              have k1_0 := (unhide M).p1_0
              have k1_1 := (unhide M).p1_1
              have k1_2 := (unhide M).p1_2
              have k1_3 := (unhide M).p1_3
              go_upto_region 10 with fail
              go_cut [9] (fun p wx => ∃ (G : Nat) (x : QV), p = .pointer (some ⟨G, 0, none⟩) ∧ Hid (BxA wr wx G x (ln + hn) (ld + hd)))
              case first =>
                go_region_held3 (fun w' => w'.cell? ⟨L, 0, none⟩ = some (.bool lq.num.g) ∧ w'.cell? ⟨L, 1, none⟩ = some (.slice lq.num.a lq.num.n lq.num.c) ∧ w'.cell? ⟨L, 2, none⟩ = some (.bool lq.den.g) ∧ w'.cell? ⟨L, 3, none⟩ = some (.slice lq.den.a lq.den.n lq.den.c) ∧ w'.cell? ⟨J, 0, none⟩ = some (.bool hq.num.g) ∧ w'.cell? ⟨J, 1, none⟩ = some (.slice hq.num.a hq.num.n hq.num.c) ∧ w'.cell? ⟨J, 2, none⟩ = some (.bool hq.den.g) ∧ w'.cell? ⟨J, 3, none⟩ = some (.slice hq.den.a hq.den.n hq.den.c)) (with_reducible (first | exact ⟨k0_0, k0_1, k0_2, k0_3, k1_0, k1_1, k1_2, k1_3⟩ | exact ⟨cd_other k0_0, cd_other k0_1, cd_other k0_2, cd_other k0_3, cd_other k1_0, cd_other k1_1, cd_other k1_2, cd_other k1_3⟩ | exact ⟨ca_other k0_0, ca_other k0_1, ca_other k0_2, ca_other k0_3, ca_other k1_0, ca_other k1_1, ca_other k1_2, ca_other k1_3⟩ | exact ⟨cd_other (ca_other k0_0), cd_other (ca_other k0_1), cd_other (ca_other k0_2), cd_other (ca_other k0_3), cd_other (ca_other k1_0), cd_other (ca_other k1_1), cd_other (ca_other k1_2), cd_other (ca_other k1_3)⟩ | exact ⟨cs_other (cs_other (cs_other (cs_other (k0_0) (by omega)) (by omega)) (by omega)) (by omega), cs_other (cs_other (cs_other (cs_other (k0_1) (by omega)) (by omega)) (by omega)) (by omega), cs_other (cs_other (cs_other (cs_other (k0_2) (by omega)) (by omega)) (by omega)) (by omega), cs_other (cs_other (cs_other (cs_other (k0_3) (by omega)) (by omega)) (by omega)) (by omega), cs_other (cs_other (cs_other (cs_other (k1_0) (by omega)) (by omega)) (by omega)) (by omega), cs_other (cs_other (cs_other (cs_other (k1_1) (by omega)) (by omega)) (by omega)) (by omega), cs_other (cs_other (cs_other (cs_other (k1_2) (by omega)) (by omega)) (by omega)) (by omega), cs_other (cs_other (cs_other (cs_other (k1_3) (by omega)) (by omega)) (by omega)) (by omega)⟩ | fail))
                  (first
                  | (go_at_call_of 96 (Value.agg #[Value.bool lq.num.g, Value.slice lq.num.a lq.num.n lq.num.c]); refine (addS_v lq.num hq.num _ _ _ ?_ ?_ (unhide K1).1 (unhide K1).2).mono ?_; (first | exact (unhide QL).is.1.later (Below.refl _ _).drew | exact (unhide QL).is.1.later ((Below.refl _ _).alloc (Nat.le_refl _) _).drew); (first | exact (unhide QH).is.1.later (Below.refl _ _).drew | exact (unhide QH).is.1.later ((Below.refl _ _).alloc (Nat.le_refl _) _).drew); rintro e w1b ⟨x1, l1, rfl, hb, o1, a1, n1⟩; have hbx : Below wr.heap.size wr w1b := (by first | exact below_of_drew hb | exact bad hb); have szw1b := hbx.size; replace k0_0 := cell_later hbx k0_0; replace k0_1 := cell_later hbx k0_1; replace k0_2 := cell_later hbx k0_2; replace k0_3 := cell_later hbx k0_3; replace k1_0 := cell_later hbx k1_0; replace k1_1 := cell_later hbx k1_1; replace k1_2 := cell_later hbx k1_2; replace k1_3 := cell_later hbx k1_3; replace QL := hide ((unhide QL).later hbx); replace QH := hide ((unhide QH).later hbx); have Px1 := hide (outN_ow o1 a1 n1); (try (replace gf := fun o => frozen_later hbx (World.block_lt_of_cell? _ _ g0) (gf o); replace g0 := cell_later hbx g0; replace g1 := cell_later hbx g1; replace g2 := cell_later hbx g2; replace g3 := cell_later hbx g3)); (try (refine cutP (p := w1b.cell? ⟨wr.heap.size, 0, none⟩ = some (.bool false) ∧ w1b.cell? ⟨wr.heap.size, 1, none⟩ = some (.slice none 0 0) ∧ w1b.cell? ⟨wr.heap.size, 2, none⟩ = some (.bool false) ∧ w1b.cell? ⟨wr.heap.size, 3, none⟩ = some (.slice none 0 0) ∧ ∀ o, w1b.frozen? ⟨wr.heap.size, o, none⟩ = false) ?_ (fun dd => ?_); (focus (refine ⟨cell_later hb ?_, cell_later hb ?_, cell_later hb ?_, cell_later hb ?_, fun o => frozen_later hb ?_ ?_⟩ <;> (simp [go_sem]; done))); obtain ⟨g0, g1, g2, g3, gf⟩ := dd)); have zz := hb.size; (try simp at zz); have HBr := hide hbx; clear hbx hb o1 a1 n1)
                  | (go_at_call_of 96 (Value.agg #[Value.bool lq.den.g, Value.slice lq.den.a lq.den.n lq.den.c]); refine (addS_v lq.den hq.den _ _ _ ?_ ?_ (unhide K2).1 (unhide K2).2).mono ?_; (first | exact (unhide QL).is.2.later (Below.refl _ _) | exact (unhide QL).is.2.later ((Below.refl _ _).alloc (Nat.le_refl _) _)); (first | exact (unhide QH).is.2.later (Below.refl _ _) | exact (unhide QH).is.2.later ((Below.refl _ _).alloc (Nat.le_refl _) _)); rintro e w2b ⟨x2, l2, rfl, hb, o2, a2, n2⟩; have hbx : Below w1b.heap.size w1b w2b := (by first | exact hb | exact ba hb); have szw2b := hbx.size; replace k0_0 := cell_later hbx k0_0; replace k0_1 := cell_later hbx k0_1; replace k0_2 := cell_later hbx k0_2; replace k0_3 := cell_later hbx k0_3; replace k1_0 := cell_later hbx k1_0; replace k1_1 := cell_later hbx k1_1; replace k1_2 := cell_later hbx k1_2; replace k1_3 := cell_later hbx k1_3; replace QL := hide ((unhide QL).later hbx); replace QH := hide ((unhide QH).later hbx); replace Px1 := hide ((unhide Px1).later hbx); have Px2 := hide (outN_ow o2 a2 n2); (try (replace gf := fun o => frozen_later hbx (World.block_lt_of_cell? _ _ g0) (gf o); replace g0 := cell_later hbx g0; replace g1 := cell_later hbx g1; replace g2 := cell_later hbx g2; replace g3 := cell_later hbx g3)); (try (refine cutP (p := w2b.cell? ⟨w1b.heap.size, 0, none⟩ = some (.bool false) ∧ w2b.cell? ⟨w1b.heap.size, 1, none⟩ = some (.slice none 0 0) ∧ w2b.cell? ⟨w1b.heap.size, 2, none⟩ = some (.bool false) ∧ w2b.cell? ⟨w1b.heap.size, 3, none⟩ = some (.slice none 0 0) ∧ ∀ o, w2b.frozen? ⟨w1b.heap.size, o, none⟩ = false) ?_ (fun dd => ?_); (focus (refine ⟨cell_later hb ?_, cell_later hb ?_, cell_later hb ?_, cell_later hb ?_, fun o => frozen_later hb ?_ ?_⟩ <;> (simp [go_sem]; done))); obtain ⟨g0, g1, g2, g3, gf⟩ := dd)); have zz := hb.size; (try simp at zz); have HBr := hide (below_on (unhide HBr) hbx); clear hbx hb o2 a2 n2))
                all_goals go_wp2_with fail
                all_goals go_meet
                all_goals first
                  | (with_reducible refine ⟨_, ⟨x1, x2⟩, rfl, hide (bxA_alloc (x := ⟨x1, x2⟩) 30 (unhide HBr) (unhide Px1) (unhide Px2) ?_ ?_ ?_ ?_ ?_)⟩ <;> first | omega | (simp; done) | (simp; omega))
                  | (with_reducible refine ⟨_, ⟨x1, x2⟩, rfl, hide (bxA_set (x := ⟨x1, x2⟩) (unhide HBr) (unhide Px1) (unhide Px2) ?_ ?_ ?_ ?_ ?_ ?_ ?_ ?_ g0 g1 g2 g3 gf)⟩ <;> first | omega | (simp; done) | (simp; omega))
              case rest =>
                obtain ⟨G, xG, rfl, HX⟩ := hcut
                have hb := (unhide HX).bel
                have OX := hide (unhide HX).ow
                have g0 := (unhide HX).c0
                have g1 := (unhide HX).c1
                have g2 := (unhide HX).c2
                have g3 := (unhide HX).c3
                replace QL := hide ((unhide QL).later hb)
                replace QH := hide ((unhide QH).later hb)
                replace QA := hide ((unhide QA).later hb)
                replace QB := hide ((unhide QB).later hb)
                replace M := hide ((unhide M).later hb)
                have szc := hb.size
                clear hb HX k0_0 k0_1 k0_2 k0_3 k1_0 k1_1 k1_2 k1_3 K1 K2
                by_cases c1 : (ln + hn) * dQ d ≤ nQ d * (ld + hd)
                · have t1 : decide (cmpZ ((ln + hn) * dQ d) (nQ d * (ld + hd)) ≤ 0) = true := cmpZ_le1 c1
                  have EN := hide (show midF (200 - (i + 1)) (ln + hn) (ld + hd) hn hd (nQ d) (dQ d) (nQ d') (dQ d') = midF 200 (nQ d / dQ d) 1 ((nQ d / dQ d) + 1) 1 (nQ d) (dQ d) (nQ d') (dQ d') from (midF_lo c1).symm.trans (by have h := unhide EM; rw [show 200 - i = (200 - (i + 1)) + 1 by omega] at h; exact h))
                  clear c1
                  have p2_0 := (unhide M).p2_0
                  have p2_1 := (unhide M).p2_1
                  have p2_2 := (unhide M).p2_2
                  have p2_3 := (unhide M).p2_3
                  go_wp2_with fail
                  refine (cmpQS xG q _ _ _ _ _ (unhide OX).is (unhide QA).is ((unhide BM).1.mono (by omega)) ((unhide BM).2.mono (by omega)) ((unhide J1).kn.mono (by omega)) ((unhide J1).kd.mono (by omega))).mono ?_
                  rintro e w11 ⟨rfl, hb⟩
                  replace g0 := cell_later hb g0
                  replace g1 := cell_later hb g1
                  replace g2 := cell_later hb g2
                  replace g3 := cell_later hb g3
                  clear p2_0 p2_1 p2_2 p2_3
                  replace OX := hide ((unhide OX).later hb)
                  replace QL := hide ((unhide QL).later hb)
                  replace QH := hide ((unhide QH).later hb)
                  replace QA := hide ((unhide QA).later hb)
                  replace QB := hide ((unhide QB).later hb)
                  replace M := hide ((unhide M).later hb)
                  have sz11 := hb.size
                  clear hb
                  have p0_0 := (unhide M).p0_0
                  have p0_1 := (unhide M).p0_1
                  have p0_2 := (unhide M).p0_2
                  have p0_3 := (unhide M).p0_3
                  have ff := (unhide M).f0
                  have MS := hide ((unhide M).set0 (x := xG) hL hJ)
                  have bt : Hid (But L (L + 1) w11 ((((w11.setCell ⟨L, 0, none⟩ (.bool xG.num.g)).setCell ⟨L, 1, none⟩ (.slice xG.num.a xG.num.n xG.num.c)).setCell ⟨L, 2, none⟩ (.bool xG.den.g)).setCell ⟨L, 3, none⟩ (.slice xG.den.a xG.den.n xG.den.c))) := hide (metQ_but (w5 := w11) (v := xG) (G := L))
                  go_wp2
                  go_roundw
                  case rel => exact ⟨i + 1, xG, hq, (ln + hn), (ld + hd), hn, hd, by omega, by go_num, by omega, by omega, EN, hide (((unhide OX).notB (by omega) (by omega)).but (.inl rfl) (unhide bt)), hide ((unhide QH).but (.inl rfl) (unhide bt)), hide ((unhide QA).but (.inl rfl) (unhide bt)), hide ((unhide QB).but (.inl rfl) (unhide bt)), hide ⟨⟨(unhide BM).1.mono (by omega), (unhide BM).2.mono (by omega)⟩, ⟨(unhide BL).2.1.mono (by omega), (unhide BL).2.2.mono (by omega)⟩⟩, MS⟩
                  case measure => simp [intOf]; omega
                · by_cases c2 : nQ d' * (ld + hd) ≤ (ln + hn) * dQ d'
                  · have t1 : decide (cmpZ ((ln + hn) * dQ d) (nQ d * (ld + hd)) ≤ 0) = false := cmpZ_le0 c1
                    have t2 : decide (0 ≤ cmpZ ((ln + hn) * dQ d') (nQ d' * (ld + hd))) = true := cmpZ_ge1 c2
                    have EN := hide (show midF (200 - (i + 1)) ln ld (ln + hn) (ld + hd) (nQ d) (dQ d) (nQ d') (dQ d') = midF 200 (nQ d / dQ d) 1 ((nQ d / dQ d) + 1) 1 (nQ d) (dQ d) (nQ d') (dQ d') from (midF_hi c1 c2).symm.trans (by have h := unhide EM; rw [show 200 - i = (200 - (i + 1)) + 1 by omega] at h; exact h))
                    clear c1 c2
                    have p2_0 := (unhide M).p2_0
                    have p2_1 := (unhide M).p2_1
                    have p2_2 := (unhide M).p2_2
                    have p2_3 := (unhide M).p2_3
                    go_wp2_with fail
                    refine (cmpQS xG q _ _ _ _ _ (unhide OX).is (unhide QA).is ((unhide BM).1.mono (by omega)) ((unhide BM).2.mono (by omega)) ((unhide J1).kn.mono (by omega)) ((unhide J1).kd.mono (by omega))).mono ?_
                    rintro e w11 ⟨rfl, hb⟩
                    replace g0 := cell_later hb g0
                    replace g1 := cell_later hb g1
                    replace g2 := cell_later hb g2
                    replace g3 := cell_later hb g3
                    clear p2_0 p2_1 p2_2 p2_3
                    replace OX := hide ((unhide OX).later hb)
                    replace QL := hide ((unhide QL).later hb)
                    replace QH := hide ((unhide QH).later hb)
                    replace QA := hide ((unhide QA).later hb)
                    replace QB := hide ((unhide QB).later hb)
                    replace M := hide ((unhide M).later hb)
                    have sz11 := hb.size
                    clear hb
                    have p3_0 := (unhide M).p3_0
                    have p3_1 := (unhide M).p3_1
                    have p3_2 := (unhide M).p3_2
                    have p3_3 := (unhide M).p3_3
                    go_wp2_with fail
                    refine (cmpQS xG q' _ _ _ _ _ (unhide OX).is (unhide QB).is ((unhide BM).1.mono (by omega)) ((unhide BM).2.mono (by omega)) ((unhide J2).kn.mono (by omega)) ((unhide J2).kd.mono (by omega))).mono ?_
                    rintro e w12 ⟨rfl, hb⟩
                    replace g0 := cell_later hb g0
                    replace g1 := cell_later hb g1
                    replace g2 := cell_later hb g2
                    replace g3 := cell_later hb g3
                    clear p3_0 p3_1 p3_2 p3_3
                    replace OX := hide ((unhide OX).later hb)
                    replace QL := hide ((unhide QL).later hb)
                    replace QH := hide ((unhide QH).later hb)
                    replace QA := hide ((unhide QA).later hb)
                    replace QB := hide ((unhide QB).later hb)
                    replace M := hide ((unhide M).later hb)
                    have sz12 := hb.size
                    clear hb
                    have p1_0 := (unhide M).p1_0
                    have p1_1 := (unhide M).p1_1
                    have p1_2 := (unhide M).p1_2
                    have p1_3 := (unhide M).p1_3
                    have ff := (unhide M).f1
                    have MS := hide ((unhide M).set1 (x := xG) hL hJ)
                    have bt : Hid (But J (J + 1) w12 ((((w12.setCell ⟨J, 0, none⟩ (.bool xG.num.g)).setCell ⟨J, 1, none⟩ (.slice xG.num.a xG.num.n xG.num.c)).setCell ⟨J, 2, none⟩ (.bool xG.den.g)).setCell ⟨J, 3, none⟩ (.slice xG.den.a xG.den.n xG.den.c))) := hide (metQ_but (w5 := w12) (v := xG) (G := J))
                    go_wp2
                    go_roundw
                    case rel => exact ⟨i + 1, lq, xG, ln, ld, (ln + hn), (ld + hd), by omega, by go_num, by omega, by omega, EN, hide ((unhide QL).but (.inr rfl) (unhide bt)), hide (((unhide OX).notB (by omega) (by omega)).but (.inr rfl) (unhide bt)), hide ((unhide QA).but (.inr rfl) (unhide bt)), hide ((unhide QB).but (.inr rfl) (unhide bt)), hide ⟨⟨(unhide BL).1.1.mono (by omega), (unhide BL).1.2.mono (by omega)⟩, ⟨(unhide BM).1.mono (by omega), (unhide BM).2.mono (by omega)⟩⟩, MS⟩
                    case measure => simp [intOf]; omega
                  · have t1 : decide (cmpZ ((ln + hn) * dQ d) (nQ d * (ld + hd)) ≤ 0) = false := cmpZ_le0 c1
                    have t2 : decide (0 ≤ cmpZ ((ln + hn) * dQ d') (nQ d' * (ld + hd))) = false := cmpZ_ge0 c2
                    have EN := hide (show (ln + hn, ld + hd) = midF 200 (nQ d / dQ d) 1 ((nQ d / dQ d) + 1) 1 (nQ d) (dQ d) (nQ d') (dQ d') from (midF_in c1 c2).symm.trans (by have h := unhide EM; rw [show 200 - i = (200 - (i + 1)) + 1 by omega] at h; exact h))
                    clear c1 c2
                    have p2_0 := (unhide M).p2_0
                    have p2_1 := (unhide M).p2_1
                    have p2_2 := (unhide M).p2_2
                    have p2_3 := (unhide M).p2_3
                    go_wp2_with fail
                    refine (cmpQS xG q _ _ _ _ _ (unhide OX).is (unhide QA).is ((unhide BM).1.mono (by omega)) ((unhide BM).2.mono (by omega)) ((unhide J1).kn.mono (by omega)) ((unhide J1).kd.mono (by omega))).mono ?_
                    rintro e w11 ⟨rfl, hb⟩
                    replace g0 := cell_later hb g0
                    replace g1 := cell_later hb g1
                    replace g2 := cell_later hb g2
                    replace g3 := cell_later hb g3
                    clear p2_0 p2_1 p2_2 p2_3
                    replace OX := hide ((unhide OX).later hb)
                    replace QL := hide ((unhide QL).later hb)
                    replace QH := hide ((unhide QH).later hb)
                    replace QA := hide ((unhide QA).later hb)
                    replace QB := hide ((unhide QB).later hb)
                    replace M := hide ((unhide M).later hb)
                    have sz11 := hb.size
                    clear hb
                    have p3_0 := (unhide M).p3_0
                    have p3_1 := (unhide M).p3_1
                    have p3_2 := (unhide M).p3_2
                    have p3_3 := (unhide M).p3_3
                    go_wp2_with fail
                    refine (cmpQS xG q' _ _ _ _ _ (unhide OX).is (unhide QB).is ((unhide BM).1.mono (by omega)) ((unhide BM).2.mono (by omega)) ((unhide J2).kn.mono (by omega)) ((unhide J2).kd.mono (by omega))).mono ?_
                    rintro e w12 ⟨rfl, hb⟩
                    replace g0 := cell_later hb g0
                    replace g1 := cell_later hb g1
                    replace g2 := cell_later hb g2
                    replace g3 := cell_later hb g3
                    clear p3_0 p3_1 p3_2 p3_3
                    replace OX := hide ((unhide OX).later hb)
                    replace QL := hide ((unhide QL).later hb)
                    replace QH := hide ((unhide QH).later hb)
                    replace QA := hide ((unhide QA).later hb)
                    replace QB := hide ((unhide QB).later hb)
                    replace M := hide ((unhide M).later hb)
                    have sz12 := hb.size
                    clear hb
                    go_wp2_with fail
                    refine (fitsQS xG _ _ _ (unhide OX).is (by omega)).mono ?_
                    rintro e w13 ⟨v, dv, ok, rfl, hb, ov, hu⟩
                    have sz13 := hb.size
                    have UU : Hid (AnsQ (pS d d') (smp (nQ d) (dQ d) (nQ d') (dQ d')).1 (smp (nQ d) (dQ d) (nQ d') (dQ d')).2 dv ok) := hide (by have e := (unhide SE).trans (unhide EN).symm; rw [pS_some (unhide HG) (by rw [e]; show ld + hd ≠ 0; omega), e]; exact hu)
                    have OV := hide ov
                    replace M := hide ((unhide M).later hb)
                    have HB := hide (unhide M).bel
                    have p4_0 := (unhide M).p4_0
                    have p4_1 := (unhide M).p4_1
                    have p4_2 := (unhide M).p4_2
                    have p4_3 := (unhide M).p4_3
                    have ff := (unhide M).f4
                    clear hb ov hu
                    go_wp2
                    refine bodyPost_ret (v := .tuple #[.agg #[.bool v.num.g, .slice v.num.a v.num.n v.num.c, .bool v.den.g, .slice v.den.a v.den.n v.den.c], .bool ok]) (by simp [results, Try.results32, go_sem, p4_0, p4_1, p4_2, p4_3]) rfl ?_
                    exact retQ_fin (v := v) (d := dv) (R := w.heap.size + 1 + 1) (by omega) (unhide HB) (metQ_but (w5 := w13) (v := v) (G := w.heap.size + 1 + 1)) ((unhide OV).wide (by omega) (by omega)) (unhide UU)
            · obtain rfl : i = 200 := by omega
              have EN := hide (show (0, 0) = midF 200 (nQ d / dQ d) 1 ((nQ d / dQ d) + 1) 1 (nQ d) (dQ d) (nQ d') (dQ d') from unhide EM)
              have PN := hide (pS_none ((unhide SE).trans (unhide EN).symm))
              have p4_0 := (unhide M).p4_0
              have p4_1 := (unhide M).p4_1
              have p4_2 := (unhide M).p4_2
              have p4_3 := (unhide M).p4_3
              have ff := (unhide M).f4
              have HB := hide (unhide M).bel
              go_wp2
              refine bodyPost_ret (v := .tuple #[.agg #[.bool false, .slice none 0 0, .bool false, .slice none 0 0], .bool false]) (by simp [results, Try.results32, go_sem, p4_0, p4_1, p4_2, p4_3]) rfl ?_
              exact retQ_fin (v := (⟨⟨false, none, 0, 0⟩, ⟨false, none, 0, 0⟩⟩ : QV)) (d := (⟨⟨false, []⟩, ⟨false, []⟩⟩ : QD)) (R := w.heap.size + 1 + 1) (by omega) (unhide HB) (metQ_but (w5 := wr) (v := (⟨⟨false, none, 0, 0⟩, ⟨false, none, 0, 0⟩⟩ : QV)) (G := w.heap.size + 1 + 1)) (zeroQ _ _ _) (by rw [unhide PN]; exact ansQ_none _ _)
end Go.Proofs.Ytlmeokeanihhoaa
