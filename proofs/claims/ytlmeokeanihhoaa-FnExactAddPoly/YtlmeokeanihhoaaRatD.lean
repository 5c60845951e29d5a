/- CompareRat: the program's and the specification's, at every two fractions. No condition beyond those typed. Written by mkratd.py. -/
import Derived.Test.YtlmeokeanihhoaaRatC
namespace Go.Proofs.Ytlmeokeanihhoaa
open Go.RowKit
set_option linter.unusedVariables false
set_option maxRecDepth 100000
set_option linter.unusedSimpArgs false

/-- What CompareRat answers: the order of A and B, where both are good. -/
def OutK (w : World) (P : Bool) (A B : Int) (e : Ending) (w' : World) : Prop :=
  Below w.heap.size w w' ∧ ((P = true ∧ ∃ ts us, Nm ts A.natAbs ∧ Nm us B.natAbs ∧ e = .returned (.tuple #[.int .i64 (cmpB (decide (A < 0)) ts (decide (B < 0)) us), .bool true])) ∨ (P = false ∧ e = .returned (.tuple #[.int .i64 0, .bool false])))
theorem goodR_parts {g h : Bool} {xs us : List Int} (k : goodR g xs h us = true) : goodB g xs = true ∧ goodB h us = true := by
  unfold goodR at k
  rw [Bool.and_eq_true, Bool.and_eq_true] at k
  exact k.1
theorem good_len {w : World} {g : Bool} {a : Option Addr} {n c : Nat} {xs : List Int} (ha : Arg w a n c xs) (h : goodB g xs = true) : n ≤ 40 := by rw [← ha.len]; exact (good_parts h).2.2.1

set_option maxHeartbeats 4000000 in
theorem bothS_any (r r' : RV) (xs us ys vs : List Int) (w : World) (h1 : Arg w r.a r.n r.c xs) (h2 : Arg w r.b r.p r.d us) (h3 : Arg w r'.a r'.n r'.c ys) (h4 : Arg w r'.b r'.p r'.d vs) :
    Calls Try.prog 75 #[.agg #[.bool r.g, .slice r.a r.n r.c, .bool r.h, .slice r.b r.p r.d], .agg #[.bool r'.g, .slice r'.a r'.n r'.c, .bool r'.h, .slice r'.b r'.p r'.d]] w fun e w' => e = .returned (.bool (goodR r.g xs r.h us && goodR r'.g ys r'.h vs)) ∧ Below w.heap.size w w' := by
  have H1 := hide h1
  have H2 := hide h2
  have H3 := hide h3
  have H4 := hide h4
  clear h1 h2 h3 h4
  have B0 := hide (below_two w (.cells #[.bool r.g, .slice r.a r.n r.c, .bool r.h, .slice r.b r.p r.d] 30) (.cells #[.bool r'.g, .slice r'.a r'.n r'.c, .bool r'.h, .slice r'.b r'.p r'.d] 30))
  have G1 := hide (fun w1 (k : Below w.heap.size w w1) => goodRS_any r xs us w1 ((unhide H1).later k) ((unhide H2).later k))
  have G2 := hide (fun w1 (k : Below w.heap.size w w1) => goodRS_any r' ys vs w1 ((unhide H3).later k) ((unhide H4).later k))
  cases hg1 : goodR r.g xs r.h us
  · rw [Bool.false_and]
    rw [hg1] at G1
    clear hg1
    go_enter Try.func75, Try.ntmps75
    go_wp2_with fail
    refine (unhide G1 _ (unhide B0)).mono ?_
    rintro e w1 ⟨rfl, hb1⟩
    have HB := hide (below_on (unhide B0) hb1)
    clear hb1
    go_wp2
    go_ret
    exact ⟨rfl, unhide HB⟩
  · rw [Bool.true_and]
    rw [hg1] at G1
    clear hg1
    go_enter Try.func75, Try.ntmps75
    go_wp2_with fail
    refine (unhide G1 _ (unhide B0)).mono ?_
    rintro e w1 ⟨rfl, hb1⟩
    have k0 : w1.cell? ⟨w.heap.size, 0, none⟩ = some (.bool r.g) := cell_later hb1 (by simp [go_sem])
    have k1 : w1.cell? ⟨w.heap.size, 1, none⟩ = some (.slice r.a r.n r.c) := cell_later hb1 (by simp [go_sem])
    have k2 : w1.cell? ⟨w.heap.size, 2, none⟩ = some (.bool r.h) := cell_later hb1 (by simp [go_sem])
    have k3 : w1.cell? ⟨w.heap.size, 3, none⟩ = some (.slice r.b r.p r.d) := cell_later hb1 (by simp [go_sem])
    have k4 : w1.cell? ⟨w.heap.size + 1, 0, none⟩ = some (.bool r'.g) := cell_later hb1 (by simp [go_sem])
    have k5 : w1.cell? ⟨w.heap.size + 1, 1, none⟩ = some (.slice r'.a r'.n r'.c) := cell_later hb1 (by simp [go_sem])
    have k6 : w1.cell? ⟨w.heap.size + 1, 2, none⟩ = some (.bool r'.h) := cell_later hb1 (by simp [go_sem])
    have k7 : w1.cell? ⟨w.heap.size + 1, 3, none⟩ = some (.slice r'.b r'.p r'.d) := cell_later hb1 (by simp [go_sem])
    have HB := hide (below_on (unhide B0) hb1)
    clear hb1
    go_wp2_with fail
    refine (unhide G2 _ (unhide HB)).mono ?_
    rintro e w2 ⟨rfl, hb2⟩
    have HB2 := hide (below_on (unhide HB) hb2)
    clear hb2
    go_wp2
    go_ret
    exact ⟨rfl, unhide HB2⟩

end Go.Proofs.Ytlmeokeanihhoaa
