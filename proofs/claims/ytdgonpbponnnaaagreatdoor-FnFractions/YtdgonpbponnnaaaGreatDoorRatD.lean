/- CompareRat: the program's and the specification's, at every two fractions. No condition beyond those typed. Written by mkratd.py. -/
import Derived.Test.YtdgonpbponnnaaaGreatDoorRatC
namespace Go.Proofs.YtdgonpbponnnaaaGreatDoor
open Go.RowKit
set_option linter.unusedVariables false
set_option maxRecDepth 100000
set_option linter.unusedSimpArgs false

/-- What CompareRat answers: the order of A and B, where both are good. -/
def OutK (w : World) (P : Bool) (A B : Int) (e : Ending) (w' : World) : Prop :=
  Below w.heap.size w w' ∧ ((P = true ∧ ∃ ts us, Nm ts A.natAbs ∧ Nm us B.natAbs ∧ e = .returned (.tuple #[.int .i64 (cmpB (decide (A < 0)) ts (decide (B < 0)) us), .bool true])) ∨ (P = false ∧ e = .returned (.tuple #[.int .i64 0, .bool false])))
theorem alwaysInt_any (x : Int) (w : World) : Calls Tryz.prog 40 #[.int .i64 x] w fun e w' => e = .returned (.bool true) ∧ w' = w := by
  go_enter Tryz.func40, Tryz.ntmps40
  go_wp2
  go_ret
  exact ⟨rfl, rfl⟩
theorem whereInt_any (x : Int) (w : World) : Calls Tryz.prog 72 #[.int .i64 x, .func (Fn.func 40) #[] #[]] w fun e w' => e = .returned (.tuple #[.int .i64 x, .bool true]) ∧ w' = w := by
  go_enter Tryz.func72, Tryz.ntmps72
  go_wp2_with fail
  refine (alwaysInt_any x w).mono ?_
  rintro e w1 ⟨rfl, rfl⟩
  go_wp2
  go_ret2
  exact ⟨rfl, rfl⟩
theorem goodR_parts {g h : Bool} {xs us : List Int} (k : goodR g xs h us = true) : goodB g xs = true ∧ goodB h us = true := by
  unfold goodR at k
  rw [Bool.and_eq_true, Bool.and_eq_true] at k
  exact k.1
theorem good_len {w : World} {g : Bool} {a : Option Addr} {n c : Nat} {xs : List Int} (ha : Arg w a n c xs) (h : goodB g xs = true) : n ≤ 40 := by rw [← ha.len]; exact (good_parts h).2.2.1

set_option maxHeartbeats 4000000 in
theorem ofRatsInt_any (r r' : RV) (xs us ys vs : List Int) (w : World) (h1 : Arg w r.a r.n r.c xs) (h2 : Arg w r.b r.p r.d us) (h3 : Arg w r'.a r'.n r'.c ys) (h4 : Arg w r'.b r'.p r'.d vs) :
    Calls Tryz.prog 38 #[.agg #[.bool r.g, .slice r.a r.n r.c, .bool r.h, .slice r.b r.p r.d], .agg #[.bool r'.g, .slice r'.a r'.n r'.c, .bool r'.h, .slice r'.b r'.p r'.d], .func (Fn.func 39) #[] #[], .func (Fn.func 40) #[] #[]] w (OutK w (goodR r.g xs r.h us && goodR r'.g ys r'.h vs) (sv r.g xs * sv r'.h vs) (sv r'.g ys * sv r.h us)) := by
  have H1 := hide h1
  have H2 := hide h2
  have H3 := hide h3
  have H4 := hide h4
  clear h1 h2 h3 h4
  have B0 := hide (below_two w (.cells #[.bool r.g, .slice r.a r.n r.c, .bool r.h, .slice r.b r.p r.d] 27) (.cells #[.bool r'.g, .slice r'.a r'.n r'.c, .bool r'.h, .slice r'.b r'.p r'.d] 27))
  have G1 := hide (fun w1 (k : Below w.heap.size w w1) => goodRI_any r xs us w1 ((unhide H1).later k) ((unhide H2).later k))
  have G2 := hide (fun w1 (k : Below w.heap.size w w1) => goodRI_any r' ys vs w1 ((unhide H3).later k) ((unhide H4).later k))
  cases hg1 : goodR r.g xs r.h us
  · rw [Bool.false_and]
    rw [hg1] at G1
    clear hg1
    go_enter Tryz.func38, Tryz.ntmps38
    go_wp2_with fail
    refine (unhide G1 _ (unhide B0)).mono ?_
    rintro e w1 ⟨rfl, hb1⟩
    have HB := hide (below_on (unhide B0) hb1)
    clear hb1
    go_wp2
    go_ret2
    exact ⟨unhide HB, .inr ⟨rfl, rfl⟩⟩
  · rw [Bool.true_and]
    rw [hg1] at G1
    cases hg2 : goodR r'.g ys r'.h vs
    · rw [hg2] at G2
      clear hg1 hg2
      go_enter Tryz.func38, Tryz.ntmps38
      go_wp2_with fail
      refine (unhide G1 _ (unhide B0)).mono ?_
      rintro e w1 ⟨rfl, hb1⟩
      have k0 : w1.cell? ⟨w.heap.size, 0, none⟩ = some (.bool r.g) := cell_later hb1 (by simp [go_sem])
      have k1 : w1.cell? ⟨w.heap.size, 1, none⟩ = some (.slice r.a r.n r.c) := cell_later hb1 (by simp [go_sem])
      have k2 : w1.cell? ⟨w.heap.size, 2, none⟩ = some (.bool r.h) := cell_later hb1 (by simp [go_sem])
      have k3 : w1.cell? ⟨w.heap.size, 3, none⟩ = some (.slice r.b r.p r.d) := cell_later hb1 (by simp [go_sem])
      have k4 : w1.cell? ⟨w.heap.size + 1, 0, none⟩ = some (.bool r'.g) := cell_later hb1 (by simp [go_sem])
      have k5 : w1.cell? ⟨w.heap.size + 1, 1, none⟩ = some (.slice r'.a r'.n r'.c) := cell_later hb1 (by simp [go_sem])
      have k6 : w1.cell? ⟨w.heap.size + 1, 2, none⟩ = some (.bool r'.h) := cell_later hb1 (by simp [go_sem])
      have k7 : w1.cell? ⟨w.heap.size + 1, 3, none⟩ = some (.slice r'.b r'.p r'.d) := cell_later hb1 (by simp [go_sem])
      have HB := hide (below_on (unhide B0) hb1)
      clear hb1
      go_wp2_with fail
      refine (unhide G2 _ (unhide HB)).mono ?_
      rintro e w2 ⟨rfl, hb2⟩
      have HB2 := hide (below_on (unhide HB) hb2)
      clear hb2
      go_wp2
      go_ret2
      exact ⟨unhide HB2, .inr ⟨rfl, rfl⟩⟩
    · rw [hg2] at G2
      have n1 := hide (num_of_good (unhide H1) (goodR_parts hg1).1)
      have n2 := hide (num_of_good (unhide H2) (goodR_parts hg1).2)
      have n3 := hide (num_of_good (unhide H3) (goodR_parts hg2).1)
      have n4 := hide (num_of_good (unhide H4) (goodR_parts hg2).2)
      have l1 := good_len (unhide H1) (goodR_parts hg1).1
      have l2 := good_len (unhide H2) (goodR_parts hg1).2
      have l3 := good_len (unhide H3) (goodR_parts hg2).1
      have l4 := good_len (unhide H4) (goodR_parts hg2).2

      clear hg1 hg2
      go_enter Tryz.func38, Tryz.ntmps38
      go_wp2_with fail
      refine (unhide G1 _ (unhide B0)).mono ?_
      rintro e w1 ⟨rfl, hb1⟩
      have k0 : w1.cell? ⟨w.heap.size, 0, none⟩ = some (.bool r.g) := cell_later hb1 (by simp [go_sem])
      have k1 : w1.cell? ⟨w.heap.size, 1, none⟩ = some (.slice r.a r.n r.c) := cell_later hb1 (by simp [go_sem])
      have k2 : w1.cell? ⟨w.heap.size, 2, none⟩ = some (.bool r.h) := cell_later hb1 (by simp [go_sem])
      have k3 : w1.cell? ⟨w.heap.size, 3, none⟩ = some (.slice r.b r.p r.d) := cell_later hb1 (by simp [go_sem])
      have k4 : w1.cell? ⟨w.heap.size + 1, 0, none⟩ = some (.bool r'.g) := cell_later hb1 (by simp [go_sem])
      have k5 : w1.cell? ⟨w.heap.size + 1, 1, none⟩ = some (.slice r'.a r'.n r'.c) := cell_later hb1 (by simp [go_sem])
      have k6 : w1.cell? ⟨w.heap.size + 1, 2, none⟩ = some (.bool r'.h) := cell_later hb1 (by simp [go_sem])
      have k7 : w1.cell? ⟨w.heap.size + 1, 3, none⟩ = some (.slice r'.b r'.p r'.d) := cell_later hb1 (by simp [go_sem])
      have HB := hide (below_on (unhide B0) hb1)
      clear hb1
      go_wp2_with fail
      refine (unhide G2 _ (unhide HB)).mono ?_
      rintro e w2 ⟨rfl, hb2⟩
      replace k0 := cell_later hb2 k0
      replace k1 := cell_later hb2 k1
      replace k2 := cell_later hb2 k2
      replace k3 := cell_later hb2 k3
      replace k4 := cell_later hb2 k4
      replace k5 := cell_later hb2 k5
      replace k6 := cell_later hb2 k6
      replace k7 := cell_later hb2 k7
      have HB2 := hide (below_on (unhide HB) hb2)
      clear hb2
      go_wp2_with fail
      refine (cmpRI_any r r' xs us ys vs w2 ((unhide n1).later (unhide HB2)) ((unhide n2).later (unhide HB2)) ((unhide n3).later (unhide HB2)) ((unhide n4).later (unhide HB2)) l1 l2 l3 l4).mono ?_
      rintro e w3 ⟨ts, ws, hts, hws, rfl, hb3⟩
      have HB3 := hide (below_on (unhide HB2) hb3)
      have HT := hide (And.intro hts hws)
      clear hb3 hts hws
      go_wp2_with fail
      refine (whereInt_any _ w3).mono ?_
      rintro e w4 ⟨rfl, rfl⟩
      go_wp2
      go_ret2
      exact ⟨unhide HB3, .inl ⟨rfl, ts, ws, (unhide HT).1, (unhide HT).2, rfl⟩⟩

set_option maxHeartbeats 4000000 in
theorem CompareRI_any (r r' : RV) (xs us ys vs : List Int) (w : World) (h1 : Arg w r.a r.n r.c xs) (h2 : Arg w r.b r.p r.d us) (h3 : Arg w r'.a r'.n r'.c ys) (h4 : Arg w r'.b r'.p r'.d vs) :
    Calls Tryz.prog 13 #[.agg #[.bool r.g, .slice r.a r.n r.c, .bool r.h, .slice r.b r.p r.d], .agg #[.bool r'.g, .slice r'.a r'.n r'.c, .bool r'.h, .slice r'.b r'.p r'.d]] w (OutK w (goodR r.g xs r.h us && goodR r'.g ys r'.h vs) (sv r.g xs * sv r'.h vs) (sv r'.g ys * sv r.h us)) := by
  have H1 := hide h1
  have H2 := hide h2
  have H3 := hide h3
  have H4 := hide h4
  clear h1 h2 h3 h4
  have B0 := hide (below_two w (.cells #[.bool r.g, .slice r.a r.n r.c, .bool r.h, .slice r.b r.p r.d] 27) (.cells #[.bool r'.g, .slice r'.a r'.n r'.c, .bool r'.h, .slice r'.b r'.p r'.d] 27))
  go_enter Tryz.func13, Tryz.ntmps13
  go_wp2_with fail
  refine (ofRatsInt_any r r' xs us ys vs _ ((unhide H1).later (unhide B0)) ((unhide H2).later (unhide B0)) ((unhide H3).later (unhide B0)) ((unhide H4).later (unhide B0))).mono ?_
  rintro e w1 ⟨hb1, hk⟩
  have HB := hide (below_on (unhide B0) hb1)
  clear hb1
  rcases hk with ⟨hp, ts, ws, hts, hws, rfl⟩ | ⟨hp, rfl⟩
  · have HT := hide (And.intro hp (And.intro hts hws))
    clear hp hts hws
    go_wp2
    go_ret2
    exact ⟨unhide HB, .inl ⟨(unhide HT).1, ts, ws, (unhide HT).2.1, (unhide HT).2.2, rfl⟩⟩
  · have HT := hide hp
    clear hp
    go_wp2
    go_ret2
    exact ⟨unhide HB, .inr ⟨unhide HT, rfl⟩⟩

set_option maxHeartbeats 4000000 in
theorem bothS_any (r r' : RV) (xs us ys vs : List Int) (w : World) (h1 : Arg w r.a r.n r.c xs) (h2 : Arg w r.b r.p r.d us) (h3 : Arg w r'.a r'.n r'.c ys) (h4 : Arg w r'.b r'.p r'.d vs) :
    Calls Tryz.prog 28 #[.agg #[.bool r.g, .slice r.a r.n r.c, .bool r.h, .slice r.b r.p r.d], .agg #[.bool r'.g, .slice r'.a r'.n r'.c, .bool r'.h, .slice r'.b r'.p r'.d]] w fun e w' => e = .returned (.bool (goodR r.g xs r.h us && goodR r'.g ys r'.h vs)) ∧ Below w.heap.size w w' := by
  have H1 := hide h1
  have H2 := hide h2
  have H3 := hide h3
  have H4 := hide h4
  clear h1 h2 h3 h4
  have B0 := hide (below_two w (.cells #[.bool r.g, .slice r.a r.n r.c, .bool r.h, .slice r.b r.p r.d] 27) (.cells #[.bool r'.g, .slice r'.a r'.n r'.c, .bool r'.h, .slice r'.b r'.p r'.d] 27))
  have G1 := hide (fun w1 (k : Below w.heap.size w w1) => goodRS_any r xs us w1 ((unhide H1).later k) ((unhide H2).later k))
  have G2 := hide (fun w1 (k : Below w.heap.size w w1) => goodRS_any r' ys vs w1 ((unhide H3).later k) ((unhide H4).later k))
  cases hg1 : goodR r.g xs r.h us
  · rw [Bool.false_and]
    rw [hg1] at G1
    clear hg1
    go_enter Tryz.func28, Tryz.ntmps28
    go_wp2_with fail
    refine (unhide G1 _ (unhide B0)).mono ?_
    rintro e w1 ⟨rfl, hb1⟩
    have HB := hide (below_on (unhide B0) hb1)
    clear hb1
    go_wp2
    go_ret
    exact ⟨rfl, unhide HB⟩
  · rw [Bool.true_and]
    rw [hg1] at G1
    clear hg1
    go_enter Tryz.func28, Tryz.ntmps28
    go_wp2_with fail
    refine (unhide G1 _ (unhide B0)).mono ?_
    rintro e w1 ⟨rfl, hb1⟩
    have k0 : w1.cell? ⟨w.heap.size, 0, none⟩ = some (.bool r.g) := cell_later hb1 (by simp [go_sem])
    have k1 : w1.cell? ⟨w.heap.size, 1, none⟩ = some (.slice r.a r.n r.c) := cell_later hb1 (by simp [go_sem])
    have k2 : w1.cell? ⟨w.heap.size, 2, none⟩ = some (.bool r.h) := cell_later hb1 (by simp [go_sem])
    have k3 : w1.cell? ⟨w.heap.size, 3, none⟩ = some (.slice r.b r.p r.d) := cell_later hb1 (by simp [go_sem])
    have k4 : w1.cell? ⟨w.heap.size + 1, 0, none⟩ = some (.bool r'.g) := cell_later hb1 (by simp [go_sem])
    have k5 : w1.cell? ⟨w.heap.size + 1, 1, none⟩ = some (.slice r'.a r'.n r'.c) := cell_later hb1 (by simp [go_sem])
    have k6 : w1.cell? ⟨w.heap.size + 1, 2, none⟩ = some (.bool r'.h) := cell_later hb1 (by simp [go_sem])
    have k7 : w1.cell? ⟨w.heap.size + 1, 3, none⟩ = some (.slice r'.b r'.p r'.d) := cell_later hb1 (by simp [go_sem])
    have HB := hide (below_on (unhide B0) hb1)
    clear hb1
    go_wp2_with fail
    refine (unhide G2 _ (unhide HB)).mono ?_
    rintro e w2 ⟨rfl, hb2⟩
    have HB2 := hide (below_on (unhide HB) hb2)
    clear hb2
    go_wp2
    go_ret
    exact ⟨rfl, unhide HB2⟩

set_option maxHeartbeats 4000000 in
theorem CompareRS_any (r r' : RV) (xs us ys vs : List Int) (w : World) (h1 : Arg w r.a r.n r.c xs) (h2 : Arg w r.b r.p r.d us) (h3 : Arg w r'.a r'.n r'.c ys) (h4 : Arg w r'.b r'.p r'.d vs) :
    Calls Tryz.prog 14 #[.agg #[.bool r.g, .slice r.a r.n r.c, .bool r.h, .slice r.b r.p r.d], .agg #[.bool r'.g, .slice r'.a r'.n r'.c, .bool r'.h, .slice r'.b r'.p r'.d]] w (OutK w (goodR r.g xs r.h us && goodR r'.g ys r'.h vs) (sv r.g xs * sv r'.h vs) (sv r'.g ys * sv r.h us)) := by
  have H1 := hide h1
  have H2 := hide h2
  have H3 := hide h3
  have H4 := hide h4
  clear h1 h2 h3 h4
  have B0 := hide (below_two w (.cells #[.bool r.g, .slice r.a r.n r.c, .bool r.h, .slice r.b r.p r.d] 27) (.cells #[.bool r'.g, .slice r'.a r'.n r'.c, .bool r'.h, .slice r'.b r'.p r'.d] 27))
  have GB := hide (fun w1 (k : Below w.heap.size w w1) => bothS_any r r' xs us ys vs w1 ((unhide H1).later k) ((unhide H2).later k) ((unhide H3).later k) ((unhide H4).later k))
  cases hP : (goodR r.g xs r.h us && goodR r'.g ys r'.h vs)
  · rw [hP] at GB
    clear hP
    go_enter Tryz.func14, Tryz.ntmps14
    go_wp2_with fail
    refine (unhide GB _ (unhide B0)).mono ?_
    rintro e w1 ⟨rfl, hb1⟩
    have HB := hide (below_on (unhide B0) hb1)
    clear hb1
    go_wp2
    go_ret2
    exact ⟨unhide HB, .inr ⟨rfl, rfl⟩⟩
  · have hg1 : goodR r.g xs r.h us = true := by revert hP; cases goodR r.g xs r.h us <;> simp
    have hg2 : goodR r'.g ys r'.h vs = true := by revert hP; cases goodR r'.g ys r'.h vs <;> simp
    rw [hP] at GB
    have n1 := hide (num_of_good (unhide H1) (goodR_parts hg1).1)
    have n2 := hide (num_of_good (unhide H2) (goodR_parts hg1).2)
    have n3 := hide (num_of_good (unhide H3) (goodR_parts hg2).1)
    have n4 := hide (num_of_good (unhide H4) (goodR_parts hg2).2)
    have l1 := good_len (unhide H1) (goodR_parts hg1).1
    have l2 := good_len (unhide H2) (goodR_parts hg1).2
    have l3 := good_len (unhide H3) (goodR_parts hg2).1
    have l4 := good_len (unhide H4) (goodR_parts hg2).2

    clear hg1 hg2 hP
    go_enter Tryz.func14, Tryz.ntmps14
    go_wp2_with fail
    refine (unhide GB _ (unhide B0)).mono ?_
    rintro e w1 ⟨rfl, hb1⟩
    have k0 : w1.cell? ⟨w.heap.size, 0, none⟩ = some (.bool r.g) := cell_later hb1 (by simp [go_sem])
    have k1 : w1.cell? ⟨w.heap.size, 1, none⟩ = some (.slice r.a r.n r.c) := cell_later hb1 (by simp [go_sem])
    have k2 : w1.cell? ⟨w.heap.size, 2, none⟩ = some (.bool r.h) := cell_later hb1 (by simp [go_sem])
    have k3 : w1.cell? ⟨w.heap.size, 3, none⟩ = some (.slice r.b r.p r.d) := cell_later hb1 (by simp [go_sem])
    have k4 : w1.cell? ⟨w.heap.size + 1, 0, none⟩ = some (.bool r'.g) := cell_later hb1 (by simp [go_sem])
    have k5 : w1.cell? ⟨w.heap.size + 1, 1, none⟩ = some (.slice r'.a r'.n r'.c) := cell_later hb1 (by simp [go_sem])
    have k6 : w1.cell? ⟨w.heap.size + 1, 2, none⟩ = some (.bool r'.h) := cell_later hb1 (by simp [go_sem])
    have k7 : w1.cell? ⟨w.heap.size + 1, 3, none⟩ = some (.slice r'.b r'.p r'.d) := cell_later hb1 (by simp [go_sem])
    have HB := hide (below_on (unhide B0) hb1)
    clear hb1
    go_wp2_with fail
    refine (cmpRS_any r r' xs us ys vs w1 ((unhide n1).later (unhide HB)) ((unhide n2).later (unhide HB)) ((unhide n3).later (unhide HB)) ((unhide n4).later (unhide HB)) l1 l2 l3 l4).mono ?_
    rintro e w3 ⟨ts, ws, hts, hws, rfl, hb3⟩
    have HB3 := hide (below_on (unhide HB) hb3)
    have HT := hide (And.intro hts hws)
    clear hb3 hts hws
    go_wp2
    go_ret2
    exact ⟨unhide HB3, .inl ⟨rfl, ts, ws, (unhide HT).1, (unhide HT).2, rfl⟩⟩
end Go.Proofs.YtdgonpbponnnaaaGreatDoor
