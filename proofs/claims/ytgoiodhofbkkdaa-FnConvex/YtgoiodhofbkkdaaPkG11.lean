/- Convex ways: plain mathematics: once round just what is within: the end. No condition beyond those typed. -/
import Derived.Test.YtgoiodhofbkkdaaPkD11
import Derived.Test.YtgoiodhofbkkdaaPkF11
namespace Go.Proofs.Ytgoiodhofbkkdaa
open Go.RowKit
set_option linter.unusedVariables false
set_option maxRecDepth 100000
set_option linter.unusedSimpArgs false

theorem seg_x (a b u v p : Int × Int) (h : crs u v p = 0) : (v.1 - u.1) * crs a b p = (v.1 - p.1) * crs a b u + (p.1 - u.1) * crs a b v := by unfold crs at *; grind
theorem seg_y (a b u v p : Int × Int) (h : crs u v p = 0) : (v.2 - u.2) * crs a b p = (v.2 - p.2) * crs a b u + (p.2 - u.2) * crs a b v := by unfold crs at *; grind
theorem nn_of_mul {k x : Int} (hk : 0 < k) (h : 0 ≤ k * x) : 0 ≤ x := by
  rcases Int.lt_or_le x 0 with hx | hx
  · have := Int.mul_neg_of_pos_of_neg hk hx; omega
  · exact hx
theorem np_of_mul {k x : Int} (hk : 0 < k) (h : k * x ≤ 0) : x ≤ 0 := by
  rcases Int.lt_or_le 0 x with hx | hx
  · have := Int.mul_pos hk hx; omega
  · exact hx
/-- What both ends of a segment are not right of, its points are not right of. -/
theorem seg_left {a b u v p : Int × Int} (hu : 0 ≤ crs a b u) (hv : 0 ≤ crs a b v) (h : onV u v p = true) : 0 ≤ crs a b p := by
  unfold onV btw at h
  simp only [Bool.and_eq_true, Bool.or_eq_true, decide_eq_true_eq] at h
  obtain ⟨h0, h1, h2⟩ := h
  have x := seg_x a b u v p h0
  have y := seg_y a b u v p h0
  rcases Int.lt_trichotomy u.1 v.1 with hx | hx | hx
  · have m1 := Int.mul_nonneg (show 0 ≤ v.1 - p.1 by omega) hu
    have m2 := Int.mul_nonneg (show 0 ≤ p.1 - u.1 by omega) hv
    exact nn_of_mul (show 0 < v.1 - u.1 by omega) (by omega)
  · rcases Int.lt_trichotomy u.2 v.2 with hy | hy | hy
    · have m1 := Int.mul_nonneg (show 0 ≤ v.2 - p.2 by omega) hu
      have m2 := Int.mul_nonneg (show 0 ≤ p.2 - u.2 by omega) hv
      exact nn_of_mul (show 0 < v.2 - u.2 by omega) (by omega)
    · have e : p = u := Prod.ext (by omega) (by omega)
      rw [e]; exact hu
    · have m1 := Int.mul_nonneg (show 0 ≤ p.2 - v.2 by omega) hu
      have m2 := Int.mul_nonneg (show 0 ≤ u.2 - p.2 by omega) hv
      have y2 : (u.2 - v.2) * crs a b p = (p.2 - v.2) * crs a b u + (u.2 - p.2) * crs a b v := by grind
      exact nn_of_mul (show 0 < u.2 - v.2 by omega) (by omega)
  · have m1 := Int.mul_nonneg (show 0 ≤ p.1 - v.1 by omega) hu
    have m2 := Int.mul_nonneg (show 0 ≤ u.1 - p.1 by omega) hv
    have x2 : (u.1 - v.1) * crs a b p = (p.1 - v.1) * crs a b u + (u.1 - p.1) * crs a b v := by grind
    exact nn_of_mul (show 0 < u.1 - v.1 by omega) (by omega)
/-- A point between two others (in order) on their line. -/
theorem mid_right {a b r q x : Int × Int} (h0 : crs r q x = 0) (h1 : ltP r x = true) (h2 : ltP x q = true) (hr : crs a b r ≤ 0) (hq : crs a b q ≤ 0) : crs a b x ≤ 0 := by
  rw [ltP_iff] at h1 h2
  have X := seg_x a b r q x h0
  have Y := seg_y a b r q x h0
  by_cases e : r.1 = q.1
  · have m1 : (q.2 - x.2) * crs a b r ≤ 0 := Int.mul_nonpos_of_nonneg_of_nonpos (by omega) hr
    have m2 : (x.2 - r.2) * crs a b q ≤ 0 := Int.mul_nonpos_of_nonneg_of_nonpos (by omega) hq
    exact np_of_mul (show 0 < q.2 - r.2 by omega) (by omega)
  · have m1 : (q.1 - x.1) * crs a b r ≤ 0 := Int.mul_nonpos_of_nonneg_of_nonpos (by omega) hr
    have m2 : (x.1 - r.1) * crs a b q ≤ 0 := Int.mul_nonpos_of_nonneg_of_nonpos (by omega) hq
    exact np_of_mul (show 0 < q.1 - r.1 by omega) (by omega)
theorem side_le {T C : List (Int × Int)} {a b x : Int × Int} (v : Vld T C) (ha : C.head? = some a) (hb : C.getLast? = some b) (hx : x ∈ C) : crs a b x ≤ 0 := by
  cases h1 : decide (x = a)
  · cases h2 : decide (x = b)
    · exact Int.le_of_lt (inner_side v ha hb hx (of_decide_eq_false h1) (of_decide_eq_false h2))
    · rw [of_decide_eq_true h2, crs_bb]; exact Int.le_refl _
  · rw [of_decide_eq_true h1, crs_aa]; exact Int.le_refl _
/-- No third corner lies on an edge's line. -/
theorem strict_low {S lo up : List (Int × Int)} {a b x : Int × Int} (h : Sds S lo up a b) (i : Nat) (hi : i + 1 < lo.length) (hx : x ∈ lo ∨ x ∈ up) (n1 : x ≠ lo.getD i (0, 0)) (n2 : x ≠ lo.getD (i + 1) (0, 0)) : 0 < crs (lo.getD i (0, 0)) (lo.getD (i + 1) (0, 0)) x := by
  have xS : x ∈ S := by
    rcases hx with hx | hx
    · exact h.lv.m x hx
    · exact List.mem_reverse.1 (ng_mem.1 (h.uv.m _ (ng_mem.2 hx)))
  have e := edf_at h.lv.e i hi x xS
  have rq := rise_at h.lv.r (i := i) (j := i + 1) (by omega) hi
  rcases Int.lt_or_le 0 (crs (lo.getD i (0, 0)) (lo.getD (i + 1) (0, 0)) x) with h0 | h0
  · exact h0
  · exfalso
    have z : crs (lo.getD i (0, 0)) (lo.getD (i + 1) (0, 0)) x = 0 := by omega
    have inS : ∀ j, j < lo.length → lo.getD j (0, 0) ∈ S := fun j hj => h.lv.m _ (mem_at hj)
    obtain ⟨n, hn⟩ : ∃ n, lo.length = n + 1 := ⟨lo.length - 1, by omega⟩
    cases c1 : ltP (lo.getD (i + 1) (0, 0)) x
    · have c1' := ltP_tri c1 (fun e => n2 e.symm)
      cases c2 : ltP x (lo.getD i (0, 0))
      · have c2' := ltP_tri c2 n1
        have xnl : x ∉ lo := by
          intro hm
          obtain ⟨j, hj, ej⟩ := List.mem_iff_getElem.1 hm
          have ej' : lo.getD j (0, 0) = x := by rw [getD_gt hj]; exact ej
          rcases Nat.lt_or_ge j i with hji | hji
          · have := rise_at h.lv.r hji (by omega)
            rw [ej'] at this
            have := ltP_trans this c2'
            rw [ltP_irr] at this; cases this
          · rcases Nat.lt_or_ge (i + 1) j with hjk | hjk
            · have := rise_at h.lv.r hjk hj
              rw [ej'] at this
              have := ltP_trans this c1'
              rw [ltP_irr] at this; cases this
            · have : j = i ∨ j = i + 1 := by omega
              rcases this with e | e
              · rw [e] at ej'; exact n1 ej'.symm
              · rw [e] at ej'; exact n2 ej'.symm
        have xu : x ∈ up := hx.resolve_left xnl
        have la := h.lv
        have xa : x ≠ a := fun e => xnl (by rw [e]; have := h.l0; match lo, this with | y :: t, e => simp at e; rw [e]; simp)
        have xb : x ≠ b := fun e => xnl (by rw [e]; exact List.mem_of_getLast? h.l1)
        have inj : ∀ {p q : Int × Int}, ngP p = ngP q → p = q := fun {p q} e => by have := congrArg ngP e; rwa [ng_ng, ng_ng] at this
        have k2 := inner_side h.uv (by rw [map_head, h.u0]; rfl) (by rw [map_last, h.u1]; rfl) (ng_mem.2 xu) (fun e => xb (inj e)) (fun e => xa (inj e))
        rw [ng_crs] at k2
        have k3 := mid_right (a := a) (b := b) z c2' c1' (side_le h.lv h.l0 h.l1 (mem_at (by omega))) (side_le h.lv h.l0 h.l1 (mem_at hi))
        have : crs b a x = - crs a b x := by unfold crs; grind
        omega
      · by_cases hi0 : i = 0
        · subst hi0
          rw [getD_head h.l0] at c2
          have := rise_first h.sr h.s0 x xS
          rw [c2] at this; cases this
        · obtain ⟨k, rfl⟩ : ∃ k, i = k + 1 := ⟨i - 1, by omega⟩
          have su := rise_at h.lv.r (i := k) (j := k + 1) (by omega) (by omega)
          have t1 := trf_at h.lv.t k (by omega)
          have e1 := edf_at h.lv.e k (by omega) x xS
          rw [crs_3] at e1
          rw [crs_2] at t1
          rw [crs_4] at z
          have := crv_lt2 (lex_dv c2) (lex_dv su) (lex_dv rq) e1 t1
          omega
    · by_cases hil : i + 2 < lo.length
      · have qt := rise_at h.lv.r (i := i + 1) (j := i + 2) (by omega) hil
        have t1 := trf_at h.lv.t i hil
        have e1 := edf_at h.lv.e (i + 1) hil x xS
        rw [crs_2] at t1 z
        rw [crs_1] at e1
        have := crv_lt1 (lex_dv rq) (lex_dv qt) (lex_dv c1) t1 e1
        omega
      · have : i + 1 = n := by omega
        rw [this, getD_last h.l1 hn] at c1
        have := rise_last h.sr h.s1 x xS
        rw [c1] at this; cases this
theorem Sds.neg {S lo up : List (Int × Int)} {a b : Int × Int} (h : Sds S lo up a b) : Sds (S.reverse.map ngP) (up.map ngP) (lo.map ngP) (ngP b) (ngP a) := by
  have idm : ∀ L : List (Int × Int), (L.map ngP).map ngP = L := fun L => by simp [List.map_map, Function.comp_def, ng_ng]
  refine ⟨h.uv, ?_, ng_rise h.sr, by simpa using h.u2, by simpa using h.l2, by rw [map_head, h.u0]; rfl, by rw [map_last, h.u1]; rfl, by rw [map_head, h.l0]; rfl, by rw [map_last, h.l1]; rfl, by rw [map_head, List.head?_reverse, h.s1]; rfl, by rw [map_last, List.getLast?_reverse, h.s0]; rfl⟩
  rw [idm, ← List.map_reverse, List.reverse_reverse, idm]
  exact h.lv
theorem strict_up {S lo up : List (Int × Int)} {a b x : Int × Int} (h : Sds S lo up a b) (i : Nat) (hi : i + 1 < up.length) (hx : x ∈ lo ∨ x ∈ up) (n1 : x ≠ up.getD i (0, 0)) (n2 : x ≠ up.getD (i + 1) (0, 0)) : 0 < crs (up.getD i (0, 0)) (up.getD (i + 1) (0, 0)) x := by
  have inj : ∀ {p q : Int × Int}, ngP p = ngP q → p = q := fun {p q} e => by have := congrArg ngP e; rwa [ng_ng, ng_ng] at this
  have := strict_low h.neg i (by simpa using hi) (x := ngP x) (hx.elim (fun h => .inr (ng_mem.2 h)) (fun h => .inl (ng_mem.2 h))) (by rw [getD_map]; exact fun e => n1 (inj e)) (by rw [getD_map]; exact fun e => n2 (inj e))
  rw [getD_map, getD_map, ng_crs] at this
  exact this
/-- The same once round. -/
theorem hull_strict {S lo up : List (Int × Int)} {a b : Int × Int} (h : Sds S lo up a b) (i : Nat) (hi : i < (lo.dropLast ++ up.dropLast).length) (x : Int × Int) (hx : x ∈ lo.dropLast ++ up.dropLast) (n1 : x ≠ (lo.dropLast ++ up.dropLast).getD i (0, 0)) (n2 : x ≠ nxt (lo.dropLast ++ up.dropLast) i) :
    0 < crs ((lo.dropLast ++ up.dropLast).getD i (0, 0)) (nxt (lo.dropLast ++ up.dropLast) i) x := by
  have hx' := (hul_mem h x).1 hx
  obtain ⟨m1, h1⟩ : ∃ n, lo.length = n + 1 := ⟨lo.length - 1, by have := h.l2; omega⟩
  obtain ⟨m2, h2⟩ : ∃ n, up.length = n + 1 := ⟨up.length - 1, by have := h.u2; omega⟩
  have q1 := h.l2
  have q2 := h.u2
  have hl : (lo.dropLast ++ up.dropLast).length = m1 + m2 := by simp [h1, h2]
  unfold nxt at n2 ⊢
  rw [hl] at hi n2 ⊢
  by_cases hc : i < m1
  · rw [(hul_at h1 h2 i).1 hc] at n1 ⊢
    rw [Nat.mod_eq_of_lt (show i + 1 < m1 + m2 by omega)] at n2 ⊢
    by_cases hd : i + 1 < m1
    · rw [(hul_at h1 h2 (i + 1)).1 hd] at n2 ⊢
      exact strict_low h i (by omega) hx' n1 n2
    · have e : i + 1 = m1 := by omega
      have k := (hul_at h1 h2 0).2 (by omega)
      rw [Nat.add_zero] at k
      rw [e, k, getD_head h.u0, ← getD_last h.l1 h1, ← e] at n2 ⊢
      exact strict_low h i (by omega) hx' n1 n2
  · obtain ⟨j, rfl⟩ : ∃ j, i = m1 + j := ⟨i - m1, by omega⟩
    rw [(hul_at h1 h2 j).2 (by omega)] at n1 ⊢
    by_cases hd : j + 1 < m2
    · rw [show m1 + j + 1 = m1 + (j + 1) by omega, Nat.mod_eq_of_lt (show m1 + (j + 1) < m1 + m2 by omega), (hul_at h1 h2 (j + 1)).2 hd] at n2 ⊢
      exact strict_up h j (by omega) hx' n1 n2
    · have e : j + 1 = m2 := by omega
      rw [show m1 + j + 1 = m1 + m2 by omega, Nat.mod_self, (hul_at h1 h2 0).1 (by omega), getD_head h.l0, ← getD_last h.u1 h2, ← e] at n2 ⊢
      exact strict_up h j (by omega) hx' n1 n2
end Go.Proofs.Ytgoiodhofbkkdaa
namespace Go.Proofs.Ytgoiodhofbkkdaa
open Go.RowKit
set_option linter.unusedVariables false
set_option maxRecDepth 100000
set_option linter.unusedSimpArgs false

/-- A convex way. -/
structure Cvx (l : List (Int × Int)) : Prop where
  n3 : 3 ≤ l.length
  left : ∀ i, i < l.length → ∀ x ∈ l, 0 ≤ crs (l.getD i (0, 0)) (nxt l i) x
  strict : ∀ i, i < l.length → ∀ x ∈ l, x ≠ l.getD i (0, 0) → x ≠ nxt l i → 0 < crs (l.getD i (0, 0)) (nxt l i) x
  nd : l.Nodup
theorem rot_at {l : List (Int × Int)} {k : Nat} (hk : k < l.length) (j : Nat) : (j < l.length - k → (l.drop k ++ l.take k).getD j (0, 0) = l.getD (k + j) (0, 0)) ∧ (j < k → (l.drop k ++ l.take k).getD (l.length - k + j) (0, 0) = l.getD j (0, 0)) := by
  constructor
  · intro h
    rw [List.getD_eq_getElem?_getD, List.getD_eq_getElem?_getD, List.getElem?_append_left (by rw [List.length_drop]; exact h), List.getElem?_drop]
  · intro h
    rw [List.getD_eq_getElem?_getD, List.getD_eq_getElem?_getD, List.getElem?_append_right (by rw [List.length_drop]; omega), List.length_drop, List.getElem?_take, if_pos (by omega)]
    congr 2
    omega
theorem rot_edge {l : List (Int × Int)} {k : Nat} (hk : k < l.length) (i : Nat) (hi : i < l.length) : ∃ j, j < l.length ∧ (l.drop k ++ l.take k).getD j (0, 0) = l.getD i (0, 0) ∧ nxt (l.drop k ++ l.take k) j = nxt l i := by
  have hl : (l.drop k ++ l.take k).length = l.length := by simp; omega
  unfold nxt
  rw [hl]
  by_cases h : k ≤ i
  · refine ⟨i - k, by omega, by rw [(rot_at hk (i - k)).1 (by omega)]; congr 1; omega, ?_⟩
    by_cases h1 : i + 1 < l.length
    · rw [Nat.mod_eq_of_lt (show i - k + 1 < l.length by omega), Nat.mod_eq_of_lt h1, (rot_at hk (i - k + 1)).1 (by omega)]
      congr 1; omega
    · rw [show i + 1 = l.length by omega, Nat.mod_self]
      by_cases h0 : k = 0
      · subst h0
        rw [show i - 0 + 1 = l.length by omega, Nat.mod_self, (rot_at hk 0).1 (by omega)]
      · rw [Nat.mod_eq_of_lt (show i - k + 1 < l.length by omega), show i - k + 1 = l.length - k + 0 by omega, (rot_at hk 0).2 (by omega)]
  · refine ⟨l.length - k + i, by omega, (rot_at hk i).2 (by omega), ?_⟩
    rw [Nat.mod_eq_of_lt (show i + 1 < l.length by omega)]
    by_cases h1 : i + 1 = k
    · rw [show l.length - k + i + 1 = l.length by omega, Nat.mod_self, (rot_at hk 0).1 (by omega)]
      congr 1; omega
    · rw [Nat.mod_eq_of_lt (show l.length - k + i + 1 < l.length by omega), show l.length - k + i + 1 = l.length - k + (i + 1) by omega, (rot_at hk (i + 1)).2 (by omega)]
theorem cvx_of {l : List (Int × Int)} (hw : wayB l = true) (hc : cvV l = true) : Cvx l := by
  have wp := (way_parts hw).1
  have hne : l ≠ [] := fun e => by rw [e] at wp; simp at wp
  have hk := leK_lt l l.length (by omega) (Nat.le_refl _)
  have e : hulV l = l.drop (leK l l.length) ++ l.take (leK l l.length) := of_decide_eq_true hc
  generalize leK l l.length = k at *
  have hl : (l.drop k ++ l.take k).length = l.length := by simp; omega
  have hs := sort_ne hne
  have h1 : (sortP l).length ≠ 1 := by
    intro h1
    have : hulV l = sortP l := by rw [hul_pts hs, if_pos h1]
    rw [this] at e
    have := congrArg List.length e
    rw [hl, h1] at this
    omega
  have h2 : 2 ≤ (sortP l).length := by have := List.length_pos_iff.2 hs; omega
  obtain ⟨a, b, sd⟩ := two_of (sortP_rise l) h2
  have e2 : l.drop k ++ l.take k = (chainP (sortP l)).dropLast ++ (chainP (sortP l).reverse).dropLast := by rw [← e, hul_pts hs, if_neg h1]
  have mem : ∀ x, x ∈ l ↔ x ∈ l.drop k ++ l.take k := fun x => by
    rw [List.mem_append]
    constructor
    · intro hx
      rw [← List.take_append_drop k l, List.mem_append] at hx
      exact hx.symm
    · rintro (h | h)
      · exact List.mem_of_mem_drop h
      · exact List.mem_of_mem_take h
  refine ⟨wp.1, ?_, ?_, ?_⟩
  · intro i hi x hx
    obtain ⟨j, hj, j1, j2⟩ := rot_edge hk i hi
    rw [← j1, ← j2, e2]
    exact hull_left2 sd j (by rw [← e2, hl]; exact hj) x (sortP_mem.2 hx)
  · intro i hi x hx n1 n2
    obtain ⟨j, hj, j1, j2⟩ := rot_edge hk i hi
    rw [← j1, e2] at n1
    rw [← j2, e2] at n2
    rw [← j1, ← j2, e2]
    exact hull_strict sd j (by rw [← e2, hl]; exact hj) x (by rw [← e2]; exact (mem x).1 hx) n1 n2
  · have p : (l.drop k ++ l.take k).Nodup := by rw [e2]; exact hull_nodup sd
    have q : (l.take k ++ l.drop k).Nodup := List.perm_append_comm.nodup_iff.1 p
    rwa [List.take_append_drop] at q
theorem nd_at {l : List (Int × Int)} (h : l.Nodup) {i j : Nat} (hi : i < l.length) (hj : j < l.length) (hne : i ≠ j) : l.getD i (0, 0) ≠ l.getD j (0, 0) := by
  rw [getD_gt hi, getD_gt hj]
  intro e
  rcases Nat.lt_or_gt_of_ne hne with h1 | h1
  · exact List.pairwise_iff_getElem.1 h i j hi hj h1 e
  · exact List.pairwise_iff_getElem.1 h j i hj hi h1 e.symm
theorem mod_ne {n i : Nat} (h3 : 3 ≤ n) (hi : i < n) : (i + 1) % n < n ∧ (i + 1) % n ≠ i ∧ (i + 2) % n < n ∧ (i + 2) % n ≠ i ∧ (i + 2) % n ≠ (i + 1) % n ∧ ((i + 1) % n + 1) % n = (i + 2) % n := by
  by_cases h1 : i + 1 < n
  · rw [Nat.mod_eq_of_lt h1]
    by_cases h2 : i + 2 < n
    · rw [Nat.mod_eq_of_lt h2]; omega
    · rw [show i + 2 = n by omega, Nat.mod_self]; omega
  · have e1 : (i + 1) % n = 0 := by rw [show i + 1 = n by omega, Nat.mod_self]
    have e2 : (i + 2) % n = 1 := by rw [show i + 2 = n + 1 by omega, Nat.add_mod_left, Nat.mod_eq_of_lt (by omega)]
    rw [e1, e2, Nat.mod_eq_of_lt (show 0 + 1 < n by omega)]; omega
theorem on_false {a b p : Int × Int} (h : crs a b p ≠ 0) : onV a b p = false := by unfold onV; rw [decide_eq_false h]; rfl
theorem me_false {a b c d : Int × Int} (h1 : 0 < crs a b c) (h2 : 0 < crs a b d) (h3 : 0 < crs c d a) (h4 : 0 < crs c d b) : meV a b c d = false := by
  have s : ∀ k : Int, 0 < k → sgZ k = 1 := fun k hk => by unfold sgZ; rw [if_pos hk]
  unfold meV
  rw [on_false (by omega), on_false (by omega), on_false (by omega), on_false (by omega), s _ h1, s _ h2, s _ h3, s _ h4]
  rfl
theorem nxt_ge (l : List (Int × Int)) (i : Nat) : nxt l i = l.getD ((i + 1) % l.length) (0, 0) := rfl
theorem cvx_turn {l : List (Int × Int)} (c : Cvx l) (i : Nat) (hi : i < l.length) : 0 < crs (l.getD i (0, 0)) (nxt l i) (nxt l (i + 1)) := by
  obtain ⟨a1, a2, a3, a4, a5, a6⟩ := mod_ne c.n3 hi
  have e : nxt l (i + 1) = l.getD ((i + 2) % l.length) (0, 0) := rfl
  rw [e]
  exact c.strict i hi _ (mem_at a3) (nd_at c.nd a3 hi a4) (by rw [nxt_ge]; exact nd_at c.nd a3 a1 a5)
theorem cvx_simple {l : List (Int × Int)} (c : Cvx l) : siS l = true := by
  apply siS_true
  intro i hi
  obtain ⟨a1, a2, a3, a4, a5, a6⟩ := mod_ne c.n3 hi
  have t1 := cvx_turn c i hi
  refine ⟨⟨?_, ?_, ?_⟩, ?_⟩
  · rw [nxt_ge]; exact nd_at c.nd hi a1 (fun e => a2 e.symm)
  · apply on_false
    rw [crs_rot]; omega
  · exact on_false (by omega)
  · intro k hk hkn hne
    have kn : (k + 1) % l.length < l.length := Nat.mod_lt _ (by omega)
    have b1 : i + 1 < l.length := by omega
    have e1 : (i + 1) % l.length = i + 1 := Nat.mod_eq_of_lt b1
    have k1 : (k + 1) % l.length ≠ i + 1 := by
      by_cases h : k + 1 < l.length
      · rw [Nat.mod_eq_of_lt h]; omega
      · rw [show k + 1 = l.length by omega, Nat.mod_self]; omega
    have k2 : (k + 1) % l.length ≠ k := (mod_ne c.n3 hkn).2.1
    apply me_false
    · exact c.strict i hi _ (mem_at hkn) (nd_at c.nd hkn hi (by omega)) (by rw [nxt_ge, e1]; exact nd_at c.nd hkn b1 (by omega))
    · rw [nxt_ge l k]
      exact c.strict i hi _ (mem_at kn) (nd_at c.nd kn hi hne) (by rw [nxt_ge, e1]; exact nd_at c.nd kn b1 k1)
    · exact c.strict k hkn _ (mem_at hi) (nd_at c.nd hi hkn (by omega)) (by rw [nxt_ge]; exact nd_at c.nd hi kn (fun e => hne e.symm))
    · rw [nxt_ge l i, e1]
      exact c.strict k hkn _ (mem_at b1) (nd_at c.nd b1 hkn (by omega)) (by rw [nxt_ge]; exact nd_at c.nd b1 kn (fun e => k1 e.symm))
/-- Once round something ends. -/
theorem cyc_end {n : Nat} (f : Nat → Bool) {i0 j0 : Nat} (hi : i0 < n) (hj : j0 < n) (h1 : f i0 = true) (h2 : f j0 = false) : ∃ i, i < n ∧ f i = true ∧ f ((i + 1) % n) = false := by
  cases hd : decide (∃ i, i < n ∧ f i = true ∧ f ((i + 1) % n) = false)
  · exfalso
    have hn := of_decide_eq_false hd
    have step : ∀ i, i < n → f i = true → f ((i + 1) % n) = true := fun i h3 h4 => by
      cases h5 : f ((i + 1) % n)
      · exact absurd ⟨i, h3, h4, h5⟩ hn
      · rfl
    have all : ∀ t, f ((i0 + t) % n) = true := by
      intro t
      induction t with
      | zero => rw [Nat.add_zero, Nat.mod_eq_of_lt hi]; exact h1
      | succ t ih =>
        have := step _ (Nat.mod_lt _ (by omega)) ih
        rwa [Nat.mod_add_mod] at this
    have := all (j0 + n - i0)
    rw [show i0 + (j0 + n - i0) = j0 + n by omega, Nat.add_mod_right, Nat.mod_eq_of_lt hj, h2] at this
    cases this
  · exact of_decide_eq_true hd
end Go.Proofs.Ytgoiodhofbkkdaa
namespace Go.Proofs.Ytgoiodhofbkkdaa
open Go.RowKit
set_option linter.unusedVariables false
set_option maxRecDepth 100000
set_option linter.unusedSimpArgs false

theorem tri_y (m v n p : Int × Int) : crs m v n * (p.2 - v.2) = crs m v p * (n.2 - v.2) + crs v n p * (m.2 - v.2) := by unfold crs; grind
theorem tri_x (m v n p : Int × Int) : crs m v n * (p.1 - v.1) = crs m v p * (n.1 - v.1) + crs v n p * (m.1 - v.1) := by unfold crs; grind
theorem row_two (a b c d p : Int × Int) : ((d.2 - p.2) * crs a b c + (p.2 - c.2) * crs a b d) + ((b.2 - p.2) * crs c d a + (p.2 - a.2) * crs c d b) = 0 := by unfold crs; grind
theorem row_mid (a b u v c d p : Int × Int) : crs a b p * (crs u v p * (c.2 - d.2) + crs c d p * (v.2 - u.2)) = crs u v p * ((p.2 - d.2) * crs a b c + (c.2 - p.2) * crs a b d) + crs c d p * ((v.2 - p.2) * crs a b u + (p.2 - u.2) * crs a b v) := by unfold crs; grind
theorem up_iff {a b p : Int × Int} : upB a b p = true ↔ a.2 ≤ p.2 ∧ p.2 < b.2 := by unfold upB; simp
theorem dn_iff {a b p : Int × Int} : dnB a b p = true ↔ p.2 < a.2 ∧ b.2 ≤ p.2 := by unfold dnB; simp
/-- What lies on an edge's line, at its height, lies on it. -/
theorem on_up {a b p : Int × Int} (h : a.2 ≤ p.2 ∧ p.2 < b.2) (h0 : crs a b p = 0) : onV a b p = true := by
  have e : (b.2 - a.2) * (p.1 - a.1) = (b.1 - a.1) * (p.2 - a.2) := by unfold crs at h0; grind
  unfold onV btw
  rw [decide_eq_true h0, Bool.true_and]
  have k : 0 < b.2 - a.2 := by omega
  have t : 0 ≤ p.2 - a.2 := by omega
  have t2 : 0 ≤ b.2 - p.2 := by omega
  have e2 : (b.2 - a.2) * (b.1 - p.1) = (b.1 - a.1) * (b.2 - p.2) := by grind
  rcases Int.le_total a.1 b.1 with hx | hx
  · have m1 := Int.mul_nonneg (show 0 ≤ b.1 - a.1 by omega) t
    have m2 := Int.mul_nonneg (show 0 ≤ b.1 - a.1 by omega) t2
    have p1 := nn_of_mul k (by omega : 0 ≤ (b.2 - a.2) * (p.1 - a.1))
    have p2 := nn_of_mul k (by omega : 0 ≤ (b.2 - a.2) * (b.1 - p.1))
    simp only [Bool.and_eq_true, Bool.or_eq_true, decide_eq_true_eq]
    omega
  · have m1 : (b.1 - a.1) * (p.2 - a.2) ≤ 0 := Int.mul_nonpos_of_nonpos_of_nonneg (by omega) t
    have m2 : (b.1 - a.1) * (b.2 - p.2) ≤ 0 := Int.mul_nonpos_of_nonpos_of_nonneg (by omega) t2
    have p1 := np_of_mul k (by omega : (b.2 - a.2) * (p.1 - a.1) ≤ 0)
    have p2 := np_of_mul k (by omega : (b.2 - a.2) * (b.1 - p.1) ≤ 0)
    simp only [Bool.and_eq_true, Bool.or_eq_true, decide_eq_true_eq]
    omega
theorem on_at {l : List (Int × Int)} {p : Int × Int} {i : Nat} (hi : i < l.length) (h : onV (l.getD i (0, 0)) (nxt l i) p = true) : onK l p l.length = true := by
  refine onK_le (k := i + 1) (by omega) ?_
  unfold onK
  rw [h, Bool.or_true]
theorem on_ex {l : List (Int × Int)} {p : Int × Int} : ∀ k, onK l p k = true → ∃ i, i < k ∧ onV (l.getD i (0, 0)) (nxt l i) p = true
  | 0, h => by cases h
  | k + 1, h => by
    unfold onK at h
    rw [Bool.or_eq_true] at h
    rcases h with h | h
    · obtain ⟨i, hi, e⟩ := on_ex k h
      exact ⟨i, by omega, e⟩
    · exact ⟨k, by omega, h⟩
theorem ha_iff {l : List (Int × Int)} {p : Int × Int} : ∀ k, haK l p k = true ↔ ∀ i, i < k → 0 ≤ crs (l.getD i (0, 0)) (nxt l i) p
  | 0 => by simp [haK]
  | k + 1 => by
    have s : (!(decide (sgZ (crs (l.getD k (0, 0)) (nxt l k) p) < 0))) = true ↔ 0 ≤ crs (l.getD k (0, 0)) (nxt l k) p := by
      unfold sgZ
      simp only [Bool.not_eq_true', decide_eq_false_iff_not]
      split <;> (try split) <;> omega
    unfold haK
    rw [Bool.and_eq_true, ha_iff k, s]
    constructor
    · rintro ⟨h1, h2⟩ i hi
      by_cases e : i = k
      · subst e; exact h2
      · exact h1 i (by omega)
    · intro h
      exact ⟨fun i hi => h i (by omega), h k (by omega)⟩
/-- One edge alone goes up there. -/
theorem up_one {l : List (Int × Int)} {p : Int × Int} (c : Cvx l) {i j : Nat} (hi : i < l.length) (hj : j < l.length) (h1 : upB (l.getD i (0, 0)) (nxt l i) p = true) (h2 : upB (l.getD j (0, 0)) (nxt l j) p = true) : i = j := by
  cases hd : decide (i = j)
  · exfalso
    have hne := of_decide_eq_false hd
    rw [up_iff] at h1 h2
    have mi : (i + 1) % l.length < l.length := Nat.mod_lt _ (by omega)
    have mj : (j + 1) % l.length < l.length := Nat.mod_lt _ (by omega)
    have ni := nxt_ge l i
    have nj := nxt_ge l j
    have d1 := nd_at c.nd hi hj hne
    have d2 : l.getD i (0, 0) ≠ nxt l j := fun e => by rw [e] at h1; omega
    have d3 : nxt l i ≠ l.getD j (0, 0) := fun e => by rw [e] at h1; omega
    have d4 : nxt l i ≠ nxt l j := by
      rw [ni, nj]
      apply nd_at c.nd mi mj
      intro e
      have : i = j := by
        by_cases a1 : i + 1 < l.length
        · rw [Nat.mod_eq_of_lt a1] at e
          by_cases a2 : j + 1 < l.length
          · rw [Nat.mod_eq_of_lt a2] at e; omega
          · rw [show j + 1 = l.length by omega, Nat.mod_self] at e; omega
        · rw [show i + 1 = l.length by omega, Nat.mod_self] at e
          by_cases a2 : j + 1 < l.length
          · rw [Nat.mod_eq_of_lt a2] at e; omega
          · omega
      exact hne this
    have m1 : l.getD i (0, 0) ∈ l := mem_at hi
    have m2 : nxt l i ∈ l := by rw [ni]; exact mem_at mi
    have m3 : l.getD j (0, 0) ∈ l := mem_at hj
    have m4 : nxt l j ∈ l := by rw [nj]; exact mem_at mj
    have s1 := c.strict i hi _ m3 d1.symm d3.symm
    have s2 := c.strict i hi _ m4 d2.symm d4.symm
    have s3 := c.strict j hj _ m1 d1 d2
    have s4 := c.strict j hj _ m2 d3 d4
    have id := row_two (l.getD i (0, 0)) (nxt l i) (l.getD j (0, 0)) (nxt l j) p
    have t1 := Int.mul_pos (show 0 < (nxt l j).2 - p.2 by omega) s1
    have t2 := Int.mul_nonneg (show 0 ≤ p.2 - (l.getD j (0, 0)).2 by omega) (Int.le_of_lt s2)
    have t3 := Int.mul_pos (show 0 < (nxt l i).2 - p.2 by omega) s3
    have t4 := Int.mul_nonneg (show 0 ≤ p.2 - (l.getD i (0, 0)).2 by omega) (Int.le_of_lt s4)
    omega
  · exact of_decide_eq_true hd
theorem prev_at {l : List (Int × Int)} {i : Nat} (hi : i < l.length) : ∃ m, m < l.length ∧ (m + 1) % l.length = i := by
  by_cases h : i = 0
  · exact ⟨l.length - 1, by omega, by rw [show l.length - 1 + 1 = l.length by omega, Nat.mod_self, h]⟩
  · exact ⟨i - 1, by omega, by rw [show i - 1 + 1 = i by omega, Nat.mod_eq_of_lt hi]⟩
theorem nxt_prev {l : List (Int × Int)} {m i : Nat} (h : (m + 1) % l.length = i) : nxt l m = l.getD i (0, 0) ∧ nxt l (m + 1) = nxt l i := by
  constructor
  · unfold nxt; rw [h]
  · unfold nxt; rw [← h, Nat.mod_add_mod]
theorem ix_max (f : Int × Int → Int) (l : List (Int × Int)) (h : l ≠ []) : ∃ i, i < l.length ∧ ∀ j, j < l.length → f (l.getD j (0, 0)) ≤ f (l.getD i (0, 0)) := by
  obtain ⟨a, ha, hm⟩ := max_in f l h
  obtain ⟨i, hi, e⟩ := List.mem_iff_getElem.1 ha
  exact ⟨i, hi, fun j hj => by rw [getD_gt hi, e]; exact hm _ (mem_at hj)⟩
/-- A corner lies at its height or below. -/
theorem has_low {l : List (Int × Int)} {p : Int × Int} (c : Cvx l) (ha : ∀ i, i < l.length → 0 ≤ crs (l.getD i (0, 0)) (nxt l i) p) : ∃ i, i < l.length ∧ (l.getD i (0, 0)).2 ≤ p.2 := by
  have n3 := c.n3
  obtain ⟨i, hi, hm⟩ := ix_max (fun q => -q.2) l (fun e => by rw [e] at n3; simp at n3)
  refine ⟨i, hi, ?_⟩
  obtain ⟨m, hm1, hm2⟩ := prev_at hi
  obtain ⟨e1, e2⟩ := nxt_prev hm2
  have t := cvx_turn c m hm1
  rw [e1, e2] at t
  have a1 := ha m hm1
  rw [e1] at a1
  have a2 := ha i hi
  have id := tri_y (l.getD m (0, 0)) (l.getD i (0, 0)) (nxt l i) p
  have y1 := hm m hm1
  have y2 := hm ((i + 1) % l.length) (Nat.mod_lt _ (by omega))
  have y3 : (nxt l i).2 ≥ (l.getD i (0, 0)).2 := by rw [nxt_ge]; omega
  have b1 := Int.mul_nonneg a1 (show 0 ≤ (nxt l i).2 - (l.getD i (0, 0)).2 by omega)
  have b2 := Int.mul_nonneg a2 (show 0 ≤ (l.getD m (0, 0)).2 - (l.getD i (0, 0)).2 by omega)
  have := nn_of_mul t (by omega : 0 ≤ crs (l.getD m (0, 0)) (l.getD i (0, 0)) (nxt l i) * (p.2 - (l.getD i (0, 0)).2))
  omega
/-- A corner lies above it, unless it is on the way. -/
theorem has_high {l : List (Int × Int)} {p : Int × Int} (c : Cvx l) (ha : ∀ i, i < l.length → 0 ≤ crs (l.getD i (0, 0)) (nxt l i) p) (hoff : onK l p l.length = false) : ∃ i, i < l.length ∧ p.2 < (l.getD i (0, 0)).2 := by
  have n3 := c.n3
  obtain ⟨t, ht, hm⟩ := ix_max (fun q => q.2) l (fun e => by rw [e] at n3; simp at n3)
  have off : ∀ i, i < l.length → onV (l.getD i (0, 0)) (nxt l i) p = false := fun i hi => by
    cases h : onV (l.getD i (0, 0)) (nxt l i) p
    · rfl
    · rw [on_at hi h] at hoff; cases hoff
  rcases Int.lt_or_le p.2 (l.getD t (0, 0)).2 with hp | hp
  · exact ⟨t, ht, hp⟩
  · exfalso
    have nall : ∃ j, j < l.length ∧ decide ((l.getD j (0, 0)).2 = (l.getD t (0, 0)).2) = false := by
      have t0 := cvx_turn c 0 (by omega)
      have e0 : nxt l 0 = l.getD 1 (0, 0) := nxt_lt (by omega)
      have e1 : nxt l (0 + 1) = l.getD ((0 + 2) % l.length) (0, 0) := rfl
      have m2 : (0 + 2) % l.length < l.length := Nat.mod_lt _ (by omega)
      rw [e0, e1] at t0
      cases q0 : decide ((l.getD 0 (0, 0)).2 = (l.getD t (0, 0)).2)
      · exact ⟨0, by omega, q0⟩
      · cases q1 : decide ((l.getD 1 (0, 0)).2 = (l.getD t (0, 0)).2)
        · exact ⟨1, by omega, q1⟩
        · cases q2 : decide ((l.getD ((0 + 2) % l.length) (0, 0)).2 = (l.getD t (0, 0)).2)
          · exact ⟨_, m2, q2⟩
          · exfalso
            have y0 := of_decide_eq_true q0
            have y1 := of_decide_eq_true q1
            have y2 := of_decide_eq_true q2
            unfold crs at t0
            rw [y0, y1, y2] at t0
            grind
    obtain ⟨j, hj, qj⟩ := nall
    obtain ⟨i, hi, f1, f2⟩ := cyc_end (fun i => decide ((l.getD i (0, 0)).2 = (l.getD t (0, 0)).2)) ht hj (by simp) qj
    have f1' := of_decide_eq_true f1
    have f2' := of_decide_eq_false f2
    have mi : (i + 1) % l.length < l.length := Nat.mod_lt _ (by omega)
    have y2 := hm _ mi
    have y2' : (nxt l i).2 < (l.getD i (0, 0)).2 := by rw [nxt_ge]; omega
    obtain ⟨m, hm1, hm2⟩ := prev_at hi
    obtain ⟨e1, e2⟩ := nxt_prev hm2
    have tt := cvx_turn c m hm1
    rw [e1, e2] at tt
    have a1 := ha m hm1
    rw [e1] at a1
    have a2 := ha i hi
    have o1 := off m hm1
    rw [e1] at o1
    have o2 := off i hi
    have idy := tri_y (l.getD m (0, 0)) (l.getD i (0, 0)) (nxt l i) p
    have idx := tri_x (l.getD m (0, 0)) (l.getD i (0, 0)) (nxt l i) p
    have y1 := hm m hm1
    obtain ⟨k, hk1, hk2⟩ := prev_at hm1
    obtain ⟨g1, g2⟩ := nxt_prev hk2
    have tk := cvx_turn c k hk1
    rw [g1, g2, e1] at tk
    have ak := ha k hk1
    rw [g1] at ak
    have idk := tri_x (l.getD k (0, 0)) (l.getD m (0, 0)) (l.getD i (0, 0)) p
    generalize l.getD i (0, 0) = v at *
    generalize l.getD m (0, 0) = mm at *
    generalize nxt l i = n at *
    generalize l.getD k (0, 0) = kk at *
    generalize crs mm v n = T at *
    have b1 := Int.mul_nonneg (Int.le_of_lt tt) (show 0 ≤ p.2 - v.2 by omega)
    have b2 : crs mm v p * (n.2 - v.2) ≤ 0 := Int.mul_nonpos_of_nonneg_of_nonpos a1 (by omega)
    have b3 : crs v n p * (mm.2 - v.2) ≤ 0 := Int.mul_nonpos_of_nonneg_of_nonpos a2 (by omega)
    have z1 : T * (p.2 - v.2) = 0 := by omega
    have z2 : crs mm v p * (n.2 - v.2) = 0 := by omega
    have z3 : crs v n p * (mm.2 - v.2) = 0 := by omega
    have py : p.2 = v.2 := by rcases Int.mul_eq_zero.1 z1 with h | h <;> omega
    have M0 : crs mm v p = 0 := by rcases Int.mul_eq_zero.1 z2 with h | h <;> omega
    rw [M0, Int.zero_mul, Int.zero_add] at idx
    rw [M0, Int.zero_mul, Int.add_zero] at idk
    by_cases hmy : mm.2 = v.2
    · have s1 : 0 ≤ (p.1 - v.1) * (mm.1 - v.1) := by
        apply nn_of_mul tt
        have e : T * ((p.1 - v.1) * (mm.1 - v.1)) = crs v n p * ((mm.1 - v.1) * (mm.1 - v.1)) := by rw [← Int.mul_assoc, idx, Int.mul_assoc]
        rw [e]
        apply Int.mul_nonneg a2
        rcases Int.le_total 0 (mm.1 - v.1) with h | h
        · exact Int.mul_nonneg h h
        · exact Int.mul_nonneg_of_nonpos_of_nonpos h h
      have s2 : 0 ≤ (p.1 - mm.1) * (v.1 - mm.1) := by
        apply nn_of_mul tk
        have e : crs kk mm v * ((p.1 - mm.1) * (v.1 - mm.1)) = crs kk mm p * ((v.1 - mm.1) * (v.1 - mm.1)) := by rw [← Int.mul_assoc, idk, Int.mul_assoc]
        rw [e]
        apply Int.mul_nonneg ak
        rcases Int.le_total 0 (v.1 - mm.1) with h | h
        · exact Int.mul_nonneg h h
        · exact Int.mul_nonneg_of_nonpos_of_nonpos h h
      have on : onV mm v p = true := by
        unfold onV btw
        rw [decide_eq_true M0, Bool.true_and]
        simp only [Bool.and_eq_true, Bool.or_eq_true, decide_eq_true_eq]
        refine ⟨?_, by omega⟩
        rcases Int.lt_trichotomy mm.1 v.1 with h | h | h
        · left
          have q1 : p.1 - v.1 ≤ 0 := by
            rcases Int.lt_or_le 0 (p.1 - v.1) with g | g
            · have := Int.mul_neg_of_pos_of_neg g (show mm.1 - v.1 < 0 by omega); omega
            · exact g
          have q2 : 0 ≤ p.1 - mm.1 := by
            rcases Int.lt_or_le (p.1 - mm.1) 0 with g | g
            · have := Int.mul_neg_of_neg_of_pos g (show 0 < v.1 - mm.1 by omega); omega
            · exact g
          omega
        · exfalso
          have : mm = v := Prod.ext h hmy
          rw [this] at tk
          rw [crs_bb] at tk
          omega
        · right
          have q1 : 0 ≤ p.1 - v.1 := by
            rcases Int.lt_or_le (p.1 - v.1) 0 with g | g
            · have := Int.mul_neg_of_neg_of_pos g (show 0 < mm.1 - v.1 by omega); omega
            · exact g
          have q2 : p.1 - mm.1 ≤ 0 := by
            rcases Int.lt_or_le 0 (p.1 - mm.1) with g | g
            · have := Int.mul_neg_of_pos_of_neg g (show v.1 - mm.1 < 0 by omega); omega
            · exact g
          omega
      rw [on] at o1; cases o1
    · have N0 : crs v n p = 0 := by rcases Int.mul_eq_zero.1 z3 with h | h <;> omega
      rw [N0, Int.zero_mul] at idx
      have px : p.1 = v.1 := by rcases Int.mul_eq_zero.1 idx with h | h <;> omega
      have : p = v := Prod.ext px py
      rw [this, on_self] at o2
      cases o2
end Go.Proofs.Ytgoiodhofbkkdaa
namespace Go.Proofs.Ytgoiodhofbkkdaa
open Go.RowKit
set_option linter.unusedVariables false
set_option maxRecDepth 100000
set_option linter.unusedSimpArgs false

theorem wiT_0 {a b p : Int × Int} (h1 : upB a b p = false) (h2 : 0 ≤ crs a b p) : wiT a b p = 0 := by
  have : sgZ (crs a b p) ≠ -1 := by unfold sgZ; split <;> (try split) <;> omega
  unfold wiT
  rw [h1, Bool.false_and]
  have e : (sgZ (crs a b p) == -1) = false := by simp [this]
  rw [e, Bool.and_false]
  rfl
theorem wiT_1 {a b p : Int × Int} (h1 : upB a b p = true) (h2 : 0 < crs a b p) : wiT a b p = 1 := by
  have : sgZ (crs a b p) = 1 := by unfold sgZ; rw [if_pos h2]
  unfold wiT
  rw [h1, this]
  rfl
theorem wiT_np {a b p : Int × Int} (h1 : upB a b p = false) : wiT a b p ≤ 0 := by
  unfold wiT
  rw [h1, Bool.false_and]
  simp only [Bool.false_eq_true, if_false]
  split <;> omega
theorem wiT_up {a b p : Int × Int} (h : 0 < wiT a b p) : upB a b p = true ∧ 0 < crs a b p := by
  cases h1 : upB a b p
  · have := wiT_np (a := a) (b := b) (p := p) h1; omega
  · refine ⟨rfl, ?_⟩
    unfold wiT at h
    rw [h1, Bool.true_and] at h
    split at h
    · rename_i hs
      have : sgZ (crs a b p) = 1 := by simpa using hs
      unfold sgZ at this
      split at this
      · assumption
      · split at this <;> omega
    · split at h <;> omega
theorem wiT_dn {a b p : Int × Int} (hd : dnB a b p = true) (h : wiT a b p = 0) : 0 ≤ crs a b p := by
  have hu : upB a b p = false := by
    cases hu : upB a b p
    · rfl
    · rw [up_iff] at hu; rw [dn_iff] at hd; omega
  rcases Int.lt_or_le (crs a b p) 0 with h0 | h0
  · exfalso
    have : sgZ (crs a b p) = -1 := by unfold sgZ; rw [if_neg (by omega), if_pos h0]
    unfold wiT at h
    rw [hu, hd, this] at h
    revert h
    decide
  · exact h0
theorem sum_ix {l : List (Int × Int)} {p : Int × Int} {i0 : Nat} (h0 : wiT (l.getD i0 (0, 0)) (nxt l i0) p = 1) (h : ∀ j, j < l.length → j ≠ i0 → wiT (l.getD j (0, 0)) (nxt l j) p = 0) : ∀ k, k ≤ l.length → wiS l p k = if i0 < k then 1 else 0
  | 0, _ => by simp [wiS]
  | k + 1, hk => by
    have ih := sum_ix h0 h k (by omega)
    unfold wiS
    rw [ih]
    by_cases e : k = i0
    · subst e
      rw [h0, if_neg (by omega), if_pos (by omega)]; omega
    · rw [h k (by omega) e]
      by_cases g : i0 < k
      · rw [if_pos g, if_pos (by omega)]; omega
      · rw [if_neg g, if_neg (by omega)]; omega
theorem sum_le {l : List (Int × Int)} {p : Int × Int} : ∀ k, (∀ j, j < k → wiT (l.getD j (0, 0)) (nxt l j) p ≤ 0) → wiS l p k ≤ 0
  | 0, _ => by simp [wiS]
  | k + 1, h => by
    have := sum_le k (fun j hj => h j (by omega))
    have := h k (by omega)
    unfold wiS
    omega
theorem sum_two {l : List (Int × Int)} {p : Int × Int} {i0 j0 : Nat} (hne : j0 ≠ i0) (h : ∀ j, j < l.length → j ≠ i0 → wiT (l.getD j (0, 0)) (nxt l j) p ≤ 0) : ∀ k, k ≤ l.length → wiS l p k ≤ (if i0 < k then 1 else 0) + (if j0 < k then wiT (l.getD j0 (0, 0)) (nxt l j0) p else 0)
  | 0, _ => by simp [wiS]
  | k + 1, hk => by
    have ih := sum_two hne h k (by omega)
    have b := wiT_bd (l.getD k (0, 0)) (nxt l k) p
    unfold wiS
    by_cases e : k = i0
    · subst e
      rw [if_neg (by omega)] at ih
      rw [if_pos (by omega)]
      by_cases g : j0 < k
      · rw [if_pos g] at ih; rw [if_pos (by omega)]; omega
      · rw [if_neg g] at ih; rw [if_neg (by omega)]; omega
    · have hh := h k (by omega) e
      by_cases e2 : k = j0
      · subst e2
        rw [if_neg (show ¬ k < k by omega)] at ih
        rw [if_pos (show k < k + 1 by omega)]
        by_cases g : i0 < k
        · rw [if_pos g] at ih; rw [if_pos (by omega)]; omega
        · rw [if_neg g] at ih; rw [if_neg (by omega)]; omega
      · by_cases g : i0 < k <;> by_cases g2 : j0 < k <;> simp only [g, g2, if_true, if_false, show (i0 < k + 1) = (i0 < k) from propext (by omega), show (j0 < k + 1) = (j0 < k) from propext (by omega)] at ih ⊢ <;> omega
theorem wind_in {l : List (Int × Int)} {p : Int × Int} (c : Cvx l) (ha : ∀ i, i < l.length → 0 ≤ crs (l.getD i (0, 0)) (nxt l i) p) (hoff : onK l p l.length = false) : wiS l p l.length = 1 := by
  obtain ⟨i1, h1, y1⟩ := has_low c ha
  obtain ⟨i2, h2, y2⟩ := has_high c ha hoff
  obtain ⟨i, hi, f1, f2⟩ := cyc_end (fun i => decide ((l.getD i (0, 0)).2 ≤ p.2)) h1 h2 (by simpa using y1) (by simpa using y2)
  have up : upB (l.getD i (0, 0)) (nxt l i) p = true := by
    rw [up_iff, nxt_ge]
    have := of_decide_eq_true f1
    have := of_decide_eq_false f2
    omega
  have pos : 0 < crs (l.getD i (0, 0)) (nxt l i) p := by
    have := ha i hi
    rcases Int.lt_or_le 0 (crs (l.getD i (0, 0)) (nxt l i) p) with h | h
    · exact h
    · rw [on_at hi (on_up (up_iff.1 up) (by omega))] at hoff; cases hoff
  have := sum_ix (wiT_1 up pos) (fun j hj hne => wiT_0 (by
    cases hu : upB (l.getD j (0, 0)) (nxt l j) p
    · rfl
    · exact absurd (up_one c hj hi hu up) hne) (ha j hj)) l.length (Nat.le_refl _)
  rw [this, if_pos hi]
theorem wind_out {l : List (Int × Int)} {p : Int × Int} (c : Cvx l) (h : wiS l p l.length = 1) : ∀ i, i < l.length → 0 ≤ crs (l.getD i (0, 0)) (nxt l i) p := by
  obtain ⟨i, hi, hp⟩ : ∃ i, i < l.length ∧ 0 < wiT (l.getD i (0, 0)) (nxt l i) p := by
    cases hd : decide (∃ i, i < l.length ∧ 0 < wiT (l.getD i (0, 0)) (nxt l i) p)
    · have := of_decide_eq_false hd
      have := sum_le (l := l) (p := p) l.length (fun j hj => by
        rcases Int.lt_or_le 0 (wiT (l.getD j (0, 0)) (nxt l j) p) with g | g
        · exact absurd ⟨j, hj, g⟩ this
        · exact g)
      omega
    · exact of_decide_eq_true hd
  obtain ⟨up, pos⟩ := wiT_up hp
  have others : ∀ j, j < l.length → j ≠ i → wiT (l.getD j (0, 0)) (nxt l j) p ≤ 0 := fun j hj hne => wiT_np (by
    cases hu : upB (l.getD j (0, 0)) (nxt l j) p
    · rfl
    · exact absurd (up_one c hj hi hu up) hne)
  have zero : ∀ j, j < l.length → j ≠ i → wiT (l.getD j (0, 0)) (nxt l j) p = 0 := fun j hj hne => by
    have s := sum_two hne others l.length (Nat.le_refl _)
    rw [if_pos hi, if_pos hj, h] at s
    have := others j hj hne
    omega
  have u := up_iff.1 up
  have mi : (i + 1) % l.length < l.length := Nat.mod_lt _ (by omega)
  obtain ⟨k, hk, f1, f2⟩ := cyc_end (fun i => decide (p.2 < (l.getD i (0, 0)).2)) mi hi (decide_eq_true (by rw [nxt_ge] at u; exact u.2)) (decide_eq_false (by omega))
  have dn : dnB (l.getD k (0, 0)) (nxt l k) p = true := by
    rw [dn_iff, nxt_ge]
    have := of_decide_eq_true f1
    have := of_decide_eq_false f2
    omega
  have d := dn_iff.1 dn
  have kne : k ≠ i := fun e => by rw [e] at d; omega
  have be := wiT_dn dn (zero k hk kne)
  intro j hj
  have mk : (k + 1) % l.length < l.length := Nat.mod_lt _ (by omega)
  have l1 := c.left j hj _ (mem_at hi)
  have l2 := c.left j hj (nxt l i) (by rw [nxt_ge]; exact mem_at mi)
  have l3 := c.left j hj _ (mem_at hk)
  have l4 := c.left j hj (nxt l k) (by rw [nxt_ge]; exact mem_at mk)
  have id := row_mid (l.getD j (0, 0)) (nxt l j) (l.getD i (0, 0)) (nxt l i) (l.getD k (0, 0)) (nxt l k) p
  generalize l.getD i (0, 0) = a at *
  generalize nxt l i = b at *
  generalize l.getD k (0, 0) = cc at *
  generalize nxt l k = dd at *
  generalize l.getD j (0, 0) = e at *
  generalize nxt l j = f at *
  have t1 := Int.mul_nonneg (show 0 ≤ p.2 - dd.2 by omega) l3
  have t2 := Int.mul_nonneg (show 0 ≤ cc.2 - p.2 by omega) l4
  have t3 := Int.mul_nonneg (show 0 ≤ b.2 - p.2 by omega) l1
  have t4 := Int.mul_nonneg (show 0 ≤ p.2 - a.2 by omega) l2
  have s1 := Int.mul_nonneg (Int.le_of_lt pos) (show 0 ≤ (p.2 - dd.2) * crs e f cc + (cc.2 - p.2) * crs e f dd by omega)
  have s2 := Int.mul_nonneg be (show 0 ≤ (b.2 - p.2) * crs e f a + (p.2 - a.2) * crs e f b by omega)
  have w1 := Int.mul_pos pos (show 0 < cc.2 - dd.2 by omega)
  have w2 := Int.mul_nonneg be (show 0 ≤ b.2 - a.2 by omega)
  refine nn_of_mul (k := crs a b p * (cc.2 - dd.2) + crs cc dd p * (b.2 - a.2)) (by omega) ?_
  rw [Int.mul_comm, id]
  omega
/-- Within or on it, just where it is on it, or once round. -/
theorem cvx_has {l : List (Int × Int)} (c : Cvx l) (p : Int × Int) : haK l p l.length = (onK l p l.length || (wiS l p l.length == 1)) := by
  cases ho : onK l p l.length
  · rw [Bool.false_or, Bool.eq_iff_iff, ha_iff]
    simp only [beq_iff_eq]
    exact ⟨fun h => wind_in c h ho, fun h => wind_out c h⟩
  · rw [Bool.true_or, ha_iff]
    obtain ⟨i, hi, on⟩ := on_ex _ ho
    intro j hj
    exact seg_left (c.left j hj _ (mem_at hi)) (c.left j hj _ (by rw [nxt_ge]; exact mem_at (Nat.mod_lt _ (by omega)))) on
/-- What the law asks of a way and a point that are told true. -/
theorem convex_facts (l : List (Int × Int)) (p : Int × Int) : hpB l p = true → gWP l p = true ∧ offB l p = !(ooV l p) ∧ hpV l p = (ooV l p || (wnV l p == 1)) ∧ cnV l = true ∧ wayB l = true ∧ isV l = true := by
  intro h
  have h' := h
  unfold hpB at h'
  rw [Bool.and_eq_true, Bool.and_eq_true] at h'
  obtain ⟨⟨hw, hg⟩, hc⟩ := h'
  have c := cvx_of hw hc
  have g : gWP l p = true := by unfold gWP; rw [hw, hg]; rfl
  have eo : ooV l p = onK l p l.length := by unfold ooV; rw [if_pos g]
  have ef : offB l p = !(onK l p l.length) := by unfold offB; rw [g, Bool.true_and]
  refine ⟨g, by rw [ef, eo], ?_, by unfold cnV; rw [if_pos hw]; exact hc, hw, ?_⟩
  · have ep : hpV l p = haK l p l.length := by unfold hpV; rw [if_pos h]
    rw [ep, eo, cvx_has c p]
    unfold wnV
    rw [ef]
    cases onK l p l.length
    · rfl
    · rfl
  · unfold isV
    rw [if_pos hw, ← si_eq c.n3]
    exact cvx_simple c
/-- An order. -/
theorem less_facts (a b : Int × Int) : leB a b = true → leB b a = true ∧ (leV a b && leV b a) = false ∧ (leV a b || leV b a || decide (a = b)) = true := by
  intro h
  have h2 : leB b a = true := by unfold leB at *; rw [Bool.and_comm]; exact h
  have e1 : leV a b = ltP a b := by unfold leV; rw [if_pos h]
  have e2 : leV b a = ltP b a := by unfold leV; rw [if_pos h2]
  rw [e1, e2]
  refine ⟨h2, ?_, ?_⟩
  · cases h3 : ltP a b
    · rfl
    · cases h4 : ltP b a
      · rfl
      · have := ltP_trans h3 h4; rw [ltP_irr] at this; cases this
  · cases h3 : ltP a b
    · cases h5 : decide (a = b)
      · rw [ltP_tri h3 (of_decide_eq_false h5)]; rfl
      · simp
    · rfl
end Go.Proofs.Ytgoiodhofbkkdaa
