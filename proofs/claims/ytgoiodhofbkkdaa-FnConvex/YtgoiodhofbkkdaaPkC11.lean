/- Hulls: plain mathematics: how many corners there are, and how wide it is. No condition beyond those typed. -/
import Derived.Test.YtgoiodhofbkkdaaPkB11
import Derived.Test.YtgoiodhofbkkdaaWi10
namespace Go.Proofs.Ytgoiodhofbkkdaa
open Go.RowKit
set_option linter.unusedVariables false
set_option maxRecDepth 100000
set_option linter.unusedSimpArgs false

/-- Two arrows: how the second one turns. -/
def crv (u v : Int × Int) : Int := u.1 * v.2 - u.2 * v.1
def dv (a b : Int × Int) : Int × Int := (b.1 - a.1, b.2 - a.2)
def lex (u : Int × Int) : Prop := 0 < u.1 ∨ (u.1 = 0 ∧ 0 < u.2)
theorem crv_id (u v w : Int × Int) : crv u v * w.1 + crv v w * u.1 + crv w u * v.1 = 0 := by unfold crv; grind
theorem crv_neg (u v : Int × Int) : crv v u = - crv u v := by unfold crv; grind
theorem lex_nn {u : Int × Int} (h : lex u) : 0 ≤ u.1 := by rcases h with h | h <;> omega
theorem pos_of_mul {a b : Int} (ha : 0 ≤ a) (h : 0 < a * b) : 0 < b := by
  rcases Int.lt_trichotomy b 0 with h1 | h1 | h1
  · have := Int.mul_nonpos_of_nonneg_of_nonpos ha (Int.le_of_lt h1)
    omega
  · rw [h1, Int.mul_zero] at h; omega
  · exact h1
theorem crv_le {u v w : Int × Int} (hu : lex u) (hv : lex v) (hw : lex w) (h1 : 0 ≤ crv u v) (h2 : 0 ≤ crv v w) : 0 ≤ crv u w := by
  rcases Int.lt_or_le (crv u w) 0 with h | h
  · exfalso
    have hc : 0 < crv w u := by rw [crv_neg u w]; omega
    have id := crv_id u v w
    have a1 := Int.mul_nonneg h1 (lex_nn hw)
    have a2 := Int.mul_nonneg h2 (lex_nn hu)
    have a3 := Int.mul_nonneg (Int.le_of_lt hc) (lex_nn hv)
    rcases hv with hv | ⟨hv, hv2⟩
    · have := Int.mul_pos hc hv; omega
    · have e2 : crv v w = - (v.2 * w.1) := by unfold crv; rw [hv]; grind
      have b1 := Int.mul_nonneg (Int.le_of_lt hv2) (lex_nn hw)
      rcases hw with hw | ⟨hw, hw2⟩
      · have := Int.mul_pos hv2 hw; omega
      · have e3 : crv u w = u.1 * w.2 := by unfold crv; rw [hw]; grind
        have := Int.mul_nonneg (lex_nn hu) (Int.le_of_lt hw2)
        omega
  · exact h
theorem crv_lt1 {u v w : Int × Int} (hu : lex u) (hv : lex v) (hw : lex w) (h1 : 0 < crv u v) (h2 : 0 ≤ crv v w) : 0 < crv u w := by
  rcases Int.lt_or_le 0 (crv u w) with h | h
  · exact h
  · exfalso
    have hc : 0 ≤ crv w u := by rw [crv_neg u w]; omega
    have id := crv_id u v w
    have a1 := Int.mul_nonneg (Int.le_of_lt h1) (lex_nn hw)
    have a2 := Int.mul_nonneg h2 (lex_nn hu)
    have a3 := Int.mul_nonneg hc (lex_nn hv)
    rcases hw with hw | ⟨hw, hw2⟩
    · have := Int.mul_pos h1 hw; omega
    · have e3 : crv u w = u.1 * w.2 := by unfold crv; rw [hw]; grind
      rcases hu with hu | ⟨hu, hu2⟩
      · have := Int.mul_pos hu hw2; omega
      · have e1 : crv u v = - (u.2 * v.1) := by unfold crv; rw [hu]; grind
        have := Int.mul_nonneg (Int.le_of_lt hu2) (lex_nn hv)
        omega
theorem crv_lt2 {u v w : Int × Int} (hu : lex u) (hv : lex v) (hw : lex w) (h1 : 0 ≤ crv u v) (h2 : 0 < crv v w) : 0 < crv u w := by
  rcases Int.lt_or_le 0 (crv u w) with h | h
  · exact h
  · exfalso
    have hc : 0 ≤ crv w u := by rw [crv_neg u w]; omega
    have id := crv_id u v w
    have a1 := Int.mul_nonneg h1 (lex_nn hw)
    have a2 := Int.mul_nonneg (Int.le_of_lt h2) (lex_nn hu)
    have a3 := Int.mul_nonneg hc (lex_nn hv)
    rcases hu with hu | ⟨hu, hu2⟩
    · have := Int.mul_pos h2 hu; omega
    · have e1 : crv u v = - (u.2 * v.1) := by unfold crv; rw [hu]; grind
      have b1 := Int.mul_nonneg (Int.le_of_lt hu2) (lex_nn hv)
      rcases hv with hv | ⟨hv, hv2⟩
      · have := Int.mul_pos hu2 hv; omega
      · have e2 : crv v w = - (v.2 * w.1) := by unfold crv; rw [hv]; grind
        have := Int.mul_nonneg (Int.le_of_lt hv2) (lex_nn hw)
        omega
theorem lex_dv {a b : Int × Int} (h : ltP a b = true) : lex (dv a b) := by
  rw [ltP_iff] at h
  unfold lex dv
  simp only
  omega
theorem crs_1 (a b c : Int × Int) : crs a b c = crv (dv a b) (dv a c) := by unfold crs crv dv; rfl
theorem crs_2 (a b c : Int × Int) : crs a b c = crv (dv a b) (dv b c) := by unfold crs crv dv; grind
theorem crs_3 (a b c : Int × Int) : crs a b c = crv (dv c b) (dv a b) := by unfold crs crv dv; grind
theorem crs_4 (a b c : Int × Int) : crs a b c = crv (dv c a) (dv a b) := by unfold crs crv dv; grind
theorem crs_sw (a b c : Int × Int) : crs a c b = - crs a b c := by unfold crs; grind
theorem crs_rot (a b c : Int × Int) : crs b c a = crs a b c := by unfold crs; grind
theorem crs_aa (a b : Int × Int) : crs a b a = 0 := by unfold crs; grind
theorem crs_bb (a b : Int × Int) : crs a b b = 0 := by unfold crs; grind
theorem crs_add (a b c p : Int × Int) : crs a b p = crs a b c + crv (dv a b) (dv c p) := by unfold crs crv dv; grind
theorem sg_le (k : Int) : sgZ k ≤ 0 ↔ k ≤ 0 := by unfold sgZ; split <;> (try split) <;> omega
/-- Each three turn left (the last one first). -/
def Trn : List (Int × Int) → Prop
  | t :: q :: r :: s => 0 < crs r q t ∧ Trn (q :: r :: s)
  | _ => True
/-- All these points are left of each edge. -/
def Edg (A : List (Int × Int)) : List (Int × Int) → Prop
  | q :: r :: s => (∀ x ∈ A, 0 ≤ crs r q x) ∧ Edg A (r :: s)
  | _ => True
def Fal (s : List (Int × Int)) : Prop := s.Pairwise (fun a b => ltP b a = true)
theorem Trn.tail {t : Int × Int} {s : List (Int × Int)} (h : Trn (t :: s)) : Trn s := by
  match s, h with
  | [], _ => trivial
  | [_], _ => trivial
  | q :: r :: s, h => exact h.2
theorem Edg.tail {A : List (Int × Int)} {t : Int × Int} {s : List (Int × Int)} (h : Edg A (t :: s)) : Edg A s := by
  match s, h with
  | [], _ => trivial
  | q :: s, h => exact h.2
/-- What is left when a point comes: all that came are left of the new edge. -/
theorem pop_ok {A : List (Int × Int)} {p : Int × Int} (hp : ∀ x ∈ A, ltP x p = true) : ∀ (s : List (Int × Int)) (q : Int × Int), Edg A (q :: s) → Trn (q :: s) → Fal (q :: s) → (∀ x ∈ q :: s, x ∈ A) → (∀ b, (q :: s).getLast? = some b → ∀ x ∈ A, ltP x b = false) → (∀ x ∈ A, ltP q x = true → 0 ≤ crs q p x) →
    ∃ q' s', popP p (q :: s) = q' :: s' ∧ Edg A (q' :: s') ∧ Trn (p :: q' :: s') ∧ Fal (q' :: s') ∧ (∀ x ∈ q' :: s', x ∈ q :: s) ∧ (q' :: s').getLast? = (q :: s).getLast? ∧ ∀ x ∈ A, 0 ≤ crs q' p x
  | [], q, hE, hT, hD, hS, hB, hH => by
    refine ⟨q, [], rfl, hE, trivial, hD, fun x h => h, rfl, fun x hx => ?_⟩
    cases hl : ltP q x
    · have := hB q rfl x hx
      have e : x = q := by
        cases hd : decide (x = q)
        · have := ltP_tri this (of_decide_eq_false hd); rw [hl] at this; cases this
        · exact of_decide_eq_true hd
      rw [e, crs_aa]; exact Int.le_refl _
    · exact hH x hx hl
  | r :: t, q, hE, hT, hD, hS, hB, hH => by
    have hrq : ltP r q = true := (List.pairwise_cons.1 hD).1 r (by simp)
    have hqA := hS q (by simp)
    have hrA := hS r (by simp)
    by_cases hc : sgZ (crs r q p) ≤ 0
    · have hc' := (sg_le _).1 hc
      obtain ⟨q', s', e, h1, h2, h3, h4, h5, h6⟩ := pop_ok hp t r hE.tail hT.tail (List.pairwise_cons.1 hD).2 (fun x hx => hS x (List.mem_cons_of_mem _ hx)) (fun b hb => hB b (by rw [List.getLast?_cons_cons]; exact hb)) (fun x hx hl => by
        rw [crs_1]
        refine crv_le (v := dv r q) (lex_dv (hp r hrA)) (lex_dv hrq) (lex_dv hl) ?_ ?_
        · rw [← crs_1, crs_sw]; omega
        · rw [← crs_1]; exact hE.1 x hx)
      exact ⟨q', s', by rw [popP, if_pos hc]; exact e, h1, h2, h3, fun x hx => List.mem_cons_of_mem _ (h4 x hx), by rw [h5, List.getLast?_cons_cons], h6⟩
    · have hc' : 0 < crs r q p := by have := mt (sg_le _).2 hc; omega
      refine ⟨q, r :: t, by rw [popP, if_neg hc], hE, ⟨hc', hT⟩, hD, fun x h => h, rfl, fun x hx => ?_⟩
      cases hl : ltP q x
      · cases hd : decide (x = q)
        · have hxq : ltP x q = true := ltP_tri hl (fun e => of_decide_eq_false hd e.symm)
          rw [crs_4]
          exact crv_le (v := dv r q) (lex_dv hxq) (lex_dv hrq) (lex_dv (hp q hqA)) (by rw [← crs_3]; exact hE.1 x hx) (by rw [← crs_2]; omega)
        · rw [of_decide_eq_true hd, crs_aa]; exact Int.le_refl _
      · exact hH x hx hl
/-- The new point is left of the edges that stay. -/
theorem edg_new {p : Int × Int} : ∀ (s : List (Int × Int)) (c b : Int × Int), 0 ≤ crs b c p → ltP c p = true → Trn (c :: b :: s) → Fal (c :: b :: s) → Edg [p] (c :: b :: s)
  | [], c, b, h, hp, _, _ => ⟨fun x hx => by rw [List.mem_singleton.1 hx]; exact h, trivial⟩
  | a :: s, c, b, h, hp, hT, hD => by
    have hbc : ltP b c = true := (List.pairwise_cons.1 hD).1 b (by simp)
    have hab : ltP a b = true := (List.pairwise_cons.1 (List.pairwise_cons.1 hD).2).1 a (by simp)
    refine ⟨fun x hx => by rw [List.mem_singleton.1 hx]; exact h, edg_new s b a ?_ (ltP_trans hbc hp) hT.2 (List.pairwise_cons.1 hD).2⟩
    have h2 : 0 < crv (dv a b) (dv c p) := crv_lt1 (v := dv b c) (lex_dv hab) (lex_dv hbc) (lex_dv hp) (by rw [← crs_2]; exact hT.1) (by rw [← crs_2]; exact h)
    have := crs_add a b c p
    have := hT.1
    omega
theorem edg_join {A B : List (Int × Int)} : ∀ {s : List (Int × Int)}, Edg A s → Edg B s → Edg (A ++ B) s
  | [], _, _ => trivial
  | [_], _, _ => trivial
  | q :: r :: s, h, k => ⟨fun x hx => by rcases List.mem_append.1 hx with hx | hx; exact h.1 x hx; exact k.1 x hx, edg_join h.2 k.2⟩
/-- What a chain is. -/
structure Chn (A s : List (Int × Int)) : Prop where
  e : Edg A s
  t : Trn s
  f : Fal s
  m : ∀ x ∈ s, x ∈ A
  top : s.head? = A.getLast?
  bot : s.getLast? = A.head?
theorem rise_snoc {A : List (Int × Int)} {p : Int × Int} (h : Rise (A ++ [p])) : Rise A ∧ ∀ x ∈ A, ltP x p = true := by
  unfold Rise at h
  rw [List.pairwise_append] at h
  exact ⟨h.1, fun x hx => h.2.2 x hx p (by simp)⟩
theorem rise_last {A : List (Int × Int)} {q : Int × Int} (h : Rise A) (hq : A.getLast? = some q) : ∀ x ∈ A, ltP q x = false := by
  rcases List.eq_nil_or_concat A with rfl | ⟨B, p, rfl⟩
  · cases hq
  · rw [List.concat_eq_append] at h hq ⊢

    simp at hq
    subst hq
    intro x hx
    rcases List.mem_append.1 hx with hx | hx
    · cases hl : ltP p x
      · rfl
      · have := ltP_trans hl ((rise_snoc h).2 x hx)
        rw [ltP_irr] at this
        cases this
    · rw [List.mem_singleton.1 hx]; exact ltP_irr _
theorem rise_first {A : List (Int × Int)} {b : Int × Int} (h : Rise A) (hb : A.head? = some b) : ∀ x ∈ A, ltP x b = false := by
  match A, hb with
  | a :: t, hb =>
    simp at hb
    subst hb
    intro x hx
    rcases List.mem_cons.1 hx with rfl | hx
    · exact ltP_irr _
    · have k := (List.pairwise_cons.1 h).1 x hx
      cases hl : ltP x a
      · rfl
      · have := ltP_trans k hl
        rw [ltP_irr] at this
        cases this
theorem chn_all : ∀ (n : Nat) (A : List (Int × Int)), A.length = n → Rise A → A ≠ [] → Chn A (chR A)
  | 0, A, hn, _, h => absurd (List.length_eq_zero_iff.1 hn) h
  | n + 1, A, hn, hr, h => by
    rcases List.eq_nil_or_concat A with rfl | ⟨B, p, rfl⟩
    · exact absurd rfl h
    · rw [List.concat_eq_append] at hn hr h ⊢
      obtain ⟨hrB, hp⟩ := rise_snoc hr
      by_cases hB : B = []
      · subst hB
        exact ⟨trivial, trivial, by simp [Fal, chR, popP], fun x hx => by simpa [chR, popP] using hx, rfl, rfl⟩
      · have c := chn_all n B (by simp at hn; exact hn) hrB hB
        rw [chR_snoc]
        match hs : chR B, chR_ne hB, c with
        | q :: s, _, c =>
          obtain ⟨q', s', e, h1, h2, h3, h4, h5, h6⟩ := pop_ok hp s q c.e c.t c.f c.m (fun b hb => rise_first hrB (by rw [← c.bot]; exact hb)) (fun x hx hl => by
            have := rise_last hrB (by rw [← c.top]; rfl) x hx
            rw [hl] at this
            cases this)
          rw [e]
          have hq'A : q' ∈ B := c.m q' (h4 q' (by simp))
          refine ⟨?_, h2, ?_, ?_, ?_, ?_⟩
          · refine ⟨fun x hx => ?_, ?_⟩
            · rcases List.mem_append.1 hx with hx | hx
              · exact h6 x hx
              · rw [List.mem_singleton.1 hx, crs_bb]; exact Int.le_refl _
            · refine edg_join h1 ?_
              match s', h2, h3 with
              | [], _, _ => trivial
              | b :: t, h2, h3 => exact edg_new t q' b (Int.le_of_lt h2.1) (hp q' hq'A) h2.2 h3
          · exact List.pairwise_cons.2 ⟨fun x hx => hp x (c.m x (h4 x hx)), h3⟩
          · intro x hx
            rcases List.mem_cons.1 hx with rfl | hx
            · simp
            · exact List.mem_append_left _ (c.m x (h4 x hx))
          · simp
          · rw [List.getLast?_cons_cons, h5, c.bot]
            match B, hB with
            | b :: t, _ => rfl
end Go.Proofs.Ytgoiodhofbkkdaa
namespace Go.Proofs.Ytgoiodhofbkkdaa
open Go.RowKit
set_option linter.unusedVariables false
set_option maxRecDepth 100000
set_option linter.unusedSimpArgs false

/-- Forward: all these points are left of each edge. -/
def EdF (A : List (Int × Int)) : List (Int × Int) → Prop
  | a :: b :: s => (∀ x ∈ A, 0 ≤ crs a b x) ∧ EdF A (b :: s)
  | _ => True
def TrF : List (Int × Int) → Prop
  | a :: b :: c :: s => 0 < crs a b c ∧ TrF (b :: c :: s)
  | _ => True
theorem edf_snoc {A : List (Int × Int)} {r q : Int × Int} (h2 : ∀ x ∈ A, 0 ≤ crs r q x) : ∀ {L : List (Int × Int)}, EdF A (L ++ [r]) → EdF A ((L ++ [r]) ++ [q])
  | [], _ => ⟨h2, trivial⟩
  | [a], h => ⟨h.1, h2, trivial⟩
  | a :: b :: L, h => ⟨h.1, edf_snoc h2 (L := b :: L) h.2⟩
theorem trf_snoc {r q t : Int × Int} (h2 : 0 < crs r q t) : ∀ {L : List (Int × Int)}, TrF ((L ++ [r]) ++ [q]) → TrF (((L ++ [r]) ++ [q]) ++ [t])
  | [], _ => ⟨h2, trivial⟩
  | [a], h => ⟨h.1, h2, trivial⟩
  | [a, b], h => ⟨h.1, h.2.1, h2, trivial⟩
  | a :: b :: c :: L, h => ⟨h.1, trf_snoc h2 (L := b :: c :: L) h.2⟩
theorem edf_of {A : List (Int × Int)} : ∀ {s : List (Int × Int)}, Edg A s → EdF A s.reverse
  | [], _ => trivial
  | [_], _ => trivial
  | q :: r :: t, h => by
    have ih := edf_of h.2
    rw [List.reverse_cons] at ih
    rw [List.reverse_cons, List.reverse_cons]
    exact edf_snoc h.1 ih
theorem trf_of : ∀ {s : List (Int × Int)}, Trn s → TrF s.reverse
  | [], _ => trivial
  | [_], _ => trivial
  | [_, _], _ => trivial
  | t :: q :: r :: s, h => by
    have ih := trf_of h.2
    rw [List.reverse_cons, List.reverse_cons] at ih
    rw [List.reverse_cons, List.reverse_cons, List.reverse_cons]
    exact trf_snoc h.1 ih
theorem edf_at {A : List (Int × Int)} : ∀ {C : List (Int × Int)}, EdF A C → ∀ i, i + 1 < C.length → ∀ x ∈ A, 0 ≤ crs (C.getD i (0, 0)) (C.getD (i + 1) (0, 0)) x
  | [], _, i, hi, _, _ => by simp at hi
  | [_], _, i, hi, _, _ => by simp at hi
  | a :: b :: s, h, 0, _, x, hx => h.1 x hx
  | a :: b :: s, h, i + 1, hi, x, hx => by
    have := edf_at h.2 i (by simp at hi ⊢; omega) x hx
    simpa using this
theorem edf_sub {A B : List (Int × Int)} (hb : ∀ x ∈ B, x ∈ A) : ∀ {C : List (Int × Int)}, EdF A C → EdF B C
  | [], _ => trivial
  | [_], _ => trivial
  | a :: b :: s, h => ⟨fun x hx => h.1 x (hb x hx), edf_sub hb h.2⟩
/-- A chain from the first one to the last one. -/
structure Vld (T C : List (Int × Int)) : Prop where
  e : EdF T C
  t : TrF C
  r : Rise C
  m : ∀ x ∈ C, x ∈ T
theorem fal_rev {s : List (Int × Int)} (h : Fal s) : Rise s.reverse := by
  unfold Rise
  rw [List.pairwise_reverse]
  exact h
theorem vld_chain {A : List (Int × Int)} (hr : Rise A) (h : A ≠ []) : Vld A (chainP A) ∧ (chainP A).head? = A.head? ∧ (chainP A).getLast? = A.getLast? := by
  have c := chn_all A.length A rfl hr h
  unfold chainP
  exact ⟨⟨edf_of c.e, trf_of c.t, fal_rev c.f, fun x hx => c.m x (List.mem_reverse.1 hx)⟩, by rw [List.head?_reverse, c.bot], by rw [List.getLast?_reverse, c.top]⟩
/-- There is one chain. -/
theorem vld_one {T : List (Int × Int)} : ∀ (C D : List (Int × Int)), Vld T C → Vld T D → C.head? = D.head? → C.getLast? = D.getLast? → C = D
  | [], [], _, _, _, _ => rfl
  | [], d :: D, _, _, h, _ => by simp at h
  | c :: C, [], _, _, h, _ => by simp at h
  | [a], [b], _, _, h, _ => by simp at h; rw [h]
  | [a], b :: b' :: D, hc, hd, h, hl => by
    exfalso
    simp at h
    subst h
    have hm : (a :: b' :: D).getLast? = some a := hl.symm
    rw [List.getLast?_cons_cons] at hm
    have : a ∈ b' :: D := List.mem_of_getLast? hm
    have := (List.pairwise_cons.1 hd.r).1 a this
    rw [ltP_irr] at this
    cases this
  | a :: a' :: C, [b], hc, hd, h, hl => by
    exfalso
    simp at h
    subst h
    have hm : (a :: a' :: C).getLast? = some a := hl
    rw [List.getLast?_cons_cons] at hm
    have : a ∈ a' :: C := List.mem_of_getLast? hm
    have := (List.pairwise_cons.1 hc.r).1 a this
    rw [ltP_irr] at this
    cases this
  | a :: b :: C, a' :: b' :: D, hc, hd, h, hl => by
    have key : ∀ (b b' a : Int × Int) (C D : List (Int × Int)), Vld T (a :: b :: C) → Vld T (a :: b' :: D) → (a :: b :: C).getLast? = (a :: b' :: D).getLast? → ltP b b' = true → False := by
      intro b b' a C D hc hd hl hlt
      have hab : ltP a b = true := (List.pairwise_cons.1 hc.r).1 b (by simp)
      have z1 := hc.e.1 b' (hd.m b' (by simp))
      have z2 := hd.e.1 b (hc.m b (by simp))
      have z3 := crs_sw a b b'
      match C, hc, hl with
      | [], hc, hl =>
        rw [List.getLast?_cons_cons, List.getLast?_cons_cons] at hl
        have : b ∈ b' :: D := List.mem_of_getLast? (hl.symm.trans rfl)
        rcases List.mem_cons.1 this with e | hm
        · rw [e, ltP_irr] at hlt; cases hlt
        · have k := (List.pairwise_cons.1 (List.pairwise_cons.1 hd.r).2).1 b hm
          have := ltP_trans hlt k
          rw [ltP_irr] at this; cases this
      | c :: C, hc, hl =>
        have hbc : ltP b c = true := (List.pairwise_cons.1 (List.pairwise_cons.1 hc.r).2).1 c (by simp)
        have y := crv_lt1 (u := dv a b) (v := dv b c) (w := dv b b') (lex_dv hab) (lex_dv hbc) (lex_dv hlt) (by rw [← crs_2]; exact hc.t.1) (by rw [← crs_1]; exact hc.e.2.1 b' (hd.m b' (by simp)))
        rw [← crs_2] at y
        omega
    simp at h
    subst h
    have e : b = b' := by
      cases h1 : ltP b b'
      · cases hd' : decide (b = b')
        · exact (key b' b a D C hd hc hl.symm (ltP_tri h1 (of_decide_eq_false hd'))).elim
        · exact of_decide_eq_true hd'
      · exact (key b b' a C D hc hd hl h1).elim
    subst e
    have tt : ∀ {a b : Int × Int} {C : List (Int × Int)}, TrF (a :: b :: C) → TrF (b :: C) := by
      intro a b C h
      match C, h with
      | [], _ => trivial
      | c :: C, h => exact h.2
    have := vld_one (b :: C) (b :: D) ⟨hc.e.2, tt hc.t, (List.pairwise_cons.1 hc.r).2, fun x hx => hc.m x (List.mem_cons_of_mem _ hx)⟩ ⟨hd.e.2, tt hd.t, (List.pairwise_cons.1 hd.r).2, fun x hx => hd.m x (List.mem_cons_of_mem _ hx)⟩ rfl (by rw [List.getLast?_cons_cons, List.getLast?_cons_cons] at hl; exact hl)
    rw [this]
/-- The other way round. -/
def ngP (p : Int × Int) : Int × Int := (-p.1, -p.2)
theorem ng_ng (p : Int × Int) : ngP (ngP p) = p := by unfold ngP; simp
theorem ng_crs (a b c : Int × Int) : crs (ngP a) (ngP b) (ngP c) = crs a b c := by unfold crs ngP; grind
theorem ng_lt (a b : Int × Int) : ltP (ngP a) (ngP b) = ltP b a := by
  rw [Bool.eq_iff_iff, ltP_iff, ltP_iff]
  unfold ngP
  simp only
  omega
theorem ng_pop (p : Int × Int) : ∀ s : List (Int × Int), popP (ngP p) (s.map ngP) = (popP p s).map ngP
  | [] => rfl
  | [_] => rfl
  | q :: r :: s => by
    have ih := ng_pop p (r :: s)
    show popP (ngP p) (ngP q :: ngP r :: s.map ngP) = _
    rw [popP, popP, ng_crs]
    split
    · exact ih
    · rfl
theorem ng_fold : ∀ (l s : List (Int × Int)), (l.map ngP).foldl (fun s p => p :: popP p s) (s.map ngP) = (l.foldl (fun s p => p :: popP p s) s).map ngP
  | [], s => rfl
  | p :: l, s => by
    rw [List.map_cons, List.foldl_cons, List.foldl_cons, ng_pop, ← List.map_cons, ng_fold l]
theorem ng_chain (l : List (Int × Int)) : chainP (l.map ngP) = (chainP l).map ngP := by
  unfold chainP chR
  rw [show ([] : List (Int × Int)) = ([] : List (Int × Int)).map ngP from rfl, ng_fold, List.map_reverse]
  rfl
theorem ng_rise {l : List (Int × Int)} (h : Rise l) : Rise (l.reverse.map ngP) := by
  unfold Rise
  rw [List.pairwise_map, List.pairwise_reverse]
  exact h.imp (fun hab => by rw [ng_lt]; exact hab)
theorem ng_mem {l : List (Int × Int)} {x : Int × Int} : ngP x ∈ l.map ngP ↔ x ∈ l := by
  constructor
  · intro h
    obtain ⟨y, hy, e⟩ := List.mem_map.1 h
    have := congrArg ngP e
    rw [ng_ng, ng_ng] at this
    rw [← this]; exact hy
  · exact fun h => List.mem_map_of_mem h
theorem ng_inj {l m : List (Int × Int)} (h : l.map ngP = m.map ngP) : l = m := by
  have := congrArg (List.map ngP) h
  simpa [List.map_map, Function.comp_def, ng_ng] using this
end Go.Proofs.Ytgoiodhofbkkdaa
namespace Go.Proofs.Ytgoiodhofbkkdaa
open Go.RowKit
set_option linter.unusedVariables false
set_option maxRecDepth 100000
set_option linter.unusedSimpArgs false

theorem last_some {l : List (Int × Int)} (h : l ≠ []) : l.getLast? = some (l.getLast h) := by
  match l, h with
  | x :: t, _ => rfl
/-- Both sides of a hull. -/
structure Sds (S lo up : List (Int × Int)) (a b : Int × Int) : Prop where
  lv : Vld S lo
  uv : Vld (S.reverse.map ngP) (up.map ngP)
  sr : Rise S
  l2 : 2 ≤ lo.length
  u2 : 2 ≤ up.length
  l0 : lo.head? = some a
  l1 : lo.getLast? = some b
  u0 : up.head? = some b
  u1 : up.getLast? = some a
  s0 : S.head? = some a
  s1 : S.getLast? = some b
theorem map_head (up : List (Int × Int)) : (up.map ngP).head? = up.head?.map ngP := by simp
theorem map_last (up : List (Int × Int)) : (up.map ngP).getLast? = up.getLast?.map ngP := by simp
theorem two_of {S : List (Int × Int)} (hr : Rise S) (h2 : 2 ≤ S.length) : ∃ a b, Sds S (chainP S) (chainP S.reverse) a b := by
  have hne : S ≠ [] := fun e => by rw [e] at h2; simp at h2
  have hne' : S.reverse ≠ [] := by simpa using hne
  obtain ⟨a, ha⟩ : ∃ a, S.head? = some a := by
    match S, hne with
    | x :: t, _ => exact ⟨x, rfl⟩
  obtain ⟨b, hb⟩ : ∃ b, S.getLast? = some b := ⟨S.getLast hne, last_some hne⟩
  obtain ⟨v1, v2, v3⟩ := vld_chain hr hne
  obtain ⟨u1, u2, u3⟩ := vld_chain (ng_rise hr) (by simpa using hne)
  rw [ng_chain] at u1 u2 u3
  rw [map_head, map_head, List.head?_reverse, hb] at u2
  rw [map_last, map_last, List.getLast?_reverse, ha] at u3
  have inj : ∀ {o : Option (Int × Int)} {x : Int × Int}, o.map ngP = some (ngP x) → o = some x := by
    intro o x h
    cases o with
    | none => cases h
    | some y =>
      simp only [Option.map_some, Option.some.injEq] at h
      have := congrArg ngP h
      rw [ng_ng, ng_ng] at this
      rw [this]
  have long : ∀ L : List (Int × Int), 2 ≤ L.length → 2 ≤ (chainP L).length := by
    intro L hL
    match L, hL with
    | x :: y :: t, _ => exact chain_long x y t
  exact ⟨a, b, v1, u1, hr, long S h2, long S.reverse (by simpa using h2), by rw [v2]; exact ha, by rw [v3]; exact hb, inj u2, inj u3, ha, hb⟩
theorem getD_map (up : List (Int × Int)) (j : Nat) : (up.map ngP).getD j (0, 0) = ngP (up.getD j (0, 0)) := by
  rw [List.getD_eq_getElem?_getD, List.getD_eq_getElem?_getD, List.getElem?_map]
  cases up[j]? <;> rfl
theorem up_left {S lo up : List (Int × Int)} {a b : Int × Int} (h : Sds S lo up a b) (j : Nat) (hj : j + 1 < up.length) (x : Int × Int) (hx : x ∈ S) : 0 ≤ crs (up.getD j (0, 0)) (up.getD (j + 1) (0, 0)) x := by
  have := edf_at h.uv.e j (by simpa using hj) (ngP x) (ng_mem.2 (List.mem_reverse.2 hx))
  rw [getD_map, getD_map, ng_crs] at this
  exact this
theorem getD_head {l : List (Int × Int)} {a : Int × Int} (h : l.head? = some a) : l.getD 0 (0, 0) = a := by
  match l, h with
  | x :: t, h => simpa using h
theorem getD_last {l : List (Int × Int)} {b : Int × Int} {n : Nat} (h : l.getLast? = some b) (hn : l.length = n + 1) : l.getD n (0, 0) = b := by
  rw [List.getLast?_eq_getElem?, hn] at h
  rw [List.getD_eq_getElem?_getD]
  simp at h
  rw [h]; rfl
theorem hul_at {lo up : List (Int × Int)} {n1 n2 : Nat} (h1 : lo.length = n1 + 1) (h2 : up.length = n2 + 1) (i : Nat) : (i < n1 → (lo.dropLast ++ up.dropLast).getD i (0, 0) = lo.getD i (0, 0)) ∧ (i < n2 → (lo.dropLast ++ up.dropLast).getD (n1 + i) (0, 0) = up.getD i (0, 0)) := by
  have e1 : lo.dropLast.length = n1 := by simp [h1]
  have e2 : up.dropLast.length = n2 := by simp [h2]
  constructor
  · intro hi
    rw [List.getD_eq_getElem?_getD, List.getD_eq_getElem?_getD, List.getElem?_append_left (by omega), List.getElem?_dropLast, if_pos (by omega)]
  · intro hi
    rw [List.getD_eq_getElem?_getD, List.getD_eq_getElem?_getD, List.getElem?_append_right (by omega), e1, List.getElem?_dropLast, if_pos (by omega)]
    congr 2
    omega
/-- All points are left of each edge, once round. -/
theorem hull_left2 {S lo up : List (Int × Int)} {a b : Int × Int} (h : Sds S lo up a b) (i : Nat) (hi : i < (lo.dropLast ++ up.dropLast).length) (x : Int × Int) (hx : x ∈ S) :
    0 ≤ crs ((lo.dropLast ++ up.dropLast).getD i (0, 0)) (nxt (lo.dropLast ++ up.dropLast) i) x := by
  obtain ⟨n1, h1⟩ : ∃ n, lo.length = n + 1 := ⟨lo.length - 1, by have := h.l2; omega⟩
  obtain ⟨n2, h2⟩ : ∃ n, up.length = n + 1 := ⟨up.length - 1, by have := h.u2; omega⟩
  have q1 := h.l2
  have q2 := h.u2
  have hl : (lo.dropLast ++ up.dropLast).length = n1 + n2 := by simp [h1, h2]
  unfold nxt
  rw [hl] at hi ⊢
  by_cases hc : i < n1
  · rw [(hul_at h1 h2 i).1 hc, Nat.mod_eq_of_lt (by omega)]
    by_cases hd : i + 1 < n1
    · rw [(hul_at h1 h2 (i + 1)).1 hd]
      exact edf_at h.lv.e i (by omega) x hx
    · have e : i + 1 = n1 := by omega
      have k := (hul_at h1 h2 0).2 (by omega)
      rw [Nat.add_zero] at k
      rw [e, k, getD_head h.u0, ← getD_last h.l1 h1, ← e]
      exact edf_at h.lv.e i (by omega) x hx
  · obtain ⟨j, rfl⟩ : ∃ j, i = n1 + j := ⟨i - n1, by omega⟩
    rw [(hul_at h1 h2 j).2 (by omega)]
    by_cases hd : j + 1 < n2
    · rw [show n1 + j + 1 = n1 + (j + 1) by omega, Nat.mod_eq_of_lt (by omega), (hul_at h1 h2 (j + 1)).2 hd]
      exact up_left h j (by omega) x hx
    · have e : j + 1 = n2 := by omega
      rw [show n1 + j + 1 = n1 + n2 by omega, Nat.mod_self, (hul_at h1 h2 0).1 (by omega), getD_head h.l0, ← getD_last h.u1 h2, ← e]
      exact up_left h j (by omega) x hx
theorem mem_rev {l : List (Int × Int)} {b : Int × Int} (h : l.getLast? = some b) {x : Int × Int} (hx : x ∈ l) : x ∈ l.dropLast ∨ x = b := by
  have hne : l ≠ [] := fun e => by rw [e] at hx; cases hx
  rw [last_some hne] at h
  have e := List.dropLast_concat_getLast hne
  simp only [Option.some.injEq] at h
  rw [h] at e
  rw [← e] at hx
  rcases List.mem_append.1 hx with h | h
  · exact .inl h
  · exact .inr (List.mem_singleton.1 h)
theorem head_drop {l : List (Int × Int)} {a : Int × Int} (h : l.head? = some a) (h2 : 2 ≤ l.length) : a ∈ l.dropLast := by
  match l, h, h2 with
  | x :: y :: t, h, _ =>
    simp at h
    subst h
    simp [List.dropLast]
/-- The corners are all corners of both sides. -/
theorem hul_mem {S lo up : List (Int × Int)} {a b : Int × Int} (h : Sds S lo up a b) (x : Int × Int) : x ∈ lo.dropLast ++ up.dropLast ↔ x ∈ lo ∨ x ∈ up := by
  constructor
  · intro hx
    rcases List.mem_append.1 hx with hx | hx
    · exact .inl ((List.dropLast_sublist _).subset hx)
    · exact .inr ((List.dropLast_sublist _).subset hx)
  · rintro (hx | hx)
    · rcases mem_rev h.l1 hx with hx | rfl
      · exact List.mem_append_left _ hx
      · exact List.mem_append_right _ (head_drop h.u0 h.u2)
    · rcases mem_rev h.u1 hx with hx | rfl
      · exact List.mem_append_right _ hx
      · exact List.mem_append_left _ (head_drop h.l0 h.l2)
theorem hul_sub {S lo up : List (Int × Int)} {a b : Int × Int} (h : Sds S lo up a b) (x : Int × Int) (hx : x ∈ lo.dropLast ++ up.dropLast) : x ∈ S := by
  rcases (hul_mem h x).1 hx with hx | hx
  · exact h.lv.m x hx
  · exact List.mem_reverse.1 (ng_mem.1 (h.uv.m _ (ng_mem.2 hx)))
theorem same_head {T S : List (Int × Int)} {a : Int × Int} (ht : Rise T) (hs : Rise S) (ha : S.head? = some a) (haT : a ∈ T) (hsub : ∀ x ∈ T, x ∈ S) : T.head? = some a := by
  match T, ht, haT, hsub with
  | t :: T, ht, haT, hsub =>
    have h1 := rise_first hs ha t (hsub t (by simp))
    have h2 := rise_first ht rfl a haT
    cases hd : decide (t = a)
    · have := ltP_tri h1 (of_decide_eq_false hd)
      rw [h2] at this; cases this
    · rw [of_decide_eq_true hd]; rfl
theorem same_last {T S : List (Int × Int)} {b : Int × Int} (ht : Rise T) (hs : Rise S) (hb : S.getLast? = some b) (hbT : b ∈ T) (hsub : ∀ x ∈ T, x ∈ S) : T.getLast? = some b := by
  have hne : T ≠ [] := fun e => by rw [e] at hbT; cases hbT
  have hg : T.getLast? = some (T.getLast hne) := last_some hne
  have h1 := rise_last hs hb (T.getLast hne) (hsub _ (List.getLast_mem hne))
  have h2 := rise_last ht hg b hbT
  rw [hg]
  cases hd : decide (b = T.getLast hne)
  · have := ltP_tri h1 (of_decide_eq_false hd)
    rw [h2] at this; cases this
  · rw [← of_decide_eq_true hd]
/-- A hull is its own hull. -/
theorem hull_hull {S lo up : List (Int × Int)} {a b : Int × Int} (h : Sds S lo up a b) : hulV (lo.dropLast ++ up.dropLast) = lo.dropLast ++ up.dropLast := by
  have hmem : ∀ x, x ∈ sortP (lo.dropLast ++ up.dropLast) ↔ x ∈ lo ∨ x ∈ up := fun x => by rw [sortP_mem, hul_mem h]
  have hsub : ∀ x ∈ sortP (lo.dropLast ++ up.dropLast), x ∈ S := fun x hx => hul_sub h x (sortP_mem.1 hx)
  have hr := sortP_rise (lo.dropLast ++ up.dropLast)
  have am : a ∈ lo := by have := h.l0; match lo, this with | x :: t, e => simp at e; rw [e]; simp
  have bm : b ∈ lo := List.mem_of_getLast? h.l1
  have am' := (hmem a).2 (.inl am)
  have bm' := (hmem b).2 (.inl bm)
  generalize hT : sortP (lo.dropLast ++ up.dropLast) = T at *
  have hne : T ≠ [] := fun e => by rw [e] at am'; cases am'
  have th := same_head hr h.sr h.s0 am' hsub
  have tl := same_last hr h.sr h.s1 bm' hsub
  obtain ⟨v1, v2, v3⟩ := vld_chain hr hne
  have c1 : chainP T = lo := vld_one _ _ v1 ⟨edf_sub hsub h.lv.e, h.lv.t, h.lv.r, fun x hx => (hmem x).2 (.inl hx)⟩ (by rw [v2, th, h.l0]) (by rw [v3, tl, h.l1])
  obtain ⟨u1, u2, u3⟩ := vld_chain (ng_rise hr) (by simpa using hne)
  rw [ng_chain] at u1 u2 u3
  have c2 : chainP T.reverse = up := by
    apply ng_inj
    refine vld_one _ _ u1 ⟨edf_sub (A := S.reverse.map ngP) ?_ h.uv.e, h.uv.t, h.uv.r, ?_⟩ ?_ ?_
    · intro x hx
      obtain ⟨y, hy, rfl⟩ := List.mem_map.1 hx
      exact ng_mem.2 (List.mem_reverse.2 (hsub y (List.mem_reverse.1 hy)))
    · intro x hx
      obtain ⟨y, hy, rfl⟩ := List.mem_map.1 hx
      exact ng_mem.2 (List.mem_reverse.2 ((hmem y).2 (.inr hy)))
    · rw [u2, map_head, map_head, List.head?_reverse, tl, h.u0]
    · rw [u3, map_last, map_last, List.getLast?_reverse, th, h.u1]
  have hab : T.length ≠ 1 := by
    intro e
    match T, e, th, tl with
    | [x], _, th, tl =>
      simp at th tl
      have ll := h.l2
      have rr := h.lv.r
      have l0 := h.l0
      have l1 := h.l1
      match lo, ll, rr, l0, l1 with
      | p :: q :: t, _, rr, l0, l1 =>
        simp at l0
        rw [List.getLast?_cons_cons] at l1
        have := (List.pairwise_cons.1 rr).1 b (List.mem_of_getLast? l1)
        rw [l0, ← th, tl, ltP_irr] at this
        cases this
  rw [hul_pts (l := lo.dropLast ++ up.dropLast) (by rw [hT]; exact hne), hT, if_neg hab, c1, c2]
end Go.Proofs.Ytgoiodhofbkkdaa
namespace Go.Proofs.Ytgoiodhofbkkdaa
open Go.RowKit
set_option linter.unusedVariables false
set_option maxRecDepth 100000
set_option linter.unusedSimpArgs false

theorem rise_len : ∀ (S T : List (Int × Int)), Rise T → Rise S → (∀ x ∈ T, x ∈ S) → T.length ≤ S.length
  | [], [], _, _, _ => Nat.le_refl _
  | [], t :: T, _, _, h => absurd (h t (by simp)) (by simp)
  | s :: S, [], _, _, _ => Nat.zero_le _
  | s :: S, t :: T, ht, hs, h => by
    obtain ⟨t1, t2⟩ := List.pairwise_cons.1 ht
    obtain ⟨s1, s2⟩ := List.pairwise_cons.1 hs
    have key : ∀ x ∈ T, x ∈ S := by
      intro x hx
      rcases List.mem_cons.1 (h x (List.mem_cons_of_mem _ hx)) with e | e
      · exfalso
        subst e
        have a := t1 x hx
        rcases List.mem_cons.1 (h t (by simp)) with e | e
        · rw [e, ltP_irr] at a; cases a
        · have := ltP_trans a (s1 t e)
          rw [ltP_irr] at this; cases this
      · exact e
    have := rise_len S T t2 s2 key
    simp
    exact this
theorem ins_new {p : Int × Int} : ∀ {m : List (Int × Int)}, p ∉ m → (insP m p).length = m.length + 1
  | [], _ => rfl
  | q :: r, h => by
    unfold insP
    split
    · rw [List.length_cons, ins_new (fun hp => h (List.mem_cons_of_mem _ hp)), List.length_cons]
    · split
      · rename_i e; exact absurd (by rw [e]; simp) h
      · rfl
theorem fold_new : ∀ (l m : List (Int × Int)), l.Nodup → (∀ x ∈ l, x ∉ m) → (l.foldl insP m).length = m.length + l.length
  | [], m, _, _ => rfl
  | p :: l, m, hn, h => by
    obtain ⟨h1, h2⟩ := List.nodup_cons.1 hn
    rw [List.foldl_cons, fold_new l (insP m p) h2 (fun x hx hm => by
      rcases mem_ins.1 hm with e | e
      · rw [e] at hx; exact h1 hx
      · exact h x (List.mem_cons_of_mem _ hx) e), ins_new (h p (by simp))]
    simp
    omega
theorem sort_nodup {l : List (Int × Int)} (h : l.Nodup) : (sortP l).length = l.length := by
  unfold sortP
  rw [fold_new l [] h (fun _ _ => by simp)]
  simp
theorem rise_nodup {l : List (Int × Int)} (h : Rise l) : l.Nodup := h.imp (fun hab e => by rw [e, ltP_irr] at hab; cases hab)
theorem trf_at : ∀ {C : List (Int × Int)}, TrF C → ∀ i, i + 2 < C.length → 0 < crs (C.getD i (0, 0)) (C.getD (i + 1) (0, 0)) (C.getD (i + 2) (0, 0))
  | [], _, i, hi => by simp at hi
  | [_], _, i, hi => by simp at hi
  | [_, _], _, i, hi => by have : i + 2 < 2 := hi; omega
  | a :: b :: c :: s, h, 0, _ => h.1
  | a :: b :: c :: s, h, i + 1, hi => by
    have := trf_at h.2 i (by simp at hi ⊢; omega)
    simpa using this
theorem rise_at {C : List (Int × Int)} (h : Rise C) {i j : Nat} (hij : i < j) (hj : j < C.length) : ltP (C.getD i (0, 0)) (C.getD j (0, 0)) = true := rise_get h hij hj
theorem mem_at {C : List (Int × Int)} {i : Nat} (h : i < C.length) : C.getD i (0, 0) ∈ C := by rw [getD_gt h]; exact List.getElem_mem h
/-- What is neither the first nor the last one lies on the other side. -/
theorem inner_side {T C : List (Int × Int)} {a b x : Int × Int} (v : Vld T C) (ha : C.head? = some a) (hb : C.getLast? = some b) (hx : x ∈ C) (hxa : x ≠ a) (hxb : x ≠ b) : crs a b x < 0 := by
  obtain ⟨i, hi, e⟩ := List.mem_iff_getElem.1 hx
  obtain ⟨n, hn⟩ : ∃ n, C.length = n + 1 := ⟨C.length - 1, by omega⟩
  have e' : C.getD i (0, 0) = x := by rw [getD_gt hi]; exact e
  have a0 := getD_head ha
  have b0 := getD_last hb hn
  have i0 : 0 < i := by
    rcases Nat.eq_zero_or_pos i with h | h
    · rw [h, a0] at e'; exact absurd e'.symm hxa
    · exact h
  have i1 : i < n := by
    by_cases h : i = n
    · rw [h, b0] at e'; exact absurd e'.symm hxb
    · omega
  obtain ⟨k, rfl⟩ : ∃ k, i = k + 1 := ⟨i - 1, by omega⟩
  have la := rise_at v.r (i := 0) (j := k + 1) (by omega) (by omega)
  have lu := rise_at v.r (i := k) (j := k + 1) (by omega) (by omega)
  have lw := rise_at v.r (i := k + 1) (j := k + 2) (by omega) (by omega)
  have lb := rise_at v.r (i := k + 1) (j := n) (by omega) (by omega)
  have mT : ∀ j, j < C.length → C.getD j (0, 0) ∈ T := fun j hj => v.m _ (mem_at hj)
  have e1 := edf_at v.e k (by omega) (C.getD 0 (0, 0)) (mT 0 (by omega))
  have e2 := trf_at v.t k (by omega)
  have e3 := edf_at v.e (k + 1) (by omega) (C.getD n (0, 0)) (mT n (by omega))
  rw [a0] at la e1
  rw [b0] at lb e3
  rw [e'] at la lu lw lb e1 e2 e3
  rw [crs_3] at e1
  rw [crs_2] at e2
  rw [crs_1] at e3
  have z := crv_lt2 (lex_dv la) (lex_dv lu) (lex_dv lw) e1 e2
  have y := crv_lt1 (lex_dv la) (lex_dv lw) (lex_dv lb) z e3
  rw [← crs_2] at y
  have := crs_sw a x b
  omega
theorem drop_ne {C : List (Int × Int)} {b x : Int × Int} (h : Rise C) (hb : C.getLast? = some b) (hx : x ∈ C.dropLast) : x ≠ b := by
  have hne : C ≠ [] := fun e => by rw [e] at hb; cases hb
  rw [last_some hne] at hb
  simp only [Option.some.injEq] at hb
  have e := List.dropLast_concat_getLast hne
  rw [hb] at e
  rw [← e] at h
  have := (rise_snoc h).2 x hx
  intro e2
  rw [e2, ltP_irr] at this
  cases this
theorem map_drop (up : List (Int × Int)) : (up.map ngP).dropLast = up.dropLast.map ngP := by simp
theorem hull_nodup {S lo up : List (Int × Int)} {a b : Int × Int} (h : Sds S lo up a b) : (lo.dropLast ++ up.dropLast).Nodup := by
  have ur : (up.map ngP).Nodup := rise_nodup h.uv.r
  have un : up.Nodup := (List.pairwise_map.1 ur).imp (fun h e => h (by rw [e]))
  rw [List.nodup_append]
  refine ⟨(rise_nodup h.lv.r).sublist (List.dropLast_sublist _), un.sublist (List.dropLast_sublist _), ?_⟩
  intro x hx y hy e
  subst e
  have xb := drop_ne h.lv.r h.l1 hx
  have hu1 : (up.map ngP).getLast? = some (ngP a) := by rw [map_last, h.u1]; rfl
  have hu0 : (up.map ngP).head? = some (ngP b) := by rw [map_head, h.u0]; rfl
  have xa : x ≠ a := by
    have := drop_ne h.uv.r hu1 (x := ngP x) (by rw [map_drop]; exact List.mem_map_of_mem hy)
    intro e; rw [e] at this; exact this rfl
  have inj : ∀ {p q : Int × Int}, ngP p = ngP q → p = q := fun {p q} e => by have := congrArg ngP e; rwa [ng_ng, ng_ng] at this
  have c1 := inner_side h.lv h.l0 h.l1 ((List.dropLast_sublist _).subset hx) xa xb
  have c2 := inner_side h.uv hu0 hu1 (ng_mem.2 ((List.dropLast_sublist _).subset hy)) (fun e => xb (inj e)) (fun e => xa (inj e))
  rw [ng_crs] at c2
  have : crs b a x = - crs a b x := by unfold crs; grind
  omega
theorem hull_len {S lo up : List (Int × Int)} {a b : Int × Int} (h : Sds S lo up a b) : (lo.dropLast ++ up.dropLast).length ≤ S.length := by
  rw [← sort_nodup (hull_nodup h)]
  exact rise_len S _ (sortP_rise _) h.sr (fun x hx => hul_sub h x (sortP_mem.1 hx))
def dot (u v : Int × Int) : Int := u.1 * v.1 + u.2 * v.2
theorem dot_x (d u v : Int × Int) : dot d u * v.1 - dot d v * u.1 = crv v u * d.2 := by unfold dot crv; grind
theorem dot_y (d u v : Int × Int) : dot d u * v.2 - dot d v * u.2 = - (crv v u * d.1) := by unfold dot crv; grind
theorem between_ix {a : Int × Int} : ∀ (C : List (Int × Int)), a ∉ C → (∀ c, C.head? = some c → ltP c a = true) → (∀ c, C.getLast? = some c → ltP a c = true) → C ≠ [] → ∃ i, i + 1 < C.length ∧ ltP (C.getD i (0, 0)) a = true ∧ ltP a (C.getD (i + 1) (0, 0)) = true
  | [], _, _, _, h => absurd rfl h
  | [c], hn, h1, h2, _ => by
    have a1 := h1 c rfl
    have a2 := h2 c rfl
    have := ltP_trans a1 a2
    rw [ltP_irr] at this; cases this
  | c :: d :: C, hn, h1, h2, _ => by
    cases hl : ltP a d
    · have hne : a ≠ d := fun e => hn (by rw [e]; simp)
      obtain ⟨i, i1, i2, i3⟩ := between_ix (d :: C) (fun hm => hn (List.mem_cons_of_mem _ hm)) (fun x hx => by simp at hx; rw [← hx]; exact ltP_tri hl hne) (fun x hx => h2 x (by rw [List.getLast?_cons_cons]; exact hx)) (by simp)
      exact ⟨i + 1, by simp at i1 ⊢; omega, by simpa using i2, by simpa using i3⟩
    · exact ⟨0, by simp, by simpa using h1 c rfl, by simpa using hl⟩
theorem far_low {T C : List (Int × Int)} {d p a b : Int × Int} (v : Vld T C) (hr : Rise T) (ha : C.head? = some a) (hb : C.getLast? = some b) (ta : T.head? = some a) (tb : T.getLast? = some b) (hp : p ∈ T) (hn : p ∉ C) (hd : ∀ x ∈ T, x ≠ p → dot d (dv p x) < 0) : 0 < d.2 ∨ (d.2 = 0 ∧ d.1 < 0) := by
  have am : a ∈ C := by match C, ha with | x :: t, e => simp at e; rw [e]; simp
  have bm : b ∈ C := List.mem_of_getLast? hb
  have hne : C ≠ [] := fun e => by rw [e] at am; cases am
  obtain ⟨i, i1, i2, i3⟩ := between_ix C hn (fun c hc => by
      rw [ha] at hc
      cases hc
      exact ltP_tri (rise_first hr ta p hp) (fun e => hn (by rw [e]; exact am))) (fun c hc => by
      rw [hb] at hc
      cases hc
      exact ltP_tri (rise_last hr tb p hp) (fun e => hn (by rw [← e]; exact bm))) hne
  have mr := mem_at (C := C) (i := i) (by omega)
  have mq := mem_at (C := C) (i := i + 1) i1
  have e := edf_at v.e i i1 p hp
  have dr := hd _ (v.m _ mr) (fun e => hn (by rw [← e]; exact mr))
  have dq := hd _ (v.m _ mq) (fun e => hn (by rw [← e]; exact mq))
  generalize C.getD i (0, 0) = r at *
  generalize C.getD (i + 1) (0, 0) = q at *
  have lu := lex_dv i2
  have lv := lex_dv i3
  have k0 : crs r q p = crv (dv p q) (dv r p) := by unfold crs crv dv; grind
  rw [k0] at e
  have du : 0 < dot d (dv r p) := by
    have : dot d (dv r p) = - dot d (dv p r) := by unfold dot dv; grind
    omega
  have x := dot_x d (dv r p) (dv p q)
  have y := dot_y d (dv r p) (dv p q)
  generalize dot d (dv r p) = al at *
  generalize hbe : dot d (dv p q) = be at *
  generalize crv (dv p q) (dv r p) = k at *
  generalize dv r p = u at *
  generalize dv p q = w at *
  have u0 := lex_nn lu
  have w0 := lex_nn lv
  have a1 := Int.mul_nonneg (Int.le_of_lt du) w0
  have a2 : 0 ≤ (-be) * u.1 := Int.mul_nonneg (by omega) u0
  have a2' : (-be) * u.1 = - (be * u.1) := by grind
  by_cases hx : w.1 = 0 ∧ u.1 = 0
  · obtain ⟨hw, hu⟩ := hx
    have w2 : 0 < w.2 := by rcases lv with h | h <;> omega
    have u2 : 0 < u.2 := by rcases lu with h | h <;> omega
    have b1 := Int.mul_pos du w2
    have b2 : 0 < (-be) * u.2 := Int.mul_pos (by omega) u2
    have b2' : (-be) * u.2 = - (be * u.2) := by grind
    have kd : k * d.1 < 0 := by omega
    have k1 : 0 < k := by
      rcases Int.lt_trichotomy k 0 with h | h | h
      · omega
      · rw [h, Int.zero_mul] at kd; omega
      · exact h
    have d1 : d.1 < 0 := by
      rcases Int.lt_or_le d.1 0 with h | h
      · exact h
      · have := Int.mul_nonneg e h; omega
    have kx : k * d.2 = 0 := by rw [← x, hw, hu]; grind
    rcases Int.mul_eq_zero.1 kx with h | h
    · omega
    · exact .inr ⟨h, d1⟩
  · have : 0 < k * d.2 := by
      have : w.1 ≠ 0 ∨ u.1 ≠ 0 := by
        by_cases h : w.1 = 0
        · exact .inr (fun h2 => hx ⟨h, h2⟩)
        · exact .inl h
      rcases this with h | h
      · have := Int.mul_pos du (show 0 < w.1 by omega)
        omega
      · have b2 : 0 < (-be) * u.1 := Int.mul_pos (by omega) (show 0 < u.1 by omega)
        omega
    exact .inl (pos_of_mul e this)
theorem sq_far (p x c : Int × Int) : sqP x c = sqP p c + 2 * dot (dv c p) (dv p x) + (((x.1 - p.1) * (x.1 - p.1)) + ((x.2 - p.2) * (x.2 - p.2))) := by unfold sqP dot dv; grind
theorem sq_pos {p x : Int × Int} (h : x ≠ p) : 0 < (x.1 - p.1) * (x.1 - p.1) + (x.2 - p.2) * (x.2 - p.2) := by
  have s : ∀ k : Int, 0 ≤ k * k := fun k => by
    rcases Int.le_total 0 k with h | h
    · exact Int.mul_nonneg h h
    · exact Int.mul_nonneg_of_nonpos_of_nonpos h h
  have t : ∀ k : Int, k ≠ 0 → 0 < k * k := fun k hk => by
    have := s k
    have : k * k ≠ 0 := fun e => by rcases Int.mul_eq_zero.1 e with h | h <;> exact hk h
    omega
  by_cases e1 : x.1 - p.1 = 0
  · have e2 : x.2 - p.2 ≠ 0 := fun e2 => h (Prod.ext (by omega) (by omega))
    have := t _ e2
    have := s (x.1 - p.1)
    omega
  · have := t _ e1
    have := s (x.2 - p.2)
    omega
/-- The one that is farthest from a point is a corner. -/
theorem far_in {S lo up : List (Int × Int)} {a b p c : Int × Int} (h : Sds S lo up a b) (hp : p ∈ S) (hm : ∀ x ∈ S, sqP x c ≤ sqP p c) : p ∈ lo.dropLast ++ up.dropLast := by
  rw [hul_mem h]
  have hd : ∀ x ∈ S, x ≠ p → dot (dv c p) (dv p x) < 0 := by
    intro x hx hne
    have h1 := hm x hx
    have h2 := sq_far p x c
    have h3 := sq_pos hne
    omega
  by_cases hl : p ∈ lo
  · exact .inl hl
  · by_cases hu : p ∈ up
    · exact .inr hu
    · exfalso
      have c1 := far_low h.lv h.sr h.l0 h.l1 h.s0 h.s1 hp hl hd
      have c2 := far_low (d := ngP (dv c p)) (p := ngP p) h.uv (ng_rise h.sr) (by rw [map_head, h.u0]; rfl) (by rw [map_last, h.u1]; rfl) (by rw [map_head, List.head?_reverse, h.s1]; rfl) (by rw [map_last, List.getLast?_reverse, h.s0]; rfl) (ng_mem.2 (List.mem_reverse.2 hp)) (fun hm => hu (ng_mem.1 hm)) (by
        intro x hx hne
        obtain ⟨y, hy, rfl⟩ := List.mem_map.1 hx
        have := hd y (List.mem_reverse.1 hy) (fun e => hne (by rw [e]))
        have e : dot (ngP (dv c p)) (dv (ngP p) (ngP y)) = dot (dv c p) (dv p y) := by unfold dot dv ngP; grind
        rw [e]; exact this)
      unfold ngP at c2
      simp only at c2
      omega
theorem max_in (f : Int × Int → Int) : ∀ S : List (Int × Int), S ≠ [] → ∃ a ∈ S, ∀ x ∈ S, f x ≤ f a
  | [], h => absurd rfl h
  | [a], _ => ⟨a, by simp, fun x hx => by rw [List.mem_singleton.1 hx]; exact Int.le_refl _⟩
  | a :: b :: t, _ => by
    obtain ⟨m, hm, hx⟩ := max_in f (b :: t) (by simp)
    rcases Int.le_total (f a) (f m) with h | h
    · exact ⟨m, List.mem_cons_of_mem _ hm, fun x hy => by rcases List.mem_cons.1 hy with rfl | hy; exact h; exact hx x hy⟩
    · exact ⟨a, by simp, fun x hy => by rcases List.mem_cons.1 hy with rfl | hy; exact Int.le_refl _; exact Int.le_trans (hx x hy) h⟩
theorem wO_mem (l : List (Int × Int)) (t : Int) : wO l l.length ≤ t ↔ 0 ≤ t ∧ ∀ x ∈ l, ∀ y ∈ l, sqP x y ≤ t := by
  rw [wO_le]
  constructor
  · rintro ⟨h1, h2⟩
    refine ⟨h1, fun x hx y hy => ?_⟩
    obtain ⟨i, hi, rfl⟩ := List.mem_iff_getElem.1 hx
    obtain ⟨j, hj, rfl⟩ := List.mem_iff_getElem.1 hy
    have := h2 i hi j hj
    rwa [getD_gt hi, getD_gt hj] at this
  · rintro ⟨h1, h2⟩
    exact ⟨h1, fun i hi j hj => h2 _ (mem_at hi) _ (mem_at hj)⟩
/-- A hull is as wide as its points. -/
theorem wide_same {l S lo up : List (Int × Int)} {a b : Int × Int} (h : Sds S lo up a b) (hl : ∀ x, x ∈ l ↔ x ∈ S) : wO l l.length = wO (lo.dropLast ++ up.dropLast) (lo.dropLast ++ up.dropLast).length := by
  have hne : S ≠ [] := fun e => by have := h.s0; rw [e] at this; cases this
  apply Int.le_antisymm
  · rw [wO_mem]
    have w := (wO_mem (lo.dropLast ++ up.dropLast) _).1 (Int.le_refl _)
    refine ⟨w.1, fun x hx y hy => ?_⟩
    obtain ⟨p, hp, hm⟩ := max_in (fun z => sqP z y) S hne
    have pin := far_in h hp hm
    obtain ⟨q, hq, hm2⟩ := max_in (fun z => sqP z p) S hne
    have qin := far_in h hq hm2
    have s1 : sqP x y ≤ sqP p y := hm x ((hl x).1 hx)
    have s2 : sqP y p ≤ sqP q p := hm2 y ((hl y).1 hy)
    have s3 := w.2 q qin p pin
    have s4 := sqP_comm p y
    omega
  · rw [wO_mem]
    have w := (wO_mem l _).1 (Int.le_refl _)
    exact ⟨w.1, fun x hx y hy => w.2 x ((hl x).2 (hul_sub h x hx)) y ((hl y).2 (hul_sub h y hy))⟩
end Go.Proofs.Ytgoiodhofbkkdaa
