/- Simple ways go round once what is within, have two ears, and keep so when one is cut off: plain mathematics. No condition beyond those typed. -/
import Derived.Test.YteconjkjpalomaaJoB
namespace Go.Proofs.Yteconjkjpalomaa.Jor
set_option linter.unusedVariables false
set_option maxRecDepth 100000
set_option linter.unusedSimpArgs false

theorem ext_slope (b : Q2) : ∀ l : List Q2, (∀ p ∈ l, b.1 < p.1 ∨ (b.1 = p.1 ∧ b.2 < p.2)) → ∃ A : Rat, 0 ≤ A ∧ ∀ α, A ≤ α → ∀ p ∈ l, fl α 1 b < fl α 1 p
  | [], _ => ⟨0, by grind, fun _ _ _ h => by simp at h⟩
  | a :: l, h => by
    obtain ⟨A, A0, hA⟩ := ext_slope b l (fun p hp => h p (by simp [hp]))
    have one : ∃ B : Rat, 0 ≤ B ∧ ∀ α, B ≤ α → fl α 1 b < fl α 1 a := by
      rcases h a (by simp) with k | ⟨k1, k2⟩
      · have d : 0 < a.1 - b.1 := by grind
        have i : (a.1 - b.1) * (a.1 - b.1)⁻¹ = 1 := Rat.mul_inv_cancel _ (by grind)
        have ip := Rat.inv_pos.2 d
        have hab := ab_le (b.2 - a.2)
        refine ⟨(ab (b.2 - a.2) + 1) * (a.1 - b.1)⁻¹, mnn (by have := ab_nn (b.2 - a.2); grind) (by grind), fun α hα => ?_⟩
        have m := mnn (show 0 ≤ α - (ab (b.2 - a.2) + 1) * (a.1 - b.1)⁻¹ by grind) (show 0 ≤ a.1 - b.1 by grind)
        have e : (ab (b.2 - a.2) + 1) * (a.1 - b.1)⁻¹ * (a.1 - b.1) = ab (b.2 - a.2) + 1 := by rw [Rat.mul_assoc, Rat.mul_comm (a.1 - b.1)⁻¹, i, Rat.mul_one]
        unfold fl
        grind
      · exact ⟨0, by grind, fun α hα => by unfold fl; rw [k1]; grind⟩
    obtain ⟨B, B0, hB⟩ := one
    rcases (Rat.le_total : A ≤ B ∨ B ≤ A) with k | k
    · refine ⟨B, B0, fun α hα p hp => ?_⟩
      rcases List.mem_cons.1 hp with rfl | hp
      · exact hB α hα
      · exact hA α (by grind) p hp
    · refine ⟨A, A0, fun α hα p hp => ?_⟩
      rcases List.mem_cons.1 hp with rfl | hp
      · exact hB α (by grind)
      · exact hA α hα p hp
/-- There is an outermost corner. -/
theorem ext_ex {P : List Q2} (h : P ≠ []) : ∃ b ∈ P, ∃ α β, ∀ p ∈ P, p ≠ b → fl α β b < fl α β p := by
  classical
  obtain ⟨m, hm, mm⟩ := arg_max (fun p => -p.1) P h
  obtain ⟨b, hb, pb, bm⟩ := arg_maxP (fun p => -p.2) (fun p => p.1 = m.1) P ⟨m, hm, rfl⟩
  obtain ⟨A, A0, hA⟩ := ext_slope b (P.filter (fun p => decide (p ≠ b))) (fun p hp => by
    have k := List.mem_filter.1 hp
    have ne := of_decide_eq_true k.2
    have x : -p.1 ≤ -m.1 := mm p k.1
    have pb' : b.1 = m.1 := pb
    by_cases c : p.1 = m.1
    · have y : -p.2 ≤ -b.2 := bm p k.1 c
      refine .inr ⟨by grind, ?_⟩
      false_or_by_contra
      apply ne
      apply Prod.ext <;> grind
    · left; grind)
  exact ⟨b, hb, A, 1, fun p hp ne => hA A (by grind) p (List.mem_filter.2 ⟨hp, decide_eq_true ne⟩)⟩
theorem head_form {b : Q2} {l : List Q2} (S : SimJ (b :: l)) : ∃ c mid a, l = c :: (mid ++ [a]) := by
  have n3 := S.n3
  match l, n3 with
  | [], n3 => simp at n3
  | [x], n3 => simp at n3
  | c :: x :: l, _ => exact ⟨c, (x :: l).dropLast, (x :: l).getLast (by simp), by rw [List.dropLast_concat_getLast]⟩
theorem head_ends {b c : Q2} {mid : List Q2} {a a' c' : Q2} (S : SimJ (b :: c :: (mid ++ [a]))) (h1 : (a', b) ∈ eds (b :: c :: (mid ++ [a]))) (h2 : (b, c') ∈ eds (b :: c :: (mid ++ [a]))) : a' = a ∧ c' = c := by
  obtain ⟨n1, n2, n3, n4, n5, n6, n7⟩ := nd_at S.nd
  rw [eds_at] at h1 h2
  simp only [List.mem_cons, List.mem_append, List.not_mem_nil, or_false, Prod.mk.injEq] at h1 h2
  constructor
  · rcases h1 with k | k | k
    · exact absurd k.2 n1
    · exact absurd (List.mem_append.1 (pe_ends k).2) (fun k => k.elim n2 (fun h => n3 (List.mem_singleton.1 h)))
    · exact k.1
  · rcases h2 with k | k | k
    · exact k.2
    · exact absurd (List.mem_cons.1 (pe_ends k).1) (fun k => k.elim n1 n2)
    · exact absurd k.1 n3
theorem rv_at (b c : Q2) (mid : List Q2) (a : Q2) : rv (b :: c :: (mid ++ [a])) = b :: a :: (mid.reverse ++ [c]) := by simp [rv]
/-- A simple way goes round what is within once, the one way or the other; it has two ears. -/
theorem jordan : ∀ (n : Nat) (P : List Q2), P.length = n → SimJ P → Pos P ∨ Pos (rv P) := by
  intro n
  induction n using Nat.strongRecOn with
  | ind n ih =>
    intro P hl S
    obtain ⟨b, hb, α, β, hf⟩ := ext_ex (P := P) (by rintro rfl; have := S.n3; simp at this)
    obtain ⟨l, s⟩ := rot_to hb
    have S' := S.same s
    obtain ⟨c, mid, a, rfl⟩ := head_form S'
    have nn := nd_at S'.nd
    have hl' : mid.length + 3 = n := by have := s.len; simp at this; omega
    have IH : ∀ R : List Q2, R.length < mid.length + 3 → SimJ R → Pos R ∨ Pos (rv R) := fun R k SR => ih R.length (by omega) R rfl SR
    have hf' : ∀ p ∈ c :: (mid ++ [a]), fl α β b < fl α β p := fun p hp => hf p ((s.mem p).1 (List.mem_cons_of_mem _ hp)) (by
      rintro rfl
      simp only [List.mem_cons, List.mem_append, List.not_mem_nil, or_false] at hp
      rcases hp with k | k | k
      · exact nn.1 k
      · exact nn.2.1 k
      · exact nn.2.2.1 k)
    have t := ext_turn S' hf'
    by_cases h : 0 < jc a b c
    · exact .inl ((step S' h hf' IH).same s.symm)
    · right
      have S2 := S'.rev
      rw [rv_at] at S2
      have h2 : 0 < jc c b a := by have : jc c b a = -jc a b c := by (unfold jc; grind)
                                   grind
      have k := step S2 h2 (α := α) (β := β) (fun p hp => hf' p (by simp only [List.mem_cons, List.mem_append, List.mem_reverse, List.not_mem_nil, or_false] at hp ⊢; grind)) (fun R k => IH R (by simpa using k))
      rw [← rv_at] at k
      exact k.same s.symm.rv
/-- Such a way goes round some point. -/
theorem pos_one {P : List Q2} (S : SimJ P) (h : Pos P) : ∃ q, Off P q ∧ wn P q = 1 := by
  obtain ⟨b, hb, α, β, hf⟩ := ext_ex (P := P) (by rintro rfl; have := S.n3; simp at this)
  obtain ⟨l, s⟩ := rot_to hb
  have S' := S.same s
  obtain ⟨c, mid, a, rfl⟩ := head_form S'
  have n := nd_at S'.nd
  have hf' : ∀ p ∈ c :: (mid ++ [a]), fl α β b < fl α β p := fun p hp => hf p ((s.mem p).1 (List.mem_cons_of_mem _ hp)) (by
    rintro rfl
    simp only [List.mem_cons, List.mem_append, List.not_mem_nil, or_false] at hp
    rcases hp with k | k | k
    · exact n.1 k
    · exact n.2.1 k
    · exact n.2.2.1 k)
  have t := ext_turn S' hf'
  by_cases k : 0 < jc a b c
  · obtain ⟨q, o, e⟩ := ext_one k hf'
    exact ⟨q, o.same s.symm, by rw [← s.wn]; exact e⟩
  · exfalso
    have S2 := S'.rev
    rw [rv_at] at S2
    have h2 : 0 < jc c b a := by have : jc c b a = -jc a b c := by (unfold jc; grind)
                                 grind
    obtain ⟨q, o, e⟩ := ext_one h2 (mid := mid.reverse) (α := α) (β := β) (fun p hp => hf' p (by simp only [List.mem_cons, List.mem_append, List.mem_reverse, List.not_mem_nil, or_false] at hp ⊢; grind))
    rw [← rv_at] at o e
    rw [wn_rev, s.wn] at e
    have o2 : Off P q := by have := o.rev; rw [rv_rv] at this; exact this.same s.symm
    have := h.num q o2
    omega
theorem Same.rfl (P : List Q2) : Same P P := ⟨fun _ => Iff.rfl, fun _ => Iff.rfl, fun _ => Eq.refl _, Eq.refl _, Iff.rfl⟩
theorem rot_app : ∀ s t : List Q2, Same (s ++ t) (t ++ s)
  | [], t => by rw [List.nil_append, List.append_nil]; exact Same.rfl t
  | a :: s, [] => by rw [List.append_nil, List.nil_append]; exact Same.rfl _
  | a :: s, b :: t => by
    refine ⟨fun p => ?_, fun e => ?_, fun q => ?_, ?_, ?_⟩
    · simp only [List.mem_append, List.mem_cons]; grind
    · rw [List.cons_append, List.cons_append, (eds_rot a s b t).1, (eds_rot a s b t).2, List.mem_append, List.mem_append]
      exact Or.comm
    · unfold wn
      rw [List.cons_append, List.cons_append, (eds_rot a s b t).1, (eds_rot a s b t).2, wsum_app, wsum_app]
      omega
    · simp; omega
    · exact List.perm_append_comm.nodup_iff
/-- An ear cut off: what is left is such a way. -/
theorem cut_pos {s t : List Q2} {a b c : Q2} (S : SimJ (s ++ b :: t)) (h : Pos (s ++ b :: t)) (E : EarP (s ++ b :: t) a b c) (n4 : 4 ≤ (s ++ b :: t).length) :
    SimJ (s ++ t) ∧ Pos (s ++ t) ∧ (∀ q, Off (s ++ b :: t) q → (wn (s ++ b :: t) q = 1 ↔ InC a b c q ∨ (Off (s ++ t) q ∧ wn (s ++ t) q = 1))) ∧ (∀ q, wn (s ++ b :: t) q = wn (s ++ t) q + wn [a, b, c] q) ∧ (a, c) ∈ eds (s ++ t) := by
  have r1 := rot_app s (b :: t)
  have r2 := rot_app t s
  rw [List.cons_append] at r1
  have S1 := S.same r1
  have h1 := h.same r1
  have E1 := E.same r1
  have len1 := r1.len
  obtain ⟨o1, oq, ow⟩ := pos_one S1 h1
  obtain ⟨c', mid, a', e⟩ := head_form S1
  rw [e] at S1 h1 E1 r1 oq ow r2 len1
  obtain ⟨rfl, rfl⟩ := head_ends S1 E1.e1 E1.e2
  have hm : mid ≠ [] := by rintro rfl; simp at len1 n4; omega
  obtain ⟨m1, m2, m3, m4, m5, m6, m7⟩ := nd_at S1.nd
  have he : ∀ p ∈ mid, ¬ InC a b c p := fun p hp => E1.emp p (by simp [hp]) (fun k => m6 (k ▸ hp)) (fun k => m2 (k ▸ hp)) (fun k => m4 (k ▸ hp))
  have S2 := cut_simple S1 E1.pos hm he
  have P2 : Pos (c :: (mid ++ [a])) := by
    rcases jordan _ _ rfl S2 with k | k
    · exact k
    · exfalso
      have J : ∀ q, Off (c :: (mid ++ [a])) q → wn (c :: (mid ++ [a])) q = 0 ∨ wn (c :: (mid ++ [a])) q = -1 := fun q o => by
        have := k.num q o.rev
        rw [wn_rev] at this
        omega
      rcases cut_round S1 E1.pos hm he (.inr rfl) J with ⟨k, _⟩ | ⟨_, B⟩
      · omega
      · have := B _ oq
        omega
  have W : ∀ q, wn (s ++ b :: t) q = wn (s ++ t) q + wn [a, b, c] q := fun q => by rw [← r1.wn, r2.wn, wn_cut]
  refine ⟨S2.same r2, P2.same r2, fun q o => ?_, W, (r2.ed _).2 (by rw [eds_cut]; simp)⟩
  rcases cut_round S1 E1.pos hm he (.inl rfl) P2.num with ⟨_, A1, A2⟩ | ⟨k, _⟩
  · constructor
    · intro w1
      by_cases i : InC a b c q
      · exact .inl i
      · right
        have t0 : wn [a, b, c] q = 0 := by
          apply tri_out E1.pos
          false_or_by_contra
          exact i ⟨by grind, by grind, by grind⟩
        refine ⟨fun e k => ?_, by have := W q; omega⟩
        have k2 := (r2.ed e).1 k
        rw [eds_cut, List.mem_append, List.mem_singleton] at k2
        rcases k2 with k2 | rfl
        · exact o e ((r1.ed e).1 (by rw [eds_at]; simp [k2]))
        · exact fun o2 => i (on_ac E1.pos o2).1
    · rintro (i | ⟨oq', w1⟩)
      · rw [← r1.wn]; exact A2 q (o.same r1) i
      · have := W q
        have n1 := A1 q (o.same r1)
        rw [r1.wn] at n1
        by_cases i : InC a b c q
        · rw [← r1.wn]; exact A2 q (o.same r1) i
        · have t0 : wn [a, b, c] q = 0 := by
            apply tri_out E1.pos
            false_or_by_contra
            exact i ⟨by grind, by grind, by grind⟩
          omega
  · omega
/-- Twice the area. -/
def ar (P : List Q2) : Rat := ((eds P).map (fun e => e.1.1 * e.2.2 - e.2.1 * e.1.2)).sum
def asum (l : List (Q2 × Q2)) : Rat := (l.map (fun e => e.1.1 * e.2.2 - e.2.1 * e.1.2)).sum
theorem asum_app (l m : List (Q2 × Q2)) : asum (l ++ m) = asum l + asum m := by simp [asum]
theorem asum_cons (e : Q2 × Q2) (l : List (Q2 × Q2)) : asum (e :: l) = e.1.1 * e.2.2 - e.2.1 * e.1.2 + asum l := by simp [asum]
theorem asum_nil : asum [] = 0 := rfl
theorem ar_def (P : List Q2) : ar P = asum (eds P) := rfl
theorem ar_cut (b c : Q2) (mid : List Q2) (a : Q2) : ar (b :: c :: (mid ++ [a])) = ar (c :: (mid ++ [a])) + jc a b c := by
  rw [ar_def, ar_def, eds_at, eds_cut, asum_cons, asum_app, asum_app, asum_cons, asum_cons, asum_nil]
  unfold jc
  grind
theorem ar_rot : ∀ s t : List Q2, ar (s ++ t) = ar (t ++ s)
  | [], t => by rw [List.nil_append, List.append_nil]
  | a :: s, [] => by rw [List.append_nil, List.nil_append]
  | a :: s, b :: t => by
    rw [ar_def, ar_def, List.cons_append, List.cons_append, (eds_rot a s b t).1, (eds_rot a s b t).2, asum_app, asum_app]
    grind
theorem ar_ear {s t : List Q2} {a b c : Q2} (S : SimJ (s ++ b :: t)) (h1 : (a, b) ∈ eds (s ++ b :: t)) (h2 : (b, c) ∈ eds (s ++ b :: t)) : ar (s ++ b :: t) = ar (s ++ t) + jc a b c := by
  have r1 := rot_app s (b :: t)
  have e1 := ar_rot s (b :: t)
  have e2 := ar_rot s t
  rw [List.cons_append] at r1 e1
  have S1 := S.same r1
  obtain ⟨c', mid, a', e⟩ := head_form S1
  rw [e] at S1 r1 e1 e2
  obtain ⟨rfl, rfl⟩ := head_ends S1 ((r1.ed _).2 h1) ((r1.ed _).2 h2)
  rw [e1, e2, ar_cut]
/-- Its area is above nought. -/
theorem ar_pos : ∀ (n : Nat) (P : List Q2), P.length = n → SimJ P → Pos P → 0 < ar P := by
  intro n
  induction n using Nat.strongRecOn with
  | ind n ih =>
    intro P hl S h
    by_cases n4 : 4 ≤ P.length
    · obtain ⟨a, b, c, _, _, _, E, _, _, _, _⟩ := h.two n4
      obtain ⟨s, t, rfl⟩ := List.append_of_mem (ed_mem E.e2).1
      obtain ⟨S', h', _⟩ := cut_pos S h E n4
      have k := ih (s ++ t).length (by simp at hl ⊢; omega) (s ++ t) rfl S' h'
      rw [ar_ear S E.e1 E.e2]
      have := E.pos
      grind
    · obtain ⟨x, y, w, rfl⟩ := len3 P (by have := S.n3; omega)
      have k := h.tri rfl x y w (by simp [eds, pe]) (by simp [eds, pe])
      have : ar [x, y, w] = jc x y w := by
        rw [ar_def]
        show asum [(x, y), (y, w), (w, x)] = _
        rw [asum_cons, asum_cons, asum_cons, asum_nil]
        unfold jc
        grind
      grind
theorem ar_rv (P : List Q2) : ar (rv P) = -ar P := by
  rw [ar_def, ar_def, eds_rev]
  generalize eds P = l
  induction l with
  | nil => simp [asum]
  | cons e l ih =>
    rw [List.map_cons, List.reverse_cons, asum_app, ih, asum_cons, asum_cons, asum_nil]
    grind
/-- The area's sign tells which way round. -/
theorem pos_iff {P : List Q2} (S : SimJ P) : (0 < ar P → Pos P) ∧ (ar P < 0 → Pos (rv P)) ∧ ar P ≠ 0 := by
  rcases jordan _ _ rfl S with h | h
  · have := ar_pos _ _ rfl S h
    exact ⟨fun _ => h, fun k => by grind, by grind⟩
  · have := ar_pos _ _ rfl S.rev h
    rw [ar_rv] at this
    exact ⟨fun k => by grind, fun _ => h, by grind⟩
/-- Two segments next to each other that don't overlap have but their corner. -/
theorem adj {A B C x : Q2} (hAB : A ≠ B) (h1 : ¬ OnJ B C A) (h2 : ¬ OnJ A B C) (o1 : OnJ A B x) (o2 : OnJ B C x) : x = B := by
  obtain ⟨s, s0, s1, e1⟩ := o1
  obtain ⟨t, t0, t1, e2⟩ := o2
  by_cases j : jc A B C = 0
  · -- all on one line
    obtain ⟨k, hk⟩ : ∃ k : Rat, C = (B.1 + k * (B.1 - A.1), B.2 + k * (B.2 - A.2)) := by
      by_cases c1 : B.1 - A.1 = 0
      · have c2 : B.2 - A.2 ≠ 0 := fun c2 => hAB (by apply Prod.ext <;> grind)
        have i : (B.2 - A.2) * (B.2 - A.2)⁻¹ = 1 := Rat.mul_inv_cancel _ c2
        refine ⟨(C.2 - B.2) * (B.2 - A.2)⁻¹, ?_⟩
        unfold jc at j
        generalize (B.2 - A.2)⁻¹ = I at *
        apply Prod.ext <;> simp only <;> grind
      · have i : (B.1 - A.1) * (B.1 - A.1)⁻¹ = 1 := Rat.mul_inv_cancel _ c1
        refine ⟨(C.1 - B.1) * (B.1 - A.1)⁻¹, ?_⟩
        unfold jc at j
        generalize (B.1 - A.1)⁻¹ = I at *
        apply Prod.ext <;> simp only <;> grind
    by_cases k0 : 0 ≤ k
    · have x1 : (1 - s + t * k) * (B.1 - A.1) = 0 := by have := e1.symm.trans e2; rw [hk] at this; have := congrArg Prod.fst this; unfold lerp at this; simp only at this; grind
      have x2 : (1 - s + t * k) * (B.2 - A.2) = 0 := by have := e1.symm.trans e2; rw [hk] at this; have := congrArg Prod.snd this; unfold lerp at this; simp only at this; grind
      have z : 1 - s + t * k = 0 := by
        false_or_by_contra
        rename_i hz
        apply hAB
        have i : (1 - s + t * k) * (1 - s + t * k)⁻¹ = 1 := Rat.mul_inv_cancel _ hz
        generalize 1 - s + t * k = Z at *
        apply Prod.ext <;> grind
      have := mnn t0 k0
      have s1 : s = 1 := by grind
      rw [e1, s1]; unfold lerp; apply Prod.ext <;> simp only <;> grind
    · exfalso
      by_cases k1 : -1 ≤ k
      · exact h2 ⟨1 + k, by grind, by grind, by rw [hk]; unfold lerp; apply Prod.ext <;> simp only <;> grind⟩
      · have i : (-k) * (-k)⁻¹ = 1 := Rat.mul_inv_cancel _ (by grind)
        have ip := Rat.inv_pos.2 (show 0 < -k by grind)
        have m := mpos ip (show 0 < -k - 1 by grind)
        have i2 : (-k)⁻¹ * (-k) = 1 := by rw [Rat.mul_comm]; exact i
        refine h1 ⟨(-k)⁻¹, by grind, by grind, ?_⟩
        rw [hk]; unfold lerp
        generalize (-k)⁻¹ = I at *
        apply Prod.ext <;> simp only <;> grind
  · have : jc A B x = 0 := by rw [e1, jc_lerp, jc_aa, jc_ab]; grind
    rw [e2, jc_lerp, jc_ab] at this
    have t0 : t = 0 := by
      false_or_by_contra
      rename_i ht
      have i : t * t⁻¹ = 1 := Rat.mul_inv_cancel _ ht
      generalize jc A B C = J at *
      generalize t⁻¹ = I at *
      grind
    rw [e2, t0]; unfold lerp; apply Prod.ext <;> simp only <;> grind
/-- Two segments that meet: an end of one lies on the other, or they cross. -/
theorem meet_end {a b c d : Q2} (hab : a ≠ b) (m : MeetJ a b c d) : OnJ a b c ∨ OnJ a b d ∨ OnJ c d a ∨ OnJ c d b ∨ (jc a b c * jc a b d < 0 ∧ jc c d a * jc c d b < 0) := by
  obtain ⟨x, ⟨s, s0, s1, e1⟩, ⟨t, t0, t1, e2⟩⟩ := m
  false_or_by_contra
  rename_i hn
  simp only [not_or] at hn
  obtain ⟨h1, h2, h3, h4, h5⟩ := hn
  have ox : OnJ a b x := ⟨s, s0, s1, e1⟩
  have ox2 : OnJ c d x := ⟨t, t0, t1, e2⟩
  have z1 : (1 - t) * jc a b c + t * jc a b d = 0 := by rw [← jc_lerp, ← e2]; exact (on_iff.1 ox).1
  have z2 : (1 - s) * jc c d a + s * jc c d b = 0 := by rw [← jc_lerp, ← e1]; exact (on_iff.1 ox2).1
  have t0' : t ≠ 0 := fun k => h1 (by have : x = c := by (rw [e2, k]; unfold lerp; apply Prod.ext <;> simp only <;> grind)
                                      rw [← this]; exact ox)
  have t1' : t ≠ 1 := fun k => h2 (by have : x = d := by (rw [e2, k]; unfold lerp; apply Prod.ext <;> simp only <;> grind)
                                      rw [← this]; exact ox)
  have s0' : s ≠ 0 := fun k => h3 (by have : x = a := by (rw [e1, k]; unfold lerp; apply Prod.ext <;> simp only <;> grind)
                                      rw [← this]; exact ox2)
  have s1' : s ≠ 1 := fun k => h4 (by have : x = b := by (rw [e1, k]; unfold lerp; apply Prod.ext <;> simp only <;> grind)
                                      rw [← this]; exact ox2)
  have sg : ∀ r p q : Rat, 0 < r → r < 1 → (1 - r) * p + r * q = 0 → p ≠ 0 → p * q < 0 := fun r p q r0 r1 e hp => by
    have k : r * (p * q) = -((1 - r) * (p * p)) := by grind
    have pp : 0 < p * p := by
      rcases (Rat.le_total : 0 ≤ p ∨ p ≤ 0) with h | h
      · exact mpos (by grind) (by grind)
      · have := mpos (show 0 < -p by grind) (show 0 < -p by grind); grind
    have := mpos (show 0 < 1 - r by grind) pp
    exact neg_of r0 (by grind)
  by_cases j : jc a b c = 0
  · -- one line
    have j2 : jc a b d = 0 := by
      rw [j] at z1
      have i : t * t⁻¹ = 1 := Rat.mul_inv_cancel _ t0'
      generalize jc a b d = J at *
      generalize t⁻¹ = I at *
      grind
    have par : ∀ p, jc a b p = 0 → ∃ k : Rat, p = lerp a b k := fun p jp => by
      by_cases c1 : b.1 - a.1 = 0
      · have c2 : b.2 - a.2 ≠ 0 := fun c2 => hab (by apply Prod.ext <;> grind)
        have i : (b.2 - a.2) * (b.2 - a.2)⁻¹ = 1 := Rat.mul_inv_cancel _ c2
        refine ⟨(p.2 - a.2) * (b.2 - a.2)⁻¹, ?_⟩
        unfold jc at jp; unfold lerp
        generalize (b.2 - a.2)⁻¹ = I at *
        apply Prod.ext <;> simp only <;> grind
      · have i : (b.1 - a.1) * (b.1 - a.1)⁻¹ = 1 := Rat.mul_inv_cancel _ c1
        refine ⟨(p.1 - a.1) * (b.1 - a.1)⁻¹, ?_⟩
        unfold jc at jp; unfold lerp
        generalize (b.1 - a.1)⁻¹ = I at *
        apply Prod.ext <;> simp only <;> grind
    obtain ⟨γ, hc⟩ := par c j
    obtain ⟨δ, hd⟩ := par d j2
    have eq : lerp a b s = lerp a b ((1 - t) * γ + t * δ) := by rw [← e1, e2, hc, hd]; unfold lerp; apply Prod.ext <;> simp only <;> grind
    have sx : s = (1 - t) * γ + t * δ := by
      generalize (1 - t) * γ + t * δ = u at *
      have x1 : (s - u) * (b.1 - a.1) = 0 := by have := congrArg Prod.fst eq; unfold lerp at this; simp only at this; grind
      have x2 : (s - u) * (b.2 - a.2) = 0 := by have := congrArg Prod.snd eq; unfold lerp at this; simp only at this; grind
      false_or_by_contra
      rename_i hz
      apply hab
      have i : (s - u) * (s - u)⁻¹ = 1 := Rat.mul_inv_cancel _ (by grind)
      generalize (s - u)⁻¹ = I at *
      apply Prod.ext <;> grind
    have γ0 : γ < 0 ∨ 1 < γ := by
      false_or_by_contra
      exact h1 ⟨γ, by grind, by grind, hc⟩
    have δ0 : δ < 0 ∨ 1 < δ := by
      false_or_by_contra
      exact h2 ⟨δ, by grind, by grind, hd⟩
    have bet : ∀ g d : Rat, g < 0 → 1 < d → OnJ (lerp a b g) (lerp a b d) a := fun g d hg hd => by
      have dd := div_01 (show 0 ≤ -g by grind) (show -g ≤ d - g by grind) (by grind)
      have i : (d - g) * (d - g)⁻¹ = 1 := Rat.mul_inv_cancel _ (by grind)
      refine ⟨_, dd.1, dd.2, ?_⟩
      rw [Rat.div_def]; unfold lerp
      generalize (d - g)⁻¹ = I at *
      apply Prod.ext <;> simp only <;> grind
    rcases γ0 with g | g <;> rcases δ0 with g' | g'
    · have := lin_lt t0 t1 (show 0 < -γ by grind) (show 0 < -δ by grind); grind
    · exact h3 (by rw [hc, hd]; exact bet γ δ g g')
    · exact h3 (on_swap (by rw [hc, hd]; exact bet δ γ g' g))
    · have := lin_lt t0 t1 g g'; grind
  · by_cases j3 : jc c d a = 0
    · have j4 : jc c d b = 0 := by
        rw [j3] at z2
        have i : s * s⁻¹ = 1 := Rat.mul_inv_cancel _ s0'
        generalize jc c d b = J at *
        generalize s⁻¹ = I at *
        grind
      -- then c is on the line of a and b after all, or c = d
      have e3 : jc a b c - jc a b d = jc c d b - jc c d a := by unfold jc; grind
      rw [j3, j4] at e3
      have e4 : jc a b d = jc a b c := by grind
      rw [e4] at z1
      exact j (by grind)
    · exact h5 ⟨sg t _ _ (by grind) (by grind) z1 j, sg s _ _ (by grind) (by grind) z2 j3⟩
theorem pe_range (a : Q2) (m : List Q2) : pe a m = (List.range m.length).map (fun i => ((a :: m).getD i (0, 0), m.getD i (0, 0))) := by
  induction m generalizing a with
  | nil => rfl
  | cons b m ih =>
    rw [pe, ih, List.length_cons, List.range_succ_eq_map, List.map_cons, List.map_map]
    simp [Function.comp_def]
theorem eds_range (P : List Q2) : eds P = (List.range P.length).map (fun i => (P.getD i (0, 0), P.getD ((i + 1) % P.length) (0, 0))) := by
  cases P with
  | nil => rfl
  | cons a l =>
    show pe a (l ++ [a]) = _
    rw [pe_range]
    have hl : (l ++ [a]).length = (a :: l).length := by simp
    rw [hl]
    apply List.map_congr_left
    intro i hi
    have hi' := List.mem_range.1 hi
    rw [List.length_cons] at hi'
    apply Prod.ext
    · simp only
      rw [← List.cons_append, List.getD_eq_getElem?_getD, List.getD_eq_getElem?_getD, List.getElem?_append_left (by simpa using hi')]
    · simp only
      rw [List.getD_eq_getElem?_getD, List.getD_eq_getElem?_getD]
      by_cases h : i + 1 < (a :: l).length
      · rw [Nat.mod_eq_of_lt h, List.getElem?_append_left (by simpa using h), List.getElem?_cons_succ]
      · have e : i = l.length := by simp at h; omega
        rw [show i + 1 = (a :: l).length by simp [e], Nat.mod_self, List.getElem?_append_right (by omega), e]
        simp
theorem ed_iff {P : List Q2} {e : Q2 × Q2} : e ∈ eds P ↔ ∃ i, i < P.length ∧ e = (P.getD i (0, 0), P.getD ((i + 1) % P.length) (0, 0)) := by
  rw [eds_range, List.mem_map]
  constructor
  · rintro ⟨i, h, k⟩; exact ⟨i, List.mem_range.1 h, k.symm⟩
  · rintro ⟨i, h, k⟩; exact ⟨i, List.mem_range.2 h, k.symm⟩
end Go.Proofs.Yteconjkjpalomaa.Jor
