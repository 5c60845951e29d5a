/- Ears of simple ways of the grid: there are two, and what is left behind one that is cut off is such a way. Plain mathematics. No condition beyond those typed. -/
import Derived.Test.YtblhjeepelgdaaaJoB
import Derived.Test.YtblhjeepelgdaaaPkZ12
import Derived.Test.YtblhjeepelgdaaaSimE8
import Derived.Test.YtblhjeepelgdaaaSplA
namespace Go.Proofs.Ytblhjeepelgdaaa.Jor
set_option linter.unusedVariables false
set_option maxRecDepth 100000
set_option linter.unusedSimpArgs false

theorem ext_slope (b : Q2) : ∀ l : List Q2, (∀ p ∈ l, b.1 < p.1 ∨ (b.1 = p.1 ∧ b.2 < p.2)) → ∃ A : Rat, 0 ≤ A ∧ ∀ α, A ≤ α → ∀ p ∈ l, fl α 1 b < fl α 1 p
  | [], _ => ⟨0, by grind, fun _ _ _ h => by simp at h⟩
  | a :: l, h => by
    obtain ⟨A, A0, hA⟩ := ext_slope b l (fun p hp => h p (by simp [hp]))
    have one : ∃ B : Rat, 0 ≤ B ∧ ∀ α, B ≤ α → fl α 1 b < fl α 1 a := by
      rcases h a (by simp) with k | ⟨k1, k2⟩
      · have d : 0 < a.1 - b.1 := by grind
        have i : (a.1 - b.1) * (a.1 - b.1)⁻¹ = 1 := Rat.mul_inv_cancel _ (by grind)
        have ip := Rat.inv_pos.2 d
        have hab := ab_le (b.2 - a.2)
        refine ⟨(ab (b.2 - a.2) + 1) * (a.1 - b.1)⁻¹, mnn (by have := ab_nn (b.2 - a.2); grind) (by grind), fun α hα => ?_⟩
        have m := mnn (show 0 ≤ α - (ab (b.2 - a.2) + 1) * (a.1 - b.1)⁻¹ by grind) (show 0 ≤ a.1 - b.1 by grind)
        have e : (ab (b.2 - a.2) + 1) * (a.1 - b.1)⁻¹ * (a.1 - b.1) = ab (b.2 - a.2) + 1 := by rw [Rat.mul_assoc, Rat.mul_comm (a.1 - b.1)⁻¹, i, Rat.mul_one]
        unfold fl
        grind
      · exact ⟨0, by grind, fun α hα => by unfold fl; rw [k1]; grind⟩
    obtain ⟨B, B0, hB⟩ := one
    rcases (Rat.le_total : A ≤ B ∨ B ≤ A) with k | k
    · refine ⟨B, B0, fun α hα p hp => ?_⟩
      rcases List.mem_cons.1 hp with rfl | hp
      · exact hB α hα
      · exact hA α (by grind) p hp
    · refine ⟨A, A0, fun α hα p hp => ?_⟩
      rcases List.mem_cons.1 hp with rfl | hp
      · exact hB α (by grind)
      · exact hA α hα p hp
/-- There is an outermost corner. -/
theorem ext_ex {P : List Q2} (h : P ≠ []) : ∃ b ∈ P, ∃ α β, ∀ p ∈ P, p ≠ b → fl α β b < fl α β p := by
  classical
  obtain ⟨m, hm, mm⟩ := arg_max (fun p => -p.1) P h
  obtain ⟨b, hb, pb, bm⟩ := arg_maxP (fun p => -p.2) (fun p => p.1 = m.1) P ⟨m, hm, rfl⟩
  obtain ⟨A, A0, hA⟩ := ext_slope b (P.filter (fun p => decide (p ≠ b))) (fun p hp => by
    have k := List.mem_filter.1 hp
    have ne := of_decide_eq_true k.2
    have x : -p.1 ≤ -m.1 := mm p k.1
    have pb' : b.1 = m.1 := pb
    by_cases c : p.1 = m.1
    · have y : -p.2 ≤ -b.2 := bm p k.1 c
      refine .inr ⟨by grind, ?_⟩
      false_or_by_contra
      apply ne
      apply Prod.ext <;> grind
    · left; grind)
  exact ⟨b, hb, A, 1, fun p hp ne => hA A (by grind) p (List.mem_filter.2 ⟨hp, decide_eq_true ne⟩)⟩
theorem head_form {b : Q2} {l : List Q2} (S : SimJ (b :: l)) : ∃ c mid a, l = c :: (mid ++ [a]) := by
  have n3 := S.n3
  match l, n3 with
  | [], n3 => simp at n3
  | [x], n3 => simp at n3
  | c :: x :: l, _ => exact ⟨c, (x :: l).dropLast, (x :: l).getLast (by simp), by rw [List.dropLast_concat_getLast]⟩
theorem head_ends {b c : Q2} {mid : List Q2} {a a' c' : Q2} (S : SimJ (b :: c :: (mid ++ [a]))) (h1 : (a', b) ∈ eds (b :: c :: (mid ++ [a]))) (h2 : (b, c') ∈ eds (b :: c :: (mid ++ [a]))) : a' = a ∧ c' = c := by
  obtain ⟨n1, n2, n3, n4, n5, n6, n7⟩ := nd_at S.nd
  rw [eds_at] at h1 h2
  simp only [List.mem_cons, List.mem_append, List.not_mem_nil, or_false, Prod.mk.injEq] at h1 h2
  constructor
  · rcases h1 with k | k | k
    · exact absurd k.2 n1
    · exact absurd (List.mem_append.1 (pe_ends k).2) (fun k => k.elim n2 (fun h => n3 (List.mem_singleton.1 h)))
    · exact k.1
  · rcases h2 with k | k | k
    · exact k.2
    · exact absurd (List.mem_cons.1 (pe_ends k).1) (fun k => k.elim n1 n2)
    · exact absurd k.1 n3
theorem rv_at (b c : Q2) (mid : List Q2) (a : Q2) : rv (b :: c :: (mid ++ [a])) = b :: a :: (mid.reverse ++ [c]) := by simp [rv]
/-- A simple way goes round what is within once, the one way or the other; it has two ears. -/
theorem jordan : ∀ (n : Nat) (P : List Q2), P.length = n → SimJ P → Pos P ∨ Pos (rv P) := by
  intro n
  induction n using Nat.strongRecOn with
  | ind n ih =>
    intro P hl S
    obtain ⟨b, hb, α, β, hf⟩ := ext_ex (P := P) (by rintro rfl; have := S.n3; simp at this)
    obtain ⟨l, s⟩ := rot_to hb
    have S' := S.same s
    obtain ⟨c, mid, a, rfl⟩ := head_form S'
    have nn := nd_at S'.nd
    have hl' : mid.length + 3 = n := by have := s.len; simp at this; omega
    have IH : ∀ R : List Q2, R.length < mid.length + 3 → SimJ R → Pos R ∨ Pos (rv R) := fun R k SR => ih R.length (by omega) R rfl SR
    have hf' : ∀ p ∈ c :: (mid ++ [a]), fl α β b < fl α β p := fun p hp => hf p ((s.mem p).1 (List.mem_cons_of_mem _ hp)) (by
      rintro rfl
      simp only [List.mem_cons, List.mem_append, List.not_mem_nil, or_false] at hp
      rcases hp with k | k | k
      · exact nn.1 k
      · exact nn.2.1 k
      · exact nn.2.2.1 k)
    have t := ext_turn S' hf'
    by_cases h : 0 < jc a b c
    · exact .inl ((step S' h hf' IH).same s.symm)
    · right
      have S2 := S'.rev
      rw [rv_at] at S2
      have h2 : 0 < jc c b a := by have : jc c b a = -jc a b c := by (unfold jc; grind)
                                   grind
      have k := step S2 h2 (α := α) (β := β) (fun p hp => hf' p (by simp only [List.mem_cons, List.mem_append, List.mem_reverse, List.not_mem_nil, or_false] at hp ⊢; grind)) (fun R k => IH R (by simpa using k))
      rw [← rv_at] at k
      exact k.same s.symm.rv
/-- Such a way goes round some point. -/
theorem pos_one {P : List Q2} (S : SimJ P) (h : Pos P) : ∃ q, Off P q ∧ wn P q = 1 := by
  obtain ⟨b, hb, α, β, hf⟩ := ext_ex (P := P) (by rintro rfl; have := S.n3; simp at this)
  obtain ⟨l, s⟩ := rot_to hb
  have S' := S.same s
  obtain ⟨c, mid, a, rfl⟩ := head_form S'
  have n := nd_at S'.nd
  have hf' : ∀ p ∈ c :: (mid ++ [a]), fl α β b < fl α β p := fun p hp => hf p ((s.mem p).1 (List.mem_cons_of_mem _ hp)) (by
    rintro rfl
    simp only [List.mem_cons, List.mem_append, List.not_mem_nil, or_false] at hp
    rcases hp with k | k | k
    · exact n.1 k
    · exact n.2.1 k
    · exact n.2.2.1 k)
  have t := ext_turn S' hf'
  by_cases k : 0 < jc a b c
  · obtain ⟨q, o, e⟩ := ext_one k hf'
    exact ⟨q, o.same s.symm, by rw [← s.wn]; exact e⟩
  · exfalso
    have S2 := S'.rev
    rw [rv_at] at S2
    have h2 : 0 < jc c b a := by have : jc c b a = -jc a b c := by (unfold jc; grind)
                                 grind
    obtain ⟨q, o, e⟩ := ext_one h2 (mid := mid.reverse) (α := α) (β := β) (fun p hp => hf' p (by simp only [List.mem_cons, List.mem_append, List.mem_reverse, List.not_mem_nil, or_false] at hp ⊢; grind))
    rw [← rv_at] at o e
    rw [wn_rev, s.wn] at e
    have o2 : Off P q := by have := o.rev; rw [rv_rv] at this; exact this.same s.symm
    have := h.num q o2
    omega
theorem Same.rfl (P : List Q2) : Same P P := ⟨fun _ => Iff.rfl, fun _ => Iff.rfl, fun _ => Eq.refl _, Eq.refl _, Iff.rfl⟩
theorem rot_app : ∀ s t : List Q2, Same (s ++ t) (t ++ s)
  | [], t => by rw [List.nil_append, List.append_nil]; exact Same.rfl t
  | a :: s, [] => by rw [List.append_nil, List.nil_append]; exact Same.rfl _
  | a :: s, b :: t => by
    refine ⟨fun p => ?_, fun e => ?_, fun q => ?_, ?_, ?_⟩
    · simp only [List.mem_append, List.mem_cons]; grind
    · rw [List.cons_append, List.cons_append, (eds_rot a s b t).1, (eds_rot a s b t).2, List.mem_append, List.mem_append]
      exact Or.comm
    · unfold wn
      rw [List.cons_append, List.cons_append, (eds_rot a s b t).1, (eds_rot a s b t).2, wsum_app, wsum_app]
      omega
    · simp; omega
    · exact List.perm_append_comm.nodup_iff
/-- An ear cut off: what is left is such a way. -/
theorem cut_pos {s t : List Q2} {a b c : Q2} (S : SimJ (s ++ b :: t)) (h : Pos (s ++ b :: t)) (E : EarP (s ++ b :: t) a b c) (n4 : 4 ≤ (s ++ b :: t).length) :
    SimJ (s ++ t) ∧ Pos (s ++ t) ∧ (∀ q, Off (s ++ b :: t) q → (wn (s ++ b :: t) q = 1 ↔ InC a b c q ∨ (Off (s ++ t) q ∧ wn (s ++ t) q = 1))) ∧ (∀ q, wn (s ++ b :: t) q = wn (s ++ t) q + wn [a, b, c] q) ∧ (a, c) ∈ eds (s ++ t) := by
  have r1 := rot_app s (b :: t)
  have r2 := rot_app t s
  rw [List.cons_append] at r1
  have S1 := S.same r1
  have h1 := h.same r1
  have E1 := E.same r1
  have len1 := r1.len
  obtain ⟨o1, oq, ow⟩ := pos_one S1 h1
  obtain ⟨c', mid, a', e⟩ := head_form S1
  rw [e] at S1 h1 E1 r1 oq ow r2 len1
  obtain ⟨rfl, rfl⟩ := head_ends S1 E1.e1 E1.e2
  have hm : mid ≠ [] := by rintro rfl; simp at len1 n4; omega
  obtain ⟨m1, m2, m3, m4, m5, m6, m7⟩ := nd_at S1.nd
  have he : ∀ p ∈ mid, ¬ InC a b c p := fun p hp => E1.emp p (by simp [hp]) (fun k => m6 (k ▸ hp)) (fun k => m2 (k ▸ hp)) (fun k => m4 (k ▸ hp))
  have S2 := cut_simple S1 E1.pos hm he
  have P2 : Pos (c :: (mid ++ [a])) := by
    rcases jordan _ _ rfl S2 with k | k
    · exact k
    · exfalso
      have J : ∀ q, Off (c :: (mid ++ [a])) q → wn (c :: (mid ++ [a])) q = 0 ∨ wn (c :: (mid ++ [a])) q = -1 := fun q o => by
        have := k.num q o.rev
        rw [wn_rev] at this
        omega
      rcases cut_round S1 E1.pos hm he (.inr rfl) J with ⟨k, _⟩ | ⟨_, B⟩
      · omega
      · have := B _ oq
        omega
  have W : ∀ q, wn (s ++ b :: t) q = wn (s ++ t) q + wn [a, b, c] q := fun q => by rw [← r1.wn, r2.wn, wn_cut]
  refine ⟨S2.same r2, P2.same r2, fun q o => ?_, W, (r2.ed _).2 (by rw [eds_cut]; simp)⟩
  rcases cut_round S1 E1.pos hm he (.inl rfl) P2.num with ⟨_, A1, A2⟩ | ⟨k, _⟩
  · constructor
    · intro w1
      by_cases i : InC a b c q
      · exact .inl i
      · right
        have t0 : wn [a, b, c] q = 0 := by
          apply tri_out E1.pos
          false_or_by_contra
          exact i ⟨by grind, by grind, by grind⟩
        refine ⟨fun e k => ?_, by have := W q; omega⟩
        have k2 := (r2.ed e).1 k
        rw [eds_cut, List.mem_append, List.mem_singleton] at k2
        rcases k2 with k2 | rfl
        · exact o e ((r1.ed e).1 (by rw [eds_at]; simp [k2]))
        · exact fun o2 => i (on_ac E1.pos o2).1
    · rintro (i | ⟨oq', w1⟩)
      · rw [← r1.wn]; exact A2 q (o.same r1) i
      · have := W q
        have n1 := A1 q (o.same r1)
        rw [r1.wn] at n1
        by_cases i : InC a b c q
        · rw [← r1.wn]; exact A2 q (o.same r1) i
        · have t0 : wn [a, b, c] q = 0 := by
            apply tri_out E1.pos
            false_or_by_contra
            exact i ⟨by grind, by grind, by grind⟩
          omega
  · omega
/-- Twice the area. -/
def ar (P : List Q2) : Rat := ((eds P).map (fun e => e.1.1 * e.2.2 - e.2.1 * e.1.2)).sum
def asum (l : List (Q2 × Q2)) : Rat := (l.map (fun e => e.1.1 * e.2.2 - e.2.1 * e.1.2)).sum
theorem asum_app (l m : List (Q2 × Q2)) : asum (l ++ m) = asum l + asum m := by simp [asum]
theorem asum_cons (e : Q2 × Q2) (l : List (Q2 × Q2)) : asum (e :: l) = e.1.1 * e.2.2 - e.2.1 * e.1.2 + asum l := by simp [asum]
theorem asum_nil : asum [] = 0 := rfl
theorem ar_def (P : List Q2) : ar P = asum (eds P) := rfl
theorem ar_cut (b c : Q2) (mid : List Q2) (a : Q2) : ar (b :: c :: (mid ++ [a])) = ar (c :: (mid ++ [a])) + jc a b c := by
  rw [ar_def, ar_def, eds_at, eds_cut, asum_cons, asum_app, asum_app, asum_cons, asum_cons, asum_nil]
  unfold jc
  grind
theorem ar_rot : ∀ s t : List Q2, ar (s ++ t) = ar (t ++ s)
  | [], t => by rw [List.nil_append, List.append_nil]
  | a :: s, [] => by rw [List.append_nil, List.nil_append]
  | a :: s, b :: t => by
    rw [ar_def, ar_def, List.cons_append, List.cons_append, (eds_rot a s b t).1, (eds_rot a s b t).2, asum_app, asum_app]
    grind
theorem ar_ear {s t : List Q2} {a b c : Q2} (S : SimJ (s ++ b :: t)) (h1 : (a, b) ∈ eds (s ++ b :: t)) (h2 : (b, c) ∈ eds (s ++ b :: t)) : ar (s ++ b :: t) = ar (s ++ t) + jc a b c := by
  have r1 := rot_app s (b :: t)
  have e1 := ar_rot s (b :: t)
  have e2 := ar_rot s t
  rw [List.cons_append] at r1 e1
  have S1 := S.same r1
  obtain ⟨c', mid, a', e⟩ := head_form S1
  rw [e] at S1 r1 e1 e2
  obtain ⟨rfl, rfl⟩ := head_ends S1 ((r1.ed _).2 h1) ((r1.ed _).2 h2)
  rw [e1, e2, ar_cut]
/-- Its area is above nought. -/
theorem ar_pos : ∀ (n : Nat) (P : List Q2), P.length = n → SimJ P → Pos P → 0 < ar P := by
  intro n
  induction n using Nat.strongRecOn with
  | ind n ih =>
    intro P hl S h
    by_cases n4 : 4 ≤ P.length
    · obtain ⟨a, b, c, _, _, _, E, _, _, _, _⟩ := h.two n4
      obtain ⟨s, t, rfl⟩ := List.append_of_mem (ed_mem E.e2).1
      obtain ⟨S', h', _⟩ := cut_pos S h E n4
      have k := ih (s ++ t).length (by simp at hl ⊢; omega) (s ++ t) rfl S' h'
      rw [ar_ear S E.e1 E.e2]
      have := E.pos
      grind
    · obtain ⟨x, y, w, rfl⟩ := len3 P (by have := S.n3; omega)
      have k := h.tri rfl x y w (by simp [eds, pe]) (by simp [eds, pe])
      have : ar [x, y, w] = jc x y w := by
        rw [ar_def]
        show asum [(x, y), (y, w), (w, x)] = _
        rw [asum_cons, asum_cons, asum_cons, asum_nil]
        unfold jc
        grind
      grind
theorem ar_rv (P : List Q2) : ar (rv P) = -ar P := by
  rw [ar_def, ar_def, eds_rev]
  generalize eds P = l
  induction l with
  | nil => simp [asum]
  | cons e l ih =>
    rw [List.map_cons, List.reverse_cons, asum_app, ih, asum_cons, asum_cons, asum_nil]
    grind
/-- The area's sign tells which way round. -/
theorem pos_iff {P : List Q2} (S : SimJ P) : (0 < ar P → Pos P) ∧ (ar P < 0 → Pos (rv P)) ∧ ar P ≠ 0 := by
  rcases jordan _ _ rfl S with h | h
  · have := ar_pos _ _ rfl S h
    exact ⟨fun _ => h, fun k => by grind, by grind⟩
  · have := ar_pos _ _ rfl S.rev h
    rw [ar_rv] at this
    exact ⟨fun k => by grind, fun _ => h, by grind⟩
/-- Two segments next to each other that don't overlap have but their corner. -/
theorem adj {A B C x : Q2} (hAB : A ≠ B) (h1 : ¬ OnJ B C A) (h2 : ¬ OnJ A B C) (o1 : OnJ A B x) (o2 : OnJ B C x) : x = B := by
  obtain ⟨s, s0, s1, e1⟩ := o1
  obtain ⟨t, t0, t1, e2⟩ := o2
  by_cases j : jc A B C = 0
  · -- all on one line
    obtain ⟨k, hk⟩ : ∃ k : Rat, C = (B.1 + k * (B.1 - A.1), B.2 + k * (B.2 - A.2)) := by
      by_cases c1 : B.1 - A.1 = 0
      · have c2 : B.2 - A.2 ≠ 0 := fun c2 => hAB (by apply Prod.ext <;> grind)
        have i : (B.2 - A.2) * (B.2 - A.2)⁻¹ = 1 := Rat.mul_inv_cancel _ c2
        refine ⟨(C.2 - B.2) * (B.2 - A.2)⁻¹, ?_⟩
        unfold jc at j
        generalize (B.2 - A.2)⁻¹ = I at *
        apply Prod.ext <;> simp only <;> grind
      · have i : (B.1 - A.1) * (B.1 - A.1)⁻¹ = 1 := Rat.mul_inv_cancel _ c1
        refine ⟨(C.1 - B.1) * (B.1 - A.1)⁻¹, ?_⟩
        unfold jc at j
        generalize (B.1 - A.1)⁻¹ = I at *
        apply Prod.ext <;> simp only <;> grind
    by_cases k0 : 0 ≤ k
    · have x1 : (1 - s + t * k) * (B.1 - A.1) = 0 := by have := e1.symm.trans e2; rw [hk] at this; have := congrArg Prod.fst this; unfold lerp at this; simp only at this; grind
      have x2 : (1 - s + t * k) * (B.2 - A.2) = 0 := by have := e1.symm.trans e2; rw [hk] at this; have := congrArg Prod.snd this; unfold lerp at this; simp only at this; grind
      have z : 1 - s + t * k = 0 := by
        false_or_by_contra
        rename_i hz
        apply hAB
        have i : (1 - s + t * k) * (1 - s + t * k)⁻¹ = 1 := Rat.mul_inv_cancel _ hz
        generalize 1 - s + t * k = Z at *
        apply Prod.ext <;> grind
      have := mnn t0 k0
      have s1 : s = 1 := by grind
      rw [e1, s1]; unfold lerp; apply Prod.ext <;> simp only <;> grind
    · exfalso
      by_cases k1 : -1 ≤ k
      · exact h2 ⟨1 + k, by grind, by grind, by rw [hk]; unfold lerp; apply Prod.ext <;> simp only <;> grind⟩
      · have i : (-k) * (-k)⁻¹ = 1 := Rat.mul_inv_cancel _ (by grind)
        have ip := Rat.inv_pos.2 (show 0 < -k by grind)
        have m := mpos ip (show 0 < -k - 1 by grind)
        have i2 : (-k)⁻¹ * (-k) = 1 := by rw [Rat.mul_comm]; exact i
        refine h1 ⟨(-k)⁻¹, by grind, by grind, ?_⟩
        rw [hk]; unfold lerp
        generalize (-k)⁻¹ = I at *
        apply Prod.ext <;> simp only <;> grind
  · have : jc A B x = 0 := by rw [e1, jc_lerp, jc_aa, jc_ab]; grind
    rw [e2, jc_lerp, jc_ab] at this
    have t0 : t = 0 := by
      false_or_by_contra
      rename_i ht
      have i : t * t⁻¹ = 1 := Rat.mul_inv_cancel _ ht
      generalize jc A B C = J at *
      generalize t⁻¹ = I at *
      grind
    rw [e2, t0]; unfold lerp; apply Prod.ext <;> simp only <;> grind
/-- Two segments that meet: an end of one lies on the other, or they cross. -/
theorem meet_end {a b c d : Q2} (hab : a ≠ b) (m : MeetJ a b c d) : OnJ a b c ∨ OnJ a b d ∨ OnJ c d a ∨ OnJ c d b ∨ (jc a b c * jc a b d < 0 ∧ jc c d a * jc c d b < 0) := by
  obtain ⟨x, ⟨s, s0, s1, e1⟩, ⟨t, t0, t1, e2⟩⟩ := m
  false_or_by_contra
  rename_i hn
  simp only [not_or] at hn
  obtain ⟨h1, h2, h3, h4, h5⟩ := hn
  have ox : OnJ a b x := ⟨s, s0, s1, e1⟩
  have ox2 : OnJ c d x := ⟨t, t0, t1, e2⟩
  have z1 : (1 - t) * jc a b c + t * jc a b d = 0 := by rw [← jc_lerp, ← e2]; exact (on_iff.1 ox).1
  have z2 : (1 - s) * jc c d a + s * jc c d b = 0 := by rw [← jc_lerp, ← e1]; exact (on_iff.1 ox2).1
  have t0' : t ≠ 0 := fun k => h1 (by have : x = c := by (rw [e2, k]; unfold lerp; apply Prod.ext <;> simp only <;> grind)
                                      rw [← this]; exact ox)
  have t1' : t ≠ 1 := fun k => h2 (by have : x = d := by (rw [e2, k]; unfold lerp; apply Prod.ext <;> simp only <;> grind)
                                      rw [← this]; exact ox)
  have s0' : s ≠ 0 := fun k => h3 (by have : x = a := by (rw [e1, k]; unfold lerp; apply Prod.ext <;> simp only <;> grind)
                                      rw [← this]; exact ox2)
  have s1' : s ≠ 1 := fun k => h4 (by have : x = b := by (rw [e1, k]; unfold lerp; apply Prod.ext <;> simp only <;> grind)
                                      rw [← this]; exact ox2)
  have sg : ∀ r p q : Rat, 0 < r → r < 1 → (1 - r) * p + r * q = 0 → p ≠ 0 → p * q < 0 := fun r p q r0 r1 e hp => by
    have k : r * (p * q) = -((1 - r) * (p * p)) := by grind
    have pp : 0 < p * p := by
      rcases (Rat.le_total : 0 ≤ p ∨ p ≤ 0) with h | h
      · exact mpos (by grind) (by grind)
      · have := mpos (show 0 < -p by grind) (show 0 < -p by grind); grind
    have := mpos (show 0 < 1 - r by grind) pp
    exact neg_of r0 (by grind)
  by_cases j : jc a b c = 0
  · -- one line
    have j2 : jc a b d = 0 := by
      rw [j] at z1
      have i : t * t⁻¹ = 1 := Rat.mul_inv_cancel _ t0'
      generalize jc a b d = J at *
      generalize t⁻¹ = I at *
      grind
    have par : ∀ p, jc a b p = 0 → ∃ k : Rat, p = lerp a b k := fun p jp => by
      by_cases c1 : b.1 - a.1 = 0
      · have c2 : b.2 - a.2 ≠ 0 := fun c2 => hab (by apply Prod.ext <;> grind)
        have i : (b.2 - a.2) * (b.2 - a.2)⁻¹ = 1 := Rat.mul_inv_cancel _ c2
        refine ⟨(p.2 - a.2) * (b.2 - a.2)⁻¹, ?_⟩
        unfold jc at jp; unfold lerp
        generalize (b.2 - a.2)⁻¹ = I at *
        apply Prod.ext <;> simp only <;> grind
      · have i : (b.1 - a.1) * (b.1 - a.1)⁻¹ = 1 := Rat.mul_inv_cancel _ c1
        refine ⟨(p.1 - a.1) * (b.1 - a.1)⁻¹, ?_⟩
        unfold jc at jp; unfold lerp
        generalize (b.1 - a.1)⁻¹ = I at *
        apply Prod.ext <;> simp only <;> grind
    obtain ⟨γ, hc⟩ := par c j
    obtain ⟨δ, hd⟩ := par d j2
    have eq : lerp a b s = lerp a b ((1 - t) * γ + t * δ) := by rw [← e1, e2, hc, hd]; unfold lerp; apply Prod.ext <;> simp only <;> grind
    have sx : s = (1 - t) * γ + t * δ := by
      generalize (1 - t) * γ + t * δ = u at *
      have x1 : (s - u) * (b.1 - a.1) = 0 := by have := congrArg Prod.fst eq; unfold lerp at this; simp only at this; grind
      have x2 : (s - u) * (b.2 - a.2) = 0 := by have := congrArg Prod.snd eq; unfold lerp at this; simp only at this; grind
      false_or_by_contra
      rename_i hz
      apply hab
      have i : (s - u) * (s - u)⁻¹ = 1 := Rat.mul_inv_cancel _ (by grind)
      generalize (s - u)⁻¹ = I at *
      apply Prod.ext <;> grind
    have γ0 : γ < 0 ∨ 1 < γ := by
      false_or_by_contra
      exact h1 ⟨γ, by grind, by grind, hc⟩
    have δ0 : δ < 0 ∨ 1 < δ := by
      false_or_by_contra
      exact h2 ⟨δ, by grind, by grind, hd⟩
    have bet : ∀ g d : Rat, g < 0 → 1 < d → OnJ (lerp a b g) (lerp a b d) a := fun g d hg hd => by
      have dd := div_01 (show 0 ≤ -g by grind) (show -g ≤ d - g by grind) (by grind)
      have i : (d - g) * (d - g)⁻¹ = 1 := Rat.mul_inv_cancel _ (by grind)
      refine ⟨_, dd.1, dd.2, ?_⟩
      rw [Rat.div_def]; unfold lerp
      generalize (d - g)⁻¹ = I at *
      apply Prod.ext <;> simp only <;> grind
    rcases γ0 with g | g <;> rcases δ0 with g' | g'
    · have := lin_lt t0 t1 (show 0 < -γ by grind) (show 0 < -δ by grind); grind
    · exact h3 (by rw [hc, hd]; exact bet γ δ g g')
    · exact h3 (on_swap (by rw [hc, hd]; exact bet δ γ g' g))
    · have := lin_lt t0 t1 g g'; grind
  · by_cases j3 : jc c d a = 0
    · have j4 : jc c d b = 0 := by
        rw [j3] at z2
        have i : s * s⁻¹ = 1 := Rat.mul_inv_cancel _ s0'
        generalize jc c d b = J at *
        generalize s⁻¹ = I at *
        grind
      -- then c is on the line of a and b after all, or c = d
      have e3 : jc a b c - jc a b d = jc c d b - jc c d a := by unfold jc; grind
      rw [j3, j4] at e3
      have e4 : jc a b d = jc a b c := by grind
      rw [e4] at z1
      exact j (by grind)
    · exact h5 ⟨sg t _ _ (by grind) (by grind) z1 j, sg s _ _ (by grind) (by grind) z2 j3⟩
theorem pe_range (a : Q2) (m : List Q2) : pe a m = (List.range m.length).map (fun i => ((a :: m).getD i (0, 0), m.getD i (0, 0))) := by
  induction m generalizing a with
  | nil => rfl
  | cons b m ih =>
    rw [pe, ih, List.length_cons, List.range_succ_eq_map, List.map_cons, List.map_map]
    simp [Function.comp_def]
theorem eds_range (P : List Q2) : eds P = (List.range P.length).map (fun i => (P.getD i (0, 0), P.getD ((i + 1) % P.length) (0, 0))) := by
  cases P with
  | nil => rfl
  | cons a l =>
    show pe a (l ++ [a]) = _
    rw [pe_range]
    have hl : (l ++ [a]).length = (a :: l).length := by simp
    rw [hl]
    apply List.map_congr_left
    intro i hi
    have hi' := List.mem_range.1 hi
    rw [List.length_cons] at hi'
    apply Prod.ext
    · simp only
      rw [← List.cons_append, List.getD_eq_getElem?_getD, List.getD_eq_getElem?_getD, List.getElem?_append_left (by simpa using hi')]
    · simp only
      rw [List.getD_eq_getElem?_getD, List.getD_eq_getElem?_getD]
      by_cases h : i + 1 < (a :: l).length
      · rw [Nat.mod_eq_of_lt h, List.getElem?_append_left (by simpa using h), List.getElem?_cons_succ]
      · have e : i = l.length := by simp at h; omega
        rw [show i + 1 = (a :: l).length by simp [e], Nat.mod_self, List.getElem?_append_right (by omega), e]
        simp
theorem ed_iff {P : List Q2} {e : Q2 × Q2} : e ∈ eds P ↔ ∃ i, i < P.length ∧ e = (P.getD i (0, 0), P.getD ((i + 1) % P.length) (0, 0)) := by
  rw [eds_range, List.mem_map]
  constructor
  · rintro ⟨i, h, k⟩; exact ⟨i, List.mem_range.1 h, k.symm⟩
  · rintro ⟨i, h, k⟩; exact ⟨i, List.mem_range.2 h, k.symm⟩
end Go.Proofs.Ytblhjeepelgdaaa.Jor
namespace Go.Proofs.Ytblhjeepelgdaaa
open Go.RowKit
set_option linter.unusedVariables false
set_option maxRecDepth 100000
set_option linter.unusedSimpArgs false

def toQ (p : Int × Int) : Jor.Q2 := ((p.1 : Rat), (p.2 : Rat))
theorem toQ_inj {p q : Int × Int} (h : toQ p = toQ q) : p = q := by
  have h1 := congrArg Prod.fst h
  have h2 := congrArg Prod.snd h
  simp only [toQ, Rat.intCast_inj] at h1 h2
  exact Prod.ext h1 h2
theorem jc_toQ (a b c : Int × Int) : Jor.jc (toQ a) (toQ b) (toQ c) = ((crs a b c : Int) : Rat) := by
  unfold Jor.jc toQ crs
  simp only [Rat.intCast_sub, Rat.intCast_mul]
theorem jq_pos {a b c : Int × Int} : 0 < Jor.jc (toQ a) (toQ b) (toQ c) ↔ 0 < crs a b c := by
  rw [jc_toQ]
  exact Rat.intCast_lt_intCast (a := 0)
theorem jq_nn {a b c : Int × Int} : 0 ≤ Jor.jc (toQ a) (toQ b) (toQ c) ↔ 0 ≤ crs a b c := by
  rw [jc_toQ]
  exact Rat.intCast_le_intCast (a := 0)
theorem jq_neg {a b c : Int × Int} : Jor.jc (toQ a) (toQ b) (toQ c) < 0 ↔ crs a b c < 0 := by
  rw [jc_toQ]
  exact Rat.intCast_lt_intCast (b := 0)
theorem jq_zero {a b c : Int × Int} : Jor.jc (toQ a) (toQ b) (toQ c) = 0 ↔ crs a b c = 0 := by
  rw [jc_toQ]
  exact Rat.intCast_inj (b := 0)
theorem on_toQ {a b p : Int × Int} : Jor.OnJ (toQ a) (toQ b) (toQ p) ↔ onV a b p = true := by
  rw [Jor.on_iff, jq_zero]
  unfold onV btw
  simp only [toQ, Rat.intCast_le_intCast, Bool.and_eq_true, Bool.or_eq_true, decide_eq_true_eq]
theorem meet_toQ {a b c d : Int × Int} (hab : a ≠ b) (m : Jor.MeetJ (toQ a) (toQ b) (toQ c) (toQ d)) : meV a b c d = true := by
  have sgm : ∀ x y : Int, ((x : Rat) * (y : Rat) < 0) → sgZ x * sgZ y < 0 := fun x y h => by
    rw [← Rat.intCast_mul] at h
    have h' : x * y < 0 := Rat.intCast_lt_intCast (b := 0) |>.1 h
    rcases Int.lt_trichotomy x 0 with hx | hx | hx <;> rcases Int.lt_trichotomy y 0 with hy | hy | hy
    · have := Int.mul_pos_of_neg_of_neg hx hy; omega
    · rw [hy] at h'; simp at h'
    · unfold sgZ; rw [if_neg (by omega), if_pos hx, if_pos hy]; decide
    · rw [hx] at h'; simp at h'
    · rw [hx] at h'; simp at h'
    · rw [hx] at h'; simp at h'
    · unfold sgZ; rw [if_pos hx, if_neg (by omega), if_pos hy]; decide
    · rw [hy] at h'; simp at h'
    · have := Int.mul_pos hx hy; omega
  unfold meV
  rcases Jor.meet_end (fun k => hab (toQ_inj k)) m with k | k | k | k | ⟨k1, k2⟩
  · rw [on_toQ] at k; simp [k]
  · rw [on_toQ] at k; simp [k]
  · rw [on_toQ] at k; simp [k]
  · rw [on_toQ] at k; simp [k]
  · rw [jc_toQ, jc_toQ] at k1 k2
    have s1 := sgm _ _ k1
    have s2 := sgm _ _ k2
    split
    · rfl
    · simp [s1, s2]
/-- The way of the corners left. -/
def wayQ (l : List (Int × Int)) (L : List Nat) : List Jor.Q2 := L.map (fun k => toQ (l.getD k (0, 0)))
theorem wayQ_len (l : List (Int × Int)) (L : List Nat) : (wayQ l L).length = L.length := by simp [wayQ]
theorem wayQ_at {l : List (Int × Int)} {L : List Nat} {i : Nat} (h : i < L.length) : (wayQ l L).getD i (0, 0) = toQ (l.getD (L.getD i 0) (0, 0)) := by
  unfold wayQ
  rw [List.getD_eq_getElem?_getD, List.getElem?_map, List.getElem?_eq_getElem h, List.getD_eq_getElem?_getD (l := L), List.getElem?_eq_getElem h]
  rfl
theorem ed_way {l : List (Int × Int)} {L : List Nat} {e : Jor.Q2 × Jor.Q2} : e ∈ Jor.eds (wayQ l L) ↔ ∃ i, i < L.length ∧ e = (toQ (l.getD (L.getD i 0) (0, 0)), toQ (l.getD (aft L i) (0, 0))) := by
  rw [Jor.ed_iff]
  rw [wayQ_len]
  constructor
  · rintro ⟨i, h, k⟩
    exact ⟨i, h, by rw [k, wayQ_at h, wayQ_at (Nat.mod_lt _ (by omega))]; rfl⟩
  · rintro ⟨i, h, k⟩
    exact ⟨i, h, by rw [k, wayQ_at h, wayQ_at (Nat.mod_lt _ (by omega))]; rfl⟩
theorem range_at {n i : Nat} (h : i < n) : (List.range n).getD i 0 = i := by simp [List.getD_eq_getElem?_getD, h]
theorem range_aft {n i : Nat} (h : i < n) : aft (List.range n) i = (i + 1) % n := by
  unfold aft
  rw [List.length_range, range_at (Nat.mod_lt _ (by omega))]
/-- A simple way of the grid is one. -/
theorem simJ_of {l : List (Int × Int)} (h3 : 3 ≤ l.length) (hs : siI l = true) : Jor.SimJ (wayQ l (List.range l.length)) := by
  have hal : ¬ Alike l := fun k => by rw [siI_al (alB_true k)] at hs; cases hs
  have hS : SimP l l.length := by
    rw [← si_eq h3] at hs
    unfold siS at hs
    exact @of_decide_eq_true _ (Classical.propDecidable _) hs
  have inj : ∀ i j, i < l.length → j < l.length → l.getD i (0, 0) = l.getD j (0, 0) → i = j := fun i j hi hj he => by
    rcases Nat.lt_trichotomy i j with h | h | h
    · exact absurd ⟨i, j, h, hj, he⟩ hal
    · exact h
    · exact absurd ⟨j, i, h, hi, he.symm⟩ hal
  have ed : ∀ e, e ∈ Jor.eds (wayQ l (List.range l.length)) → ∃ i, i < l.length ∧ e = (toQ (l.getD i (0, 0)), toQ (nxt l i)) := fun e he => by
    obtain ⟨i, hi, k⟩ := ed_way.1 he
    rw [List.length_range] at hi
    exact ⟨i, hi, by rw [k, range_at hi, range_aft hi]; rfl⟩
  refine ⟨by rw [wayQ_len, List.length_range]; exact h3, ?_, ?_⟩
  · unfold wayQ
    refine List.pairwise_iff_getElem.2 (fun i j hi hj hij e => ?_)
    simp at hi hj e
    have := inj i j hi hj (by simpa [List.getD_eq_getElem?_getD] using toQ_inj e)
    omega
  · have key : ∀ i j, i < j → j < l.length → ∀ x, Jor.OnJ (toQ (l.getD i (0, 0))) (toQ (nxt l i)) x → Jor.OnJ (toQ (l.getD j (0, 0))) (toQ (nxt l j)) x → (x = toQ (l.getD i (0, 0)) ∨ x = toQ (nxt l i)) ∧ (x = toQ (l.getD j (0, 0)) ∨ x = toQ (nxt l j)) := by
      intro i j hij hj x o1 o2
      by_cases c1 : j = i + 1
      · subst c1
        have r := (hS i (by omega)).1
        unfold RowOk at r
        have en : nxt l i = l.getD (i + 1) (0, 0) := nxt_lt hj
        rw [en] at r o1
        have := Jor.adj (fun k => r.1 (toQ_inj k)) (fun k => by rw [on_toQ, r.2.1] at k; cases k) (fun k => by rw [on_toQ, r.2.2] at k; cases k) o1 o2
        rw [en]
        exact ⟨.inr this, .inl this⟩
      · by_cases c2 : (j + 1) % l.length = i
        · have en : nxt l j = l.getD i (0, 0) := by unfold nxt; rw [c2]
          have ja : j + 1 = l.length := by
            false_or_by_contra
            rw [Nat.mod_eq_of_lt (by omega)] at c2
            omega
          have i0 : i = 0 := by rw [ja, Nat.mod_self] at c2; exact c2.symm
          have r := (hS j hj).1
          unfold RowOk at r
          have e2 : nxt l (j + 1) = nxt l i := by rw [ja, i0]; exact nxt_over h3
          rw [e2, en] at r
          rw [en] at o2
          have := Jor.adj (fun k => r.1 (toQ_inj k)) (fun k => by rw [on_toQ, r.2.1] at k; cases k) (fun k => by rw [on_toQ, r.2.2] at k; cases k) o2 o1
          rw [en]
          exact ⟨.inl this, .inr this⟩
        · exfalso
          have p := (hS i (by omega)).2 j (by omega) hj c2
          rw [meet_toQ (hS i (by omega)).1.1 ⟨x, o1, o2⟩] at p
          cases p
    intro e he e' he' hne x o1 o2
    obtain ⟨i, hi, rfl⟩ := ed e he
    obtain ⟨j, hj, rfl⟩ := ed e' he'
    rcases Nat.lt_trichotomy i j with h | h | h
    · exact key i j h hj x o1 o2
    · subst h; exact absurd rfl hne
    · exact (key j i h hi x o2 o1).symm
/-- A sum over all segments. -/
theorem sum_range (f : Int × Int → Int × Int → Int) (l : List (Int × Int)) : ∀ k, k ≤ l.length → ((List.range k).map (fun i => f (l.getD i (0, 0)) (nxt l i))).sum = cS f l k
  | 0, _ => rfl
  | k + 1, h => by
    rw [List.range_succ, List.map_append, List.sum_append, sum_range f l k (by omega), cS_succ]
    simp
theorem eds_way (l : List (Int × Int)) : Jor.eds (wayQ l (List.range l.length)) = (List.range l.length).map (fun i => (toQ (l.getD i (0, 0)), toQ (nxt l i))) := by
  rw [Jor.eds_range, wayQ_len, List.length_range]
  apply List.map_congr_left
  intro i hi
  have hi' := List.mem_range.1 hi
  rw [wayQ_at (by simpa using hi'), wayQ_at (by simpa using Nat.mod_lt (i + 1) (show 0 < l.length by omega)), range_at hi', range_at (Nat.mod_lt _ (by omega))]
  rfl
theorem cast_sum : ∀ L : List Int, ((L.sum : Int) : Rat) = (L.map (fun k : Int => (k : Rat))).sum
  | [] => rfl
  | a :: L => by rw [List.sum_cons, List.map_cons, List.sum_cons, Rat.intCast_add, cast_sum L]
theorem ar_way (l : List (Int × Int)) : Jor.ar (wayQ l (List.range l.length)) = ((arS l l.length : Int) : Rat) := by
  rw [arS_cS, ← sum_range _ l _ (Nat.le_refl _), cast_sum, List.map_map]
  unfold Jor.ar
  rw [eds_way, List.map_map]
  congr 1
  apply List.map_congr_left
  intro i _
  simp only [Function.comp, toQ, Rat.intCast_sub, Rat.intCast_mul]
theorem wT_toQ (u v q : Int × Int) : Jor.wT (toQ u) (toQ v) (toQ q) = wiT u v q := by
  unfold Jor.wT wiT upB dnB
  simp only [jq_pos, jq_neg]
  simp only [toQ, Rat.intCast_le_intCast, Rat.intCast_lt_intCast]
  have s1 : (sgZ (crs u v q) == 1) = decide (0 < crs u v q) := by
    unfold sgZ
    rcases Int.lt_trichotomy (crs u v q) 0 with h | h | h
    · rw [if_neg (by omega), if_pos h, decide_eq_false (by omega)]; rfl
    · rw [if_neg (by omega), if_neg (by omega), decide_eq_false (by omega)]; rfl
    · rw [if_pos h, decide_eq_true h]; rfl
  have s2 : (sgZ (crs u v q) == -1) = decide (crs u v q < 0) := by
    unfold sgZ
    rcases Int.lt_trichotomy (crs u v q) 0 with h | h | h
    · rw [if_neg (by omega), if_pos h, decide_eq_true h]; rfl
    · rw [if_neg (by omega), if_neg (by omega), decide_eq_false (by omega)]; rfl
    · rw [if_pos h, decide_eq_false (by omega)]; rfl
  rw [s1, s2]
  generalize crs u v q = k
  simp only [Bool.and_eq_true, decide_eq_true_eq]
  grind
theorem wn_way (l : List (Int × Int)) (q : Int × Int) : Jor.wn (wayQ l (List.range l.length)) (toQ q) = wiS l q l.length := by
  rw [wiS_cS, ← sum_range _ l _ (Nat.le_refl _)]
  unfold Jor.wn Jor.wsum
  rw [eds_way, List.map_map]
  congr 1
  apply List.map_congr_left
  intro i _
  simp only [Function.comp, wT_toQ]
end Go.Proofs.Ytblhjeepelgdaaa
namespace Go.Proofs.Ytblhjeepelgdaaa
open Go.RowKit
set_option linter.unusedVariables false
set_option maxRecDepth 100000
set_option linter.unusedSimpArgs false

/-- The corners left make a simple way that turns so. -/
def GoodL (l : List (Int × Int)) (L : List Nat) (t : Int) : Prop := Jor.SimJ (wayQ l L) ∧ ((t = 1 ∧ Jor.Pos (wayQ l L)) ∨ (t = -1 ∧ Jor.Pos (Jor.rv (wayQ l L))))
theorem goodL_of {l : List (Int × Int)} (h3 : 3 ≤ l.length) (hs : siI l = true) : GoodL l (List.range l.length) (sgZ (arS l l.length)) := by
  have S := simJ_of h3 hs
  have k := Jor.pos_iff S
  rw [ar_way] at k
  obtain ⟨k1, k2, k3⟩ := k
  refine ⟨S, ?_⟩
  rcases sg_cases (arS l l.length) with ⟨h, e⟩ | ⟨h, e⟩ | ⟨h, e⟩
  · exact .inl ⟨e, k1 (Rat.intCast_lt_intCast (a := 0) |>.2 h)⟩
  · exact absurd (by rw [h]; rfl) k3
  · exact .inr ⟨e, k2 (Rat.intCast_lt_intCast (b := 0) |>.2 h)⟩
theorem way_inj {l : List (Int × Int)} {L : List Nat} (S : Jor.SimJ (wayQ l L)) {i j : Nat} (hi : i < L.length) (hj : j < L.length) (h : toQ (l.getD (L.getD i 0) (0, 0)) = toQ (l.getD (L.getD j 0) (0, 0))) : i = j := by
  rw [← wayQ_at hi, ← wayQ_at hj] at h
  have hi' : i < (wayQ l L).length := by rw [wayQ_len]; exact hi
  have hj' : j < (wayQ l L).length := by rw [wayQ_len]; exact hj
  rw [List.getD_eq_getElem?_getD, List.getD_eq_getElem?_getD, List.getElem?_eq_getElem hi', List.getElem?_eq_getElem hj'] at h
  rcases Nat.lt_trichotomy i j with k | k | k
  · exact absurd h (List.pairwise_iff_getElem.1 S.nd i j hi' hj' k)
  · exact k
  · exact absurd h.symm (List.pairwise_iff_getElem.1 S.nd j i hj' hi' k)
theorem mem_ix {L : List Nat} {k : Nat} (h : k ∈ L) : ∃ j, j < L.length ∧ L.getD j 0 = k := by
  obtain ⟨j, hj, e⟩ := List.getElem_of_mem h
  exact ⟨j, hj, by rw [List.getD_eq_getElem?_getD, List.getElem?_eq_getElem hj]; exact e⟩
theorem mem_way {l : List (Int × Int)} {L : List Nat} {p : Jor.Q2} : p ∈ wayQ l L ↔ ∃ k ∈ L, p = toQ (l.getD k (0, 0)) := by
  unfold wayQ
  rw [List.mem_map]
  constructor
  · rintro ⟨k, h, e⟩; exact ⟨k, h, e.symm⟩
  · rintro ⟨k, h, e⟩; exact ⟨k, h, e.symm⟩
theorem way_key {l : List (Int × Int)} {L : List Nat} (S : Jor.SimJ (wayQ l L)) {k k' : Nat} (h : k ∈ L) (h' : k' ∈ L) (e : toQ (l.getD k (0, 0)) = toQ (l.getD k' (0, 0))) : k = k' := by
  obtain ⟨i, hi, rfl⟩ := mem_ix h
  obtain ⟨j, hj, rfl⟩ := mem_ix h'
  rw [way_inj S hi hj e]
theorem prev_ix {n i : Nat} (h : i < n) : (i + n - 1) % n < n ∧ ((i + n - 1) % n + 1) % n = i := by
  refine ⟨Nat.mod_lt _ (by omega), ?_⟩
  by_cases h0 : i = 0
  · subst h0
    rw [Nat.mod_eq_of_lt (show 0 + n - 1 < n by omega), show 0 + n - 1 + 1 = n by omega, Nat.mod_self]
  · rw [show i + n - 1 = i - 1 + n by omega, Nat.add_mod_right, Nat.mod_eq_of_lt (show i - 1 < n by omega), show i - 1 + 1 = i by omega, Nat.mod_eq_of_lt h]
theorem next_prev {n i j : Nat} (hi : i < n) (hj : j < n) (h : (j + 1) % n = i) : j = (i + n - 1) % n := by
  by_cases h1 : j + 1 = n
  · rw [h1, Nat.mod_self] at h
    subst h
    rw [Nat.mod_eq_of_lt (show 0 + n - 1 < n by omega)]; omega
  · rw [Nat.mod_eq_of_lt (by omega)] at h
    subst h
    rw [show j + 1 + n - 1 = j + n by omega, Nat.add_mod_right, Nat.mod_eq_of_lt hj]
theorem ed_bef {l : List (Int × Int)} {L : List Nat} {i : Nat} (hi : i < L.length) : (toQ (l.getD (bef L i) (0, 0)), toQ (l.getD (L.getD i 0) (0, 0))) ∈ Jor.eds (wayQ l L) := by
  have p := prev_ix hi
  refine ed_way.2 ⟨(i + L.length - 1) % L.length, p.1, ?_⟩
  unfold aft
  rw [p.2]
  rfl
theorem ed_aft {l : List (Int × Int)} {L : List Nat} {i : Nat} (hi : i < L.length) : (toQ (l.getD (L.getD i 0) (0, 0)), toQ (l.getD (aft L i) (0, 0))) ∈ Jor.eds (wayQ l L) := ed_way.2 ⟨i, hi, rfl⟩
/-- A corner's neighbours. -/
theorem ed_find {l : List (Int × Int)} {L : List Nat} (S : Jor.SimJ (wayQ l L)) {a b c : Jor.Q2} (h1 : (a, b) ∈ Jor.eds (wayQ l L)) (h2 : (b, c) ∈ Jor.eds (wayQ l L)) :
    ∃ i, i < L.length ∧ a = toQ (l.getD (bef L i) (0, 0)) ∧ b = toQ (l.getD (L.getD i 0) (0, 0)) ∧ c = toQ (l.getD (aft L i) (0, 0)) := by
  obtain ⟨j, hj, e1⟩ := ed_way.1 h1
  obtain ⟨i, hi, e2⟩ := ed_way.1 h2
  simp only [Prod.mk.injEq] at e1 e2
  refine ⟨i, hi, ?_, e2.1, e2.2⟩
  have hn : (j + 1) % L.length < L.length := Nat.mod_lt _ (by omega)
  have k : (j + 1) % L.length = i := way_inj S hn hi (by rw [← e2.1, e1.2]; rfl)
  rw [e1.1]
  unfold bef
  rw [← next_prev hi hj k]
theorem inT_pos {a b c p : Int × Int} (h : 0 < crs a b c) : inT a b c p = true ↔ 0 ≤ crs a b p ∧ 0 ≤ crs b c p ∧ 0 ≤ crs c a p := by
  have s := crs_three a b c p
  unfold inT inK
  generalize crs a b p = x at *
  generalize crs b c p = y at *
  generalize crs c a p = z at *
  rcases sg_cases x with ⟨h1, e1⟩ | ⟨h1, e1⟩ | ⟨h1, e1⟩ <;> rcases sg_cases y with ⟨h2, e2⟩ | ⟨h2, e2⟩ | ⟨h2, e2⟩ <;> rcases sg_cases z with ⟨h3, e3⟩ | ⟨h3, e3⟩ | ⟨h3, e3⟩ <;> rw [e1, e2, e3] <;> simp <;> omega
theorem inT_neg {a b c p : Int × Int} (h : crs a b c < 0) : inT a b c p = true ↔ crs a b p ≤ 0 ∧ crs b c p ≤ 0 ∧ crs c a p ≤ 0 := by
  have s := crs_three a b c p
  unfold inT inK
  generalize crs a b p = x at *
  generalize crs b c p = y at *
  generalize crs c a p = z at *
  rcases sg_cases x with ⟨h1, e1⟩ | ⟨h1, e1⟩ | ⟨h1, e1⟩ <;> rcases sg_cases y with ⟨h2, e2⟩ | ⟨h2, e2⟩ | ⟨h2, e2⟩ <;> rcases sg_cases z with ⟨h3, e3⟩ | ⟨h3, e3⟩ | ⟨h3, e3⟩ <;> rw [e1, e2, e3] <;> simp <;> omega
theorem inC_pos {a b c p : Int × Int} (h : 0 < crs a b c) : Jor.InC (toQ a) (toQ b) (toQ c) (toQ p) ↔ inT a b c p = true := by
  rw [inT_pos h]
  constructor
  · rintro ⟨x, y, z⟩; exact ⟨jq_nn.1 x, jq_nn.1 y, jq_nn.1 z⟩
  · rintro ⟨x, y, z⟩; exact ⟨jq_nn.2 x, jq_nn.2 y, jq_nn.2 z⟩
theorem inC_neg {a b c p : Int × Int} (h : crs a b c < 0) : Jor.InC (toQ c) (toQ b) (toQ a) (toQ p) ↔ inT a b c p = true := by
  rw [inT_neg h]
  have e1 : crs c b p = -crs b c p := crs_neg9 b c p
  have e2 : crs b a p = -crs a b p := crs_neg9 a b p
  have e3 : crs a c p = -crs c a p := crs_neg9 c a p
  constructor
  · rintro ⟨x, y, z⟩
    have x := jq_nn.1 x; have y := jq_nn.1 y; have z := jq_nn.1 z
    omega
  · rintro ⟨x, y, z⟩
    exact ⟨jq_nn.2 (by omega), jq_nn.2 (by omega), jq_nn.2 (by omega)⟩
theorem ear_iff {l : List (Int × Int)} {L : List Nat} {i : Nat} {t : Int} : earB l L i t = true ↔ sgZ (crs (l.getD (bef L i) (0, 0)) (l.getD (L.getD i 0) (0, 0)) (l.getD (aft L i) (0, 0))) = t ∧ ∀ k ∈ L, k = bef L i ∨ k = L.getD i 0 ∨ k = aft L i ∨ inT (l.getD (bef L i) (0, 0)) (l.getD (L.getD i 0) (0, 0)) (l.getD (aft L i) (0, 0)) (l.getD k (0, 0)) = false := by
  unfold earB okE
  rw [Bool.and_eq_true, List.all_eq_true, beq_iff_eq]
  constructor
  · rintro ⟨h1, h2⟩
    refine ⟨h1, fun k hk => ?_⟩
    have := h2 k hk
    simp only [Bool.or_eq_true, beq_iff_eq, Bool.not_eq_true'] at this
    grind
  · rintro ⟨h1, h2⟩
    refine ⟨h1, fun k hk => ?_⟩
    have := h2 k hk
    simp only [Bool.or_eq_true, beq_iff_eq, Bool.not_eq_true']
    grind
theorem sg_one {k : Int} : sgZ k = 1 ↔ 0 < k := by rcases sg_cases k with ⟨h, e⟩ | ⟨h, e⟩ | ⟨h, e⟩ <;> rw [e] <;> simp <;> omega
theorem sg_mone {k : Int} : sgZ k = -1 ↔ k < 0 := by rcases sg_cases k with ⟨h, e⟩ | ⟨h, e⟩ | ⟨h, e⟩ <;> rw [e] <;> simp <;> omega
/-- Ears of a way that turns left. -/
theorem ear_pos {l : List (Int × Int)} {L : List Nat} {i : Nat} (S : Jor.SimJ (wayQ l L)) (hi : i < L.length) :
    earB l L i 1 = true ↔ Jor.EarP (wayQ l L) (toQ (l.getD (bef L i) (0, 0))) (toQ (l.getD (L.getD i 0) (0, 0))) (toQ (l.getD (aft L i) (0, 0))) := by
  rw [ear_iff, sg_one]
  constructor
  · rintro ⟨h1, h2⟩
    refine ⟨ed_bef hi, ed_aft hi, jq_pos.2 h1, fun p hp n1 n2 n3 => ?_⟩
    obtain ⟨k, hk, rfl⟩ := mem_way.1 hp
    rw [inC_pos h1]
    rcases h2 k hk with e | e | e | e
    · exact absurd (by rw [e]) n1
    · exact absurd (by rw [e]) n2
    · exact absurd (by rw [e]) n3
    · rw [e]; intro x; cases x
  · intro E
    have h1 := jq_pos.1 E.pos
    refine ⟨h1, fun k hk => ?_⟩
    by_cases e1 : k = bef L i
    · exact .inl e1
    · by_cases e2 : k = L.getD i 0
      · exact .inr (.inl e2)
      · by_cases e3 : k = aft L i
        · exact .inr (.inr (.inl e3))
        · have := E.emp _ (mem_way.2 ⟨k, hk, rfl⟩) (fun e => e1 (way_key S hk (bef_mem hi) e)) (fun e => e2 (way_key S hk (mem_at hi) e)) (fun e => e3 (way_key S hk (aft_mem hi) e))
          rw [inC_pos h1] at this
          exact .inr (.inr (.inr (by simpa using this)))
theorem ear_neg {l : List (Int × Int)} {L : List Nat} {i : Nat} (S : Jor.SimJ (wayQ l L)) (hi : i < L.length) :
    earB l L i (-1) = true ↔ Jor.EarP (Jor.rv (wayQ l L)) (toQ (l.getD (aft L i) (0, 0))) (toQ (l.getD (L.getD i 0) (0, 0))) (toQ (l.getD (bef L i) (0, 0))) := by
  rw [ear_iff, sg_mone]
  have tw : ∀ a b c : Int × Int, crs c b a = -crs a b c := fun a b c => by unfold crs; grind
  constructor
  · rintro ⟨h1, h2⟩
    refine ⟨Jor.ed_rev.2 (ed_aft hi), Jor.ed_rev.2 (ed_bef hi), jq_pos.2 (by rw [tw]; omega), fun p hp n1 n2 n3 => ?_⟩
    obtain ⟨k, hk, rfl⟩ := mem_way.1 (Jor.mem_rv.1 hp)
    rw [inC_neg h1]
    rcases h2 k hk with e | e | e | e
    · exact absurd (by rw [e]) n3
    · exact absurd (by rw [e]) n2
    · exact absurd (by rw [e]) n1
    · rw [e]; intro x; cases x
  · intro E
    have h1 := jq_pos.1 E.pos
    rw [tw] at h1
    refine ⟨by omega, fun k hk => ?_⟩
    by_cases e1 : k = bef L i
    · exact .inl e1
    · by_cases e2 : k = L.getD i 0
      · exact .inr (.inl e2)
      · by_cases e3 : k = aft L i
        · exact .inr (.inr (.inl e3))
        · have := E.emp _ (Jor.mem_rv.2 (mem_way.2 ⟨k, hk, rfl⟩)) (fun e => e3 (way_key S hk (aft_mem hi) e)) (fun e => e2 (way_key S hk (mem_at hi) e)) (fun e => e1 (way_key S hk (bef_mem hi) e))
          rw [inC_neg (by omega)] at this
          exact .inr (.inr (.inr (by simpa using this)))
/-- Two ears. -/
theorem ear_two {l : List (Int × Int)} {L : List Nat} {t : Int} (G : GoodL l L t) (n4 : 4 ≤ L.length) : ∃ i j, i < L.length ∧ j < L.length ∧ i ≠ j ∧ earB l L i t = true ∧ earB l L j t = true := by
  obtain ⟨S, ⟨rfl, P⟩ | ⟨rfl, P⟩⟩ := G
  · obtain ⟨a, b, c, a', b', c', E, E', hne, _, _⟩ := P.two (by rw [wayQ_len]; exact n4)
    obtain ⟨i, hi, rfl, rfl, rfl⟩ := ed_find S E.e1 E.e2
    obtain ⟨j, hj, rfl, rfl, rfl⟩ := ed_find S E'.e1 E'.e2
    exact ⟨i, j, hi, hj, fun k => hne (by rw [k]), (ear_pos S hi).2 E, (ear_pos S hj).2 E'⟩
  · obtain ⟨a, b, c, a', b', c', E, E', hne, _, _⟩ := P.two (by rw [Jor.len_rv, wayQ_len]; exact n4)
    obtain ⟨i, hi, rfl, rfl, rfl⟩ := ed_find S (Jor.ed_rev.1 E.e2) (Jor.ed_rev.1 E.e1)
    obtain ⟨j, hj, rfl, rfl, rfl⟩ := ed_find S (Jor.ed_rev.1 E'.e2) (Jor.ed_rev.1 E'.e1)
    exact ⟨i, j, hi, hj, fun k => hne (by rw [k]), (ear_neg S hi).2 E, (ear_neg S hj).2 E'⟩
theorem way_split {l : List (Int × Int)} {L : List Nat} {i : Nat} (hi : i < L.length) : wayQ l L = wayQ l (L.take i) ++ toQ (l.getD (L.getD i 0) (0, 0)) :: wayQ l (L.drop (i + 1)) ∧ wayQ l (L.eraseIdx i) = wayQ l (L.take i) ++ wayQ l (L.drop (i + 1)) := by
  constructor
  · have e : L = L.take i ++ L.getD i 0 :: L.drop (i + 1) := by
      rw [List.getD_eq_getElem?_getD, List.getElem?_eq_getElem hi, Option.getD_some, List.getElem_cons_drop, List.take_append_drop]
    conv => lhs; rw [e]
    simp [wayQ]
  · rw [List.eraseIdx_eq_take_drop_succ]; simp [wayQ]
theorem rv_same (P : List Jor.Q2) : Jor.Same (Jor.rv P) P.reverse := by
  cases P with
  | nil => exact Jor.Same.rfl _
  | cons a l =>
    have := Jor.rot_app [a] l.reverse
    simpa [Jor.rv] using this
/-- What is left behind an ear. -/
theorem ear_cut {l : List (Int × Int)} {L : List Nat} {t : Int} {i : Nat} (G : GoodL l L t) (n4 : 4 ≤ L.length) (hi : i < L.length) (h : earB l L i t = true) : GoodL l (L.eraseIdx i) t := by
  obtain ⟨e1, e2⟩ := way_split (l := l) hi
  have wl := wayQ_len l L
  obtain ⟨S, ⟨rfl, P⟩ | ⟨rfl, P⟩⟩ := G
  · have E := (ear_pos S hi).1 h
    rw [e1] at S P E wl
    obtain ⟨S', P', _⟩ := Jor.cut_pos S P E (by omega)
    exact ⟨by rw [e2]; exact S', .inl ⟨rfl, by rw [e2]; exact P'⟩⟩
  · have E := (ear_neg S hi).1 h
    have r := rv_same (wayQ l L)
    have S1 := S.rev.same r
    have P1 := P.same r
    have E1 := E.same r
    have wl1 := r.len
    rw [Jor.len_rv, wl] at wl1
    rw [e1, List.reverse_append, List.reverse_cons, List.append_assoc, List.singleton_append] at S1 P1 E1 wl1
    obtain ⟨S', P', _⟩ := Jor.cut_pos S1 P1 E1 (by omega)
    have r2 := rv_same (wayQ l (L.eraseIdx i))
    rw [e2, List.reverse_append, ← e2] at r2
    have S2 := (S'.same r2.symm).rev
    rw [Jor.rv_rv] at S2
    exact ⟨S2, .inr ⟨rfl, P'.same r2.symm⟩⟩
end Go.Proofs.Ytblhjeepelgdaaa
