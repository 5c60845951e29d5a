/- A simple way goes round once what is within, if all shorter ones do: plain mathematics. No condition beyond those typed. -/
import Derived.Test.YteconjkjpalomaaJoA
namespace Go.Proofs.Yteconjkjpalomaa.Jor
set_option linter.unusedVariables false
set_option maxRecDepth 100000
set_option linter.unusedSimpArgs false

/-- Numbers by an ear. -/
theorem ear_num {P : List Q2} (S : SimJ P) {u e v : Q2} (E : EarP P u e v) (n4 : 4 ≤ P.length) (one : ∃ q, Off P q ∧ wn P q = 1)
    (IH : ∀ R : List Q2, R.length < P.length → SimJ R → ∃ σ : Int, (σ = 1 ∨ σ = -1) ∧ ∀ q, Off R q → wn R q = 0 ∨ wn R q = σ) :
    (∀ q, Off P q → wn P q = 0 ∨ wn P q = 1) ∧ (∀ q, Off P q → InC u e v q → wn P q = 1) := by
  obtain ⟨mid, s⟩ := ear_form S E.e1 E.e2
  have S' := S.same s
  have hm : mid ≠ [] := by
    rintro rfl
    have := s.len
    simp at this
    omega
  obtain ⟨m1, m2, m3, m4, m5, m6, m7⟩ := nd_at S'.nd
  have he : ∀ p ∈ mid, ¬ InC u e v p := fun p hp => E.emp p ((s.mem p).1 (by simp [hp])) (fun k => m6 (k ▸ hp)) (fun k => m2 (k ▸ hp)) (fun k => m4 (k ▸ hp))
  obtain ⟨σ, hσ, J⟩ := IH (v :: (mid ++ [u])) (by have := s.len; simp only [List.length_cons] at this ⊢; omega) (cut_simple S' E.pos hm he)
  rcases cut_round S' E.pos hm he hσ J with ⟨_, A1, A2⟩ | ⟨_, B⟩
  · exact ⟨fun q o => by rw [← s.wn]; exact A1 q (o.same s), fun q o i => by rw [← s.wn]; exact A2 q (o.same s) i⟩
  · obtain ⟨q, oq, wq⟩ := one
    have := B q (oq.same s)
    rw [s.wn] at this
    omega
/-- A part cut off along a free segment is simple. -/
theorem part_simple {P Q : List Q2} {b z : Q2} (S : SimJ P) (hb : b ∈ P) (hz : z ∈ P) (df : ∀ e ∈ eds P, ∀ x, OnJ e.1 e.2 x → OnJ b z x → x = b ∨ x = z)
    (hE : ∀ e ∈ eds Q, e ∈ eds P ∨ e = (z, b) ∨ e = (b, z)) (h1 : ¬ ((z, b) ∈ eds Q ∧ (b, z) ∈ eds Q)) (n3 : 3 ≤ Q.length) (nd : Q.Nodup) : SimJ Q := by
  have two : ∀ e ∈ eds P, ∀ x, OnJ e.1 e.2 x → OnJ b z x → (x = e.1 ∨ x = e.2) ∧ (x = b ∨ x = z) := fun e he x o o' => by
    have k := df e he x o o'
    refine ⟨S.corner ?_ he o, k⟩
    rcases k with rfl | rfl
    · exact hb
    · exact hz
  refine ⟨n3, nd, fun e he e' he' hne x o o' => ?_⟩
  rcases hE e he with k | rfl | rfl <;> rcases hE e' he' with k' | rfl | rfl
  · exact S.cr e k e' k' hne x o o'
  · have := two e k x o (on_swap o'); exact ⟨this.1, this.2.symm⟩
  · exact two e k x o o'
  · have := two e' k' x o' (on_swap o); exact ⟨this.2.symm, this.1⟩
  · exact absurd rfl hne
  · exact absurd ⟨he, he'⟩ h1
  · have := two e' k' x o' o; exact ⟨this.2, this.1⟩
  · exact absurd ⟨he', he⟩ h1
  · exact absurd rfl hne
theorem pe_sub {c : Q2} {l m : List Q2} {e : Q2 × Q2} (h : e ∈ pe c l) : e ∈ pe c (l ++ m) := by
  induction l generalizing c with
  | nil => simp [pe] at h
  | cons a l ih =>
    simp only [List.cons_append, pe, List.mem_cons] at h ⊢
    exact h.imp id ih
theorem num_of {R : List Q2} (h : Pos R ∨ Pos (rv R)) : ∃ σ : Int, (σ = 1 ∨ σ = -1) ∧ ∀ q, Off R q → wn R q = 0 ∨ wn R q = σ := by
  rcases h with h | h
  · exact ⟨1, .inl rfl, h.num⟩
  · refine ⟨-1, .inr rfl, fun q o => ?_⟩
    have := h.num q o.rev
    rw [wn_rev] at this
    omega
theorem pos_of_one {R : List Q2} (h : Pos R ∨ Pos (rv R)) (one : ∃ q, Off R q ∧ wn R q = 1) : Pos R := by
  rcases h with h | h
  · exact h
  · obtain ⟨q, o, e⟩ := one
    have := h.num q o.rev
    rw [wn_rev] at this
    omega
set_option maxHeartbeats 8000000 in
theorem step {b c : Q2} {mid : List Q2} {a : Q2} (S : SimJ (b :: c :: (mid ++ [a]))) (h : 0 < jc a b c) {α β : Rat} (hf : ∀ p ∈ c :: (mid ++ [a]), fl α β b < fl α β p)
    (IH : ∀ R : List Q2, R.length < mid.length + 3 → SimJ R → Pos R ∨ Pos (rv R)) : Pos (b :: c :: (mid ++ [a])) := by
  have one := ext_one h hf
  obtain ⟨n1, n2, n3, n4, n5, n6, n7⟩ := nd_at S.nd
  have E1 : (a, b) ∈ eds (b :: c :: (mid ++ [a])) := by rw [eds_at]; simp
  have E2 : (b, c) ∈ eds (b :: c :: (mid ++ [a])) := by rw [eds_at]; simp
  have IHn : ∀ R : List Q2, R.length < mid.length + 3 → SimJ R → ∃ σ : Int, (σ = 1 ∨ σ = -1) ∧ ∀ q, Off R q → wn R q = 0 ∨ wn R q = σ := fun R l s => num_of (IH R l s)
  by_cases hm : mid = []
  · subst hm
    have hb : 0 < jc b c a := by rw [jc_rot]; exact h
    have ed : eds (b :: c :: ([] ++ [a])) = [(b, c), (c, a), (a, b)] := rfl
    refine ⟨fun q o => ?_, fun l => by simp at l, fun _ x y w h1 h2 => ?_⟩
    · rw [Off, ed] at o
      have T := tri_num hb (o (b, c) (by simp)) (o (c, a) (by simp)) (o (a, b) (by simp))
      by_cases i : InC b c a q
      · exact .inr (T.1 i)
      · exact .inl (T.2 i)
    · rw [ed] at h1 h2
      simp only [List.mem_cons, List.not_mem_nil, or_false, Prod.mk.injEq] at h1 h2
      have r2 : 0 < jc c a b := by rw [jc_rot, jc_rot]; exact h
      rcases h1 with ⟨rfl, rfl⟩ | ⟨rfl, rfl⟩ | ⟨rfl, rfl⟩ <;> rcases h2 with ⟨k1, k2⟩ | ⟨k1, k2⟩ | ⟨k1, k2⟩ <;> grind
  · have lm := List.length_pos_iff.2 hm
    have PL : (b :: c :: (mid ++ [a])).length = mid.length + 3 := by simp
    by_cases he : ∀ p ∈ mid, ¬ InC a b c p
    · -- the outermost corner is an ear
      have S' := cut_simple S h hm he
      have L' : (c :: (mid ++ [a])).length = mid.length + 2 := by simp
      have JP : Pos (c :: (mid ++ [a])) := by
        rcases IH _ (by omega) S' with k | k
        · exact k
        · exfalso
          have J : ∀ q, Off (c :: (mid ++ [a])) q → wn (c :: (mid ++ [a])) q = 0 ∨ wn (c :: (mid ++ [a])) q = -1 := fun q o => by
            have := k.num q o.rev
            rw [wn_rev] at this
            omega
          rcases cut_round S h hm he (.inr rfl) J with ⟨k, _⟩ | ⟨_, B⟩
          · omega
          · obtain ⟨q, o, e⟩ := one
            have := B q o
            omega
      have num : ∀ q, Off (b :: c :: (mid ++ [a])) q → wn (b :: c :: (mid ++ [a])) q = 0 ∨ wn (b :: c :: (mid ++ [a])) q = 1 := by
        rcases cut_round S h hm he (.inl rfl) JP.num with ⟨_, A, _⟩ | ⟨k, _⟩
        · exact A
        · omega
      have EB : EarP (b :: c :: (mid ++ [a])) a b c := ⟨E1, E2, h, fun p hp p1 p2 p3 => by
        simp only [List.mem_cons, List.mem_append, List.not_mem_nil, or_false] at hp
        rcases hp with k | k | k | k
        · exact absurd k p2
        · exact absurd k p3
        · exact he p k
        · exact absurd k p1⟩
      have lift : ∀ x e y, e ≠ a → e ≠ c → EarP (c :: (mid ++ [a])) x e y → EarP (b :: c :: (mid ++ [a])) x e y := fun x e y ea ec E => by
        have up : ∀ g, g ∈ eds (c :: (mid ++ [a])) → g ≠ (a, c) → g ∈ eds (b :: c :: (mid ++ [a])) := fun g k ne => by
          rw [eds_cut, List.mem_append, List.mem_singleton] at k
          rcases k with k | k
          · rw [eds_at]; simp [k]
          · exact absurd k ne
        refine ⟨up _ E.e1 (fun k => ec (congrArg Prod.snd k)), up _ E.e2 (fun k => ea (congrArg Prod.fst k)), E.pos, fun p hp p1 p2 p3 i => ?_⟩
        rcases List.mem_cons.1 hp with rfl | hp
        · have := fl_in E.pos i (hf x (ed_mem E.e1).1) (hf e (ed_mem E.e1).2) (hf y (ed_mem E.e2).2)
          grind
        · exact E.emp p hp p1 p2 p3 i
      have nb : ∀ e, e ≠ a → e ≠ c → (b, e) ∉ eds (b :: c :: (mid ++ [a])) ∧ (e, b) ∉ eds (b :: c :: (mid ++ [a])) := fun e ea ec => by
        rw [eds_at]
        simp only [List.mem_cons, List.mem_append, List.not_mem_nil, or_false, Prod.mk.injEq]
        constructor
        · rintro (k | k | k)
          · exact ec k.2
          · exact (List.mem_cons.1 (pe_ends k).1).elim n1 n2
          · exact n3 k.1
        · rintro (k | k | k)
          · exact n1 k.2
          · exact (List.mem_append.1 (pe_ends k).2).elim n2 (fun h => n3 (List.mem_singleton.1 h))
          · exact ea k.1
      have fin : ∀ x e y, e ≠ a → e ≠ c → EarP (c :: (mid ++ [a])) x e y → Two (b :: c :: (mid ++ [a])) := fun x e y ea ec E => by
        have eP := (ed_mem E.e2).1
        exact ⟨a, b, c, x, e, y, EB, lift x e y ea ec E, fun k => by have := hf e eP; rw [k] at this; grind, (nb e ea ec).1, (nb e ea ec).2⟩
      refine ⟨num, fun _ => ?_, fun k => by omega⟩
      by_cases l4 : 4 ≤ (c :: (mid ++ [a])).length
      · have ac : (a, c) ∈ eds (c :: (mid ++ [a])) := by rw [eds_cut]; simp
        obtain ⟨a1, b1, c1, a2, b2, c2, F1, F2, hne, h4, h5⟩ := JP.two l4
        by_cases k1 : b1 = a ∨ b1 = c
        · by_cases k2 : b2 = a ∨ b2 = c
          · exfalso
            rcases k1 with rfl | rfl <;> rcases k2 with rfl | rfl
            · exact hne rfl
            · exact h4 ac
            · exact h5 ac
            · exact hne rfl
          · exact fin a2 b2 c2 (fun k => k2 (.inl k)) (fun k => k2 (.inr k)) F2
        · exact fin a1 b1 c1 (fun k => k1 (.inl k)) (fun k => k1 (.inr k)) F1
      · match mid, hm, JP, L', n4, n6, fin, l4 with
        | [d], _, JP, _, n4, n6, fin, _ =>
          have x1 : (c, d) ∈ eds (c :: ([d] ++ [a])) := by simp [eds, pe]
          have x2 : (d, a) ∈ eds (c :: ([d] ++ [a])) := by simp [eds, pe]
          exact fin c d a (fun k => n6 (by simp [k])) (fun k => n4 (by simp [k])) ⟨x1, x2, JP.tri rfl _ _ _ x1 x2, fun p hp p1 p2 p3 => by simp at hp; grind⟩
        | _ :: _ :: _, _, _, L', _, _, _, l4 => simp at l4
    · -- a free segment from the outermost corner
      have hex : ∃ p ∈ mid, InC a b c p := by
        false_or_by_contra
        rename_i k
        exact he (fun p hp i => k ⟨p, hp, i⟩)
      obtain ⟨z, zm, iz, hmax⟩ := arg_maxP (jc c a) (InC a b c) mid hex
      obtain ⟨z1, z2, df⟩ := diag_free S h zm iz hmax
      obtain ⟨m1, m2, rfl⟩ := List.append_of_mem zm
      have nd := n7
      rw [List.nodup_append] at nd
      obtain ⟨nd1, nd2, nd3⟩ := nd
      have zm2 := (List.nodup_cons.1 nd2).1
      have nd2' := (List.nodup_cons.1 nd2).2
      have zm1 : z ∉ m1 := fun k => nd3 z k z (by simp) rfl
      have dis : ∀ x, x ∈ m1 → x ∈ m2 → False := fun x k1 k2 => nd3 x k1 x (by simp [k2]) rfl
      simp only [List.mem_append, List.mem_cons, not_or] at n2 n4 n6
      obtain ⟨b1, bz, b2⟩ := n2
      obtain ⟨c1, cz, c2⟩ := n4
      obtain ⟨a1, az, a2⟩ := n6
      have bP : b ∈ b :: c :: ((m1 ++ z :: m2) ++ [a]) := by simp
      have zP : z ∈ b :: c :: ((m1 ++ z :: m2) ++ [a]) := by simp
      have edP : ∀ g, g ∈ eds (b :: c :: ((m1 ++ z :: m2) ++ [a])) ↔ g = (b, c) ∨ g ∈ pe c (m1 ++ [z]) ∨ g ∈ pe z (m2 ++ [a]) ∨ g = (a, b) := fun g => by
        rw [eds_at, List.append_assoc, List.cons_append, pe_app]
        simp only [List.mem_cons, List.mem_append, List.not_mem_nil, or_false, or_assoc]
      have ed1 : ∀ g, g ∈ eds (b :: c :: (m1 ++ [z])) ↔ g = (b, c) ∨ g ∈ pe c (m1 ++ [z]) ∨ g = (z, b) := fun g => by
        rw [eds_at]
        simp only [List.mem_cons, List.mem_append, List.not_mem_nil, or_false]
      have ed2 : ∀ g, g ∈ eds (b :: z :: (m2 ++ [a])) ↔ g = (b, z) ∨ g ∈ pe z (m2 ++ [a]) ∨ g = (a, b) := fun g => by
        rw [eds_at]
        simp only [List.mem_cons, List.mem_append, List.not_mem_nil, or_false]
      have e1x : ∀ g, g ∈ pe c (m1 ++ [z]) → (g.1 = c ∨ g.1 ∈ m1) ∧ (g.2 ∈ m1 ∨ g.2 = z) := fun g k => ⟨List.mem_cons.1 (pe_ends k).1, by have := List.mem_append.1 (pe_ends k).2; simpa using this⟩
      have e2x : ∀ g, g ∈ pe z (m2 ++ [a]) → (g.1 = z ∨ g.1 ∈ m2) ∧ (g.2 ∈ m2 ∨ g.2 = a) := fun g k => ⟨List.mem_cons.1 (pe_ends k).1, by have := List.mem_append.1 (pe_ends k).2; simpa using this⟩
      have hE1 : ∀ e ∈ eds (b :: c :: (m1 ++ [z])), e ∈ eds (b :: c :: ((m1 ++ z :: m2) ++ [a])) ∨ e = (z, b) ∨ e = (b, z) := fun e k => by
        rw [ed1] at k; rw [edP]; grind
      have hE2 : ∀ e ∈ eds (b :: z :: (m2 ++ [a])), e ∈ eds (b :: c :: ((m1 ++ z :: m2) ++ [a])) ∨ e = (z, b) ∨ e = (b, z) := fun e k => by
        rw [ed2] at k; rw [edP]; grind
      have zb1 : (z, b) ∈ eds (b :: c :: (m1 ++ [z])) := by rw [ed1]; simp
      have bz2 : (b, z) ∈ eds (b :: z :: (m2 ++ [a])) := by rw [ed2]; simp
      have S1 : SimJ (b :: c :: (m1 ++ [z])) := by
        refine part_simple S bP zP df hE1 ?_ (by simp) ?_
        · rintro ⟨_, k⟩
          rw [ed1] at k
          rcases k with k | k | k
          · exact cz (congrArg Prod.snd k).symm
          · have := (e1x _ k).1; simp only at this; grind
          · exact bz (congrArg Prod.fst k)
        · simp only [List.nodup_cons, List.nodup_append, List.mem_cons, List.mem_append, List.not_mem_nil, or_false, not_or]
          exact ⟨⟨n1, b1, bz⟩, ⟨c1, cz⟩, nd1, by simp, fun x hx y hy => by rintro rfl; rw [hy] at hx; exact zm1 hx⟩
      have S2 : SimJ (b :: z :: (m2 ++ [a])) := by
        refine part_simple S bP zP df hE2 ?_ (by simp) ?_
        · rintro ⟨k, _⟩
          rw [ed2] at k
          rcases k with k | k | k
          · exact bz (congrArg Prod.snd k)
          · have := (e2x _ k).2; simp only at this; grind
          · exact az (congrArg Prod.fst k).symm
        · simp only [List.nodup_cons, List.nodup_append, List.mem_cons, List.mem_append, List.not_mem_nil, or_false, not_or]
          exact ⟨⟨bz, b2, n3⟩, ⟨zm2, fun k => az k.symm⟩, nd2', by simp, fun x hx y hy => by rintro rfl; rw [hy] at hx; exact a2 hx⟩
      have L1 : (b :: c :: (m1 ++ [z])).length < (m1 ++ z :: m2).length + 3 := by simp <;> omega
      have L2 : (b :: z :: (m2 ++ [a])).length < (m1 ++ z :: m2).length + 3 := by simp <;> omega
      have hf1 : ∀ p ∈ c :: (m1 ++ [z]), fl α β b < fl α β p := fun p hp => hf p (by simp only [List.mem_cons, List.mem_append, List.not_mem_nil, or_false] at hp ⊢; grind)
      have hf2 : ∀ p ∈ z :: (m2 ++ [a]), fl α β b < fl α β p := fun p hp => hf p (by simp only [List.mem_cons, List.mem_append, List.not_mem_nil, or_false] at hp ⊢; grind)
      have one1 := ext_one (b := b) (c := c) (mid := m1) (a := z) (by rw [← jc_rot]; exact z2) hf1
      have one2 := ext_one (b := b) (c := z) (mid := m2) (a := a) z1 hf2
      have J1 := pos_of_one (IH _ L1 S1) one1
      have J2 := pos_of_one (IH _ L2 S2) one2
      have jz1 : jc b z a = jc a b z := jc_rot a b z
      have jz2 : jc b z c = -jc b c z := by unfold jc; grind
      have diagOff : ∀ p, p ∈ b :: c :: ((m1 ++ z :: m2) ++ [a]) → OnJ b z p → p = b ∨ p = z := fun p hp o => by
        obtain ⟨y, hy⟩ := out_ed hp
        exact df (p, y) hy p (on_fst p y) o
      have out1 : ∀ p ∈ b :: c :: ((m1 ++ z :: m2) ++ [a]), p ∉ b :: c :: (m1 ++ [z]) → Off (b :: c :: (m1 ++ [z])) p ∧ wn (b :: c :: (m1 ++ [z])) p = 0 := by
        have wa : wn (b :: c :: (m1 ++ [z])) a = 0 := by
          refine beside (b := b) (z := z) (y := c) (k := a) (s := 1) (α := α) (β := β) ?_ ?_ (hf c (by simp)) (by rw [jz1]; grind) (by rw [jz2]; grind) ?_
          · intro e k
            have k0 := k
            rw [ed1] at k
            rcases k with k | k | k
            · exact .inr (.inr (.inl k))
            · refine .inr (.inr (.inr (.inr fun o => ?_)))
              have := S.corner bP ((edP e).2 (.inr (.inl k))) o
              have := e1x e k
              grind
            · exact .inr (.inl k)
          · intro p hp
            rcases List.mem_cons.1 hp with rfl | hp
            · grind
            · have := hf1 p hp; grind
          · intro e k x o o'
            rcases hE1 e k with k2 | rfl | rfl
            · rw [ed1] at k
              have ne : e ≠ (a, b) := by
                rintro rfl
                rcases k with k | k | k
                · exact n1 (congrArg Prod.snd k)
                · have := (e1x _ k).2; simp only at this; grind
                · exact az (congrArg Prod.fst k)
              have := S.cr e k2 (a, b) E1 ne x o (on_swap o')
              rcases this.2 with r | r
              · have ek := this.1
                simp only at r
                subst r
                rcases k with rfl | k | rfl
                · simp only at ek; grind
                · have := e1x e k; grind
                · simp only at ek; grind
              · exact r
            · rcases df (a, b) E1 x (on_swap o') (on_swap o) with r | r
              · exact r
              · exfalso
                subst r
                have := S.corner zP E1 (on_swap o')
                simp only at this; grind
            · rcases df (a, b) E1 x (on_swap o') o with r | r
              · exact r
              · exfalso
                subst r
                have := S.corner zP E1 (on_swap o')
                simp only at this; grind
        have all : ∀ p ∈ m2 ++ [a], wn (b :: c :: (m1 ++ [z])) p = 0 := by
          cases m2 with
          | nil => intro p hp; simp at hp; rw [hp]; exact wa
          | cons hd m2 =>
            refine chain_last m2 hd a ?_ wa
            intro e k e' k'
            have kz : e ∈ pe z ((hd :: m2) ++ [a]) := by simp only [List.cons_append, pe, List.mem_cons]; exact .inr k
            have eP := (edP e).2 (.inr (.inr (.inl kz)))
            have en : (e.1 = hd ∨ e.1 ∈ m2) ∧ (e.2 ∈ m2 ∨ e.2 = a) := ⟨List.mem_cons.1 (pe_ends k).1, by have := List.mem_append.1 (pe_ends k).2; simpa using this⟩
            simp only [List.mem_cons, not_or] at b2 c2 a2 zm2 dis
            have D : ∀ x, x ∈ m1 → x ≠ hd ∧ x ∉ m2 := fun x hx => ⟨fun k => dis x hx (.inl k), fun k => dis x hx (.inr k)⟩
            have mem' := ed_mem k'
            simp only [List.mem_cons, List.mem_append, List.not_mem_nil, or_false] at mem'
            rcases hE1 e' k' with k2 | rfl | rfl
            · refine apart S eP k2 ?_ ?_ ?_ ?_ <;> grind
            · exact fun m => apart_diag S df bP zP eP (by grind) (by grind) (by grind) (by grind) (meet_swap m)
            · exact apart_diag S df bP zP eP (by grind) (by grind) (by grind) (by grind)
        intro p hp hq
        refine ⟨fun e k o => ?_, ?_⟩
        · rcases hE1 e k with k2 | rfl | rfl
          · have m := ed_mem k
            rcases S.corner hp k2 o with r | r
            · exact hq (r ▸ m.1)
            · exact hq (r ▸ m.2)
          · rcases diagOff p hp (on_swap o) with r | r <;> exact hq (by rw [r]; simp)
          · rcases diagOff p hp o with r | r <;> exact hq (by rw [r]; simp)
        · apply all
          simp only [List.mem_cons, List.mem_append, List.not_mem_nil, or_false, not_or] at hp hq ⊢
          grind
      have out2 : ∀ p ∈ b :: c :: ((m1 ++ z :: m2) ++ [a]), p ∉ b :: z :: (m2 ++ [a]) → Off (b :: z :: (m2 ++ [a])) p ∧ wn (b :: z :: (m2 ++ [a])) p = 0 := by
        have wc : wn (b :: z :: (m2 ++ [a])) c = 0 := by
          refine beside (b := b) (z := z) (y := a) (k := c) (s := -1) (α := α) (β := β) ?_ ?_ (hf a (by simp)) (by rw [jz2]; grind) (by rw [jz1]; grind) ?_
          · intro e k
            rw [ed2] at k
            rcases k with k | k | k
            · exact .inl k
            · refine .inr (.inr (.inr (.inr fun o => ?_)))
              have := S.corner bP ((edP e).2 (.inr (.inr (.inl k)))) o
              have := e2x e k
              grind
            · exact .inr (.inr (.inr (.inl k)))
          · intro p hp
            rcases List.mem_cons.1 hp with rfl | hp
            · grind
            · have := hf2 p hp; grind
          · intro e k x o o'
            rcases hE2 e k with k2 | rfl | rfl
            · rw [ed2] at k
              have ne : e ≠ (b, c) := by
                rintro rfl
                rcases k with k | k | k
                · exact cz (congrArg Prod.snd k)
                · have := (e2x _ k).1; simp only at this; grind
                · exact n3 (congrArg Prod.fst k)
              have := S.cr e k2 (b, c) E2 ne x o o'
              rcases this.2 with r | r
              · exact r
              · have ek := this.1
                simp only at r
                subst r
                rcases k with rfl | k | rfl
                · simp only at ek; grind
                · have := e2x e k; grind
                · simp only at ek; grind
            · rcases df (b, c) E2 x o' (on_swap o) with r | r
              · exact r
              · exfalso
                subst r
                have := S.corner zP E2 o'
                simp only at this; grind
            · rcases df (b, c) E2 x o' o with r | r
              · exact r
              · exfalso
                subst r
                have := S.corner zP E2 o'
                simp only at this; grind
        have all : ∀ p ∈ c :: m1, wn (b :: z :: (m2 ++ [a])) p = 0 := by
          refine chain_first m1 c ?_ wc
          intro e k e' k'
          have eP := (edP e).2 (.inr (.inl (pe_sub k)))
          have en := pe_mem k
          simp only [List.mem_cons] at en
          have mem' := ed_mem k'
          simp only [List.mem_cons, List.mem_append, List.not_mem_nil, or_false] at mem'
          rcases hE2 e' k' with k2 | rfl | rfl
          · refine apart S eP k2 ?_ ?_ ?_ ?_ <;> grind
          · exact fun m => apart_diag S df bP zP eP (by grind) (by grind) (by grind) (by grind) (meet_swap m)
          · exact apart_diag S df bP zP eP (by grind) (by grind) (by grind) (by grind)
        intro p hp hq
        refine ⟨fun e k o => ?_, ?_⟩
        · rcases hE2 e k with k2 | rfl | rfl
          · have m := ed_mem k
            rcases S.corner hp k2 o with r | r
            · exact hq (r ▸ m.1)
            · exact hq (r ▸ m.2)
          · rcases diagOff p hp (on_swap o) with r | r <;> exact hq (by rw [r]; simp)
          · rcases diagOff p hp o with r | r <;> exact hq (by rw [r]; simp)
        · apply all
          simp only [List.mem_cons, List.mem_append, List.not_mem_nil, or_false, not_or] at hp hq ⊢
          grind
      obtain ⟨u1, x1, v1, xm1, xb1, xz1, F1⟩ := part_ear S1 J1 one1 (fun R l s => IHn R (by omega) s) hE1 (.inl zb1) out1
      obtain ⟨u2, x2, v2, xm2, xb2, xz2, F2⟩ := part_ear S2 J2 one2 (fun R l s => IHn R (by omega) s) hE2 (.inr bz2) out2
      simp only [List.mem_cons, List.mem_append, List.not_mem_nil, or_false] at xm1 xm2
      have N := ear_num S F1 (by rw [PL]; omega) one (fun R l s => IHn R (by rw [PL] at l; exact l) s)
      refine ⟨N.1, fun _ => ⟨u1, x1, v1, u2, x2, v2, F1, F2, ?_, ?_, ?_⟩, fun k => by omega⟩
      · grind
      · rw [edP]
        rintro (k | k | k | k)
        · exact xb1 (congrArg Prod.fst k)
        · have := (e1x _ k).2; simp only at this; grind
        · have := (e2x _ k).1; simp only at this; grind
        · exact xb2 (congrArg Prod.snd k)
      · rw [edP]
        rintro (k | k | k | k)
        · exact xb2 (congrArg Prod.fst k)
        · have := (e1x _ k).1; simp only at this; grind
        · have := (e2x _ k).2; simp only at this; grind
        · exact xb1 (congrArg Prod.snd k)
end Go.Proofs.Yteconjkjpalomaa.Jor
