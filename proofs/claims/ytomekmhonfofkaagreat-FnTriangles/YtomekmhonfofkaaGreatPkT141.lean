/- IsTriangulation of the program by value. No condition beyond those typed. Written by mkit11.py. -/
import Derived.Test.YtomekmhonfofkaaGreatPkT140
import Derived.Test.YtomekmhonfofkaaGreatSp8X
import Derived.Test.YtomekmhonfofkaaGreatSp8T
import Derived.Test.YtomekmhonfofkaaGreatLaw2
import Derived.Test.YtomekmhonfofkaaGreatDr8
import Derived.Test.YtomekmhonfofkaaGreatEa11
import Derived.Test.YtomekmhonfofkaaGreatSimE8
import Derived.Test.YtomekmhonfofkaaGreatGs11
import Derived.Test.YtomekmhonfofkaaGreatSeg8
import Derived.Maps.AppendAt
import Derived.OwnWalk
import Derived.Test.YtomekmhonfofkaaGreatDr11
namespace Go.Proofs.YtomekmhonfofkaaGreat.Jor
set_option linter.unusedVariables false
set_option maxRecDepth 100000
set_option linter.unusedSimpArgs false

/-- Numbers by an ear. -/
theorem ear_num {P : List Q2} (S : SimJ P) {u e v : Q2} (E : EarP P u e v) (n4 : 4 ≤ P.length) (one : ∃ q, Off P q ∧ wn P q = 1)
    (IH : ∀ R : List Q2, R.length < P.length → SimJ R → ∃ σ : Int, (σ = 1 ∨ σ = -1) ∧ ∀ q, Off R q → wn R q = 0 ∨ wn R q = σ) :
    (∀ q, Off P q → wn P q = 0 ∨ wn P q = 1) ∧ (∀ q, Off P q → InC u e v q → wn P q = 1) := by
  obtain ⟨mid, s⟩ := ear_form S E.e1 E.e2
  have S' := S.same s
  have hm : mid ≠ [] := by
    rintro rfl
    have := s.len
    simp at this
    omega
  obtain ⟨m1, m2, m3, m4, m5, m6, m7⟩ := nd_at S'.nd
  have he : ∀ p ∈ mid, ¬ InC u e v p := fun p hp => E.emp p ((s.mem p).1 (by simp [hp])) (fun k => m6 (k ▸ hp)) (fun k => m2 (k ▸ hp)) (fun k => m4 (k ▸ hp))
  obtain ⟨σ, hσ, J⟩ := IH (v :: (mid ++ [u])) (by have := s.len; simp only [List.length_cons] at this ⊢; omega) (cut_simple S' E.pos hm he)
  rcases cut_round S' E.pos hm he hσ J with ⟨_, A1, A2⟩ | ⟨_, B⟩
  · exact ⟨fun q o => by rw [← s.wn]; exact A1 q (o.same s), fun q o i => by rw [← s.wn]; exact A2 q (o.same s) i⟩
  · obtain ⟨q, oq, wq⟩ := one
    have := B q (oq.same s)
    rw [s.wn] at this
    omega
/-- A part cut off along a free segment is simple. -/
theorem part_simple {P Q : List Q2} {b z : Q2} (S : SimJ P) (hb : b ∈ P) (hz : z ∈ P) (df : ∀ e ∈ eds P, ∀ x, OnJ e.1 e.2 x → OnJ b z x → x = b ∨ x = z)
    (hE : ∀ e ∈ eds Q, e ∈ eds P ∨ e = (z, b) ∨ e = (b, z)) (h1 : ¬ ((z, b) ∈ eds Q ∧ (b, z) ∈ eds Q)) (n3 : 3 ≤ Q.length) (nd : Q.Nodup) : SimJ Q := by
  have two : ∀ e ∈ eds P, ∀ x, OnJ e.1 e.2 x → OnJ b z x → (x = e.1 ∨ x = e.2) ∧ (x = b ∨ x = z) := fun e he x o o' => by
    have k := df e he x o o'
    refine ⟨S.corner ?_ he o, k⟩
    rcases k with rfl | rfl
    · exact hb
    · exact hz
  refine ⟨n3, nd, fun e he e' he' hne x o o' => ?_⟩
  rcases hE e he with k | rfl | rfl <;> rcases hE e' he' with k' | rfl | rfl
  · exact S.cr e k e' k' hne x o o'
  · have := two e k x o (on_swap o'); exact ⟨this.1, this.2.symm⟩
  · exact two e k x o o'
  · have := two e' k' x o' (on_swap o); exact ⟨this.2.symm, this.1⟩
  · exact absurd rfl hne
  · exact absurd ⟨he, he'⟩ h1
  · have := two e' k' x o' o; exact ⟨this.2, this.1⟩
  · exact absurd ⟨he', he⟩ h1
  · exact absurd rfl hne
theorem pe_sub {c : Q2} {l m : List Q2} {e : Q2 × Q2} (h : e ∈ pe c l) : e ∈ pe c (l ++ m) := by
  induction l generalizing c with
  | nil => simp [pe] at h
  | cons a l ih =>
    simp only [List.cons_append, pe, List.mem_cons] at h ⊢
    exact h.imp id ih
theorem num_of {R : List Q2} (h : Pos R ∨ Pos (rv R)) : ∃ σ : Int, (σ = 1 ∨ σ = -1) ∧ ∀ q, Off R q → wn R q = 0 ∨ wn R q = σ := by
  rcases h with h | h
  · exact ⟨1, .inl rfl, h.num⟩
  · refine ⟨-1, .inr rfl, fun q o => ?_⟩
    have := h.num q o.rev
    rw [wn_rev] at this
    omega
theorem pos_of_one {R : List Q2} (h : Pos R ∨ Pos (rv R)) (one : ∃ q, Off R q ∧ wn R q = 1) : Pos R := by
  rcases h with h | h
  · exact h
  · obtain ⟨q, o, e⟩ := one
    have := h.num q o.rev
    rw [wn_rev] at this
    omega
set_option maxHeartbeats 8000000 in
theorem step {b c : Q2} {mid : List Q2} {a : Q2} (S : SimJ (b :: c :: (mid ++ [a]))) (h : 0 < jc a b c) {α β : Rat} (hf : ∀ p ∈ c :: (mid ++ [a]), fl α β b < fl α β p)
    (IH : ∀ R : List Q2, R.length < mid.length + 3 → SimJ R → Pos R ∨ Pos (rv R)) : Pos (b :: c :: (mid ++ [a])) := by
  have one := ext_one h hf
  obtain ⟨n1, n2, n3, n4, n5, n6, n7⟩ := nd_at S.nd
  have E1 : (a, b) ∈ eds (b :: c :: (mid ++ [a])) := by rw [eds_at]; simp
  have E2 : (b, c) ∈ eds (b :: c :: (mid ++ [a])) := by rw [eds_at]; simp
  have IHn : ∀ R : List Q2, R.length < mid.length + 3 → SimJ R → ∃ σ : Int, (σ = 1 ∨ σ = -1) ∧ ∀ q, Off R q → wn R q = 0 ∨ wn R q = σ := fun R l s => num_of (IH R l s)
  by_cases hm : mid = []
  · subst hm
    have hb : 0 < jc b c a := by rw [jc_rot]; exact h
    have ed : eds (b :: c :: ([] ++ [a])) = [(b, c), (c, a), (a, b)] := rfl
    refine ⟨fun q o => ?_, fun l => by simp at l, fun _ x y w h1 h2 => ?_⟩
    · rw [Off, ed] at o
      have T := tri_num hb (o (b, c) (by simp)) (o (c, a) (by simp)) (o (a, b) (by simp))
      by_cases i : InC b c a q
      · exact .inr (T.1 i)
      · exact .inl (T.2 i)
    · rw [ed] at h1 h2
      simp only [List.mem_cons, List.not_mem_nil, or_false, Prod.mk.injEq] at h1 h2
      have r2 : 0 < jc c a b := by rw [jc_rot, jc_rot]; exact h
      rcases h1 with ⟨rfl, rfl⟩ | ⟨rfl, rfl⟩ | ⟨rfl, rfl⟩ <;> rcases h2 with ⟨k1, k2⟩ | ⟨k1, k2⟩ | ⟨k1, k2⟩ <;> grind
  · have lm := List.length_pos_iff.2 hm
    have PL : (b :: c :: (mid ++ [a])).length = mid.length + 3 := by simp
    by_cases he : ∀ p ∈ mid, ¬ InC a b c p
    · -- the outermost corner is an ear
      have S' := cut_simple S h hm he
      have L' : (c :: (mid ++ [a])).length = mid.length + 2 := by simp
      have JP : Pos (c :: (mid ++ [a])) := by
        rcases IH _ (by omega) S' with k | k
        · exact k
        · exfalso
          have J : ∀ q, Off (c :: (mid ++ [a])) q → wn (c :: (mid ++ [a])) q = 0 ∨ wn (c :: (mid ++ [a])) q = -1 := fun q o => by
            have := k.num q o.rev
            rw [wn_rev] at this
            omega
          rcases cut_round S h hm he (.inr rfl) J with ⟨k, _⟩ | ⟨_, B⟩
          · omega
          · obtain ⟨q, o, e⟩ := one
            have := B q o
            omega
      have num : ∀ q, Off (b :: c :: (mid ++ [a])) q → wn (b :: c :: (mid ++ [a])) q = 0 ∨ wn (b :: c :: (mid ++ [a])) q = 1 := by
        rcases cut_round S h hm he (.inl rfl) JP.num with ⟨_, A, _⟩ | ⟨k, _⟩
        · exact A
        · omega
      have EB : EarP (b :: c :: (mid ++ [a])) a b c := ⟨E1, E2, h, fun p hp p1 p2 p3 => by
        simp only [List.mem_cons, List.mem_append, List.not_mem_nil, or_false] at hp
        rcases hp with k | k | k | k
        · exact absurd k p2
        · exact absurd k p3
        · exact he p k
        · exact absurd k p1⟩
      have lift : ∀ x e y, e ≠ a → e ≠ c → EarP (c :: (mid ++ [a])) x e y → EarP (b :: c :: (mid ++ [a])) x e y := fun x e y ea ec E => by
        have up : ∀ g, g ∈ eds (c :: (mid ++ [a])) → g ≠ (a, c) → g ∈ eds (b :: c :: (mid ++ [a])) := fun g k ne => by
          rw [eds_cut, List.mem_append, List.mem_singleton] at k
          rcases k with k | k
          · rw [eds_at]; simp [k]
          · exact absurd k ne
        refine ⟨up _ E.e1 (fun k => ec (congrArg Prod.snd k)), up _ E.e2 (fun k => ea (congrArg Prod.fst k)), E.pos, fun p hp p1 p2 p3 i => ?_⟩
        rcases List.mem_cons.1 hp with rfl | hp
        · have := fl_in E.pos i (hf x (ed_mem E.e1).1) (hf e (ed_mem E.e1).2) (hf y (ed_mem E.e2).2)
          grind
        · exact E.emp p hp p1 p2 p3 i
      have nb : ∀ e, e ≠ a → e ≠ c → (b, e) ∉ eds (b :: c :: (mid ++ [a])) ∧ (e, b) ∉ eds (b :: c :: (mid ++ [a])) := fun e ea ec => by
        rw [eds_at]
        simp only [List.mem_cons, List.mem_append, List.not_mem_nil, or_false, Prod.mk.injEq]
        constructor
        · rintro (k | k | k)
          · exact ec k.2
          · exact (List.mem_cons.1 (pe_ends k).1).elim n1 n2
          · exact n3 k.1
        · rintro (k | k | k)
          · exact n1 k.2
          · exact (List.mem_append.1 (pe_ends k).2).elim n2 (fun h => n3 (List.mem_singleton.1 h))
          · exact ea k.1
      have fin : ∀ x e y, e ≠ a → e ≠ c → EarP (c :: (mid ++ [a])) x e y → Two (b :: c :: (mid ++ [a])) := fun x e y ea ec E => by
        have eP := (ed_mem E.e2).1
        exact ⟨a, b, c, x, e, y, EB, lift x e y ea ec E, fun k => by have := hf e eP; rw [k] at this; grind, (nb e ea ec).1, (nb e ea ec).2⟩
      refine ⟨num, fun _ => ?_, fun k => by omega⟩
      by_cases l4 : 4 ≤ (c :: (mid ++ [a])).length
      · have ac : (a, c) ∈ eds (c :: (mid ++ [a])) := by rw [eds_cut]; simp
        obtain ⟨a1, b1, c1, a2, b2, c2, F1, F2, hne, h4, h5⟩ := JP.two l4
        by_cases k1 : b1 = a ∨ b1 = c
        · by_cases k2 : b2 = a ∨ b2 = c
          · exfalso
            rcases k1 with rfl | rfl <;> rcases k2 with rfl | rfl
            · exact hne rfl
            · exact h4 ac
            · exact h5 ac
            · exact hne rfl
          · exact fin a2 b2 c2 (fun k => k2 (.inl k)) (fun k => k2 (.inr k)) F2
        · exact fin a1 b1 c1 (fun k => k1 (.inl k)) (fun k => k1 (.inr k)) F1
      · match mid, hm, JP, L', n4, n6, fin, l4 with
        | [d], _, JP, _, n4, n6, fin, _ =>
          have x1 : (c, d) ∈ eds (c :: ([d] ++ [a])) := by simp [eds, pe]
          have x2 : (d, a) ∈ eds (c :: ([d] ++ [a])) := by simp [eds, pe]
          exact fin c d a (fun k => n6 (by simp [k])) (fun k => n4 (by simp [k])) ⟨x1, x2, JP.tri rfl _ _ _ x1 x2, fun p hp p1 p2 p3 => by simp at hp; grind⟩
        | _ :: _ :: _, _, _, L', _, _, _, l4 => simp at l4
    · -- a free segment from the outermost corner
      have hex : ∃ p ∈ mid, InC a b c p := by
        false_or_by_contra
        rename_i k
        exact he (fun p hp i => k ⟨p, hp, i⟩)
      obtain ⟨z, zm, iz, hmax⟩ := arg_maxP (jc c a) (InC a b c) mid hex
      obtain ⟨z1, z2, df⟩ := diag_free S h zm iz hmax
      obtain ⟨m1, m2, rfl⟩ := List.append_of_mem zm
      have nd := n7
      rw [List.nodup_append] at nd
      obtain ⟨nd1, nd2, nd3⟩ := nd
      have zm2 := (List.nodup_cons.1 nd2).1
      have nd2' := (List.nodup_cons.1 nd2).2
      have zm1 : z ∉ m1 := fun k => nd3 z k z (by simp) rfl
      have dis : ∀ x, x ∈ m1 → x ∈ m2 → False := fun x k1 k2 => nd3 x k1 x (by simp [k2]) rfl
      simp only [List.mem_append, List.mem_cons, not_or] at n2 n4 n6
      obtain ⟨b1, bz, b2⟩ := n2
      obtain ⟨c1, cz, c2⟩ := n4
      obtain ⟨a1, az, a2⟩ := n6
      have bP : b ∈ b :: c :: ((m1 ++ z :: m2) ++ [a]) := by simp
      have zP : z ∈ b :: c :: ((m1 ++ z :: m2) ++ [a]) := by simp
      have edP : ∀ g, g ∈ eds (b :: c :: ((m1 ++ z :: m2) ++ [a])) ↔ g = (b, c) ∨ g ∈ pe c (m1 ++ [z]) ∨ g ∈ pe z (m2 ++ [a]) ∨ g = (a, b) := fun g => by
        rw [eds_at, List.append_assoc, List.cons_append, pe_app]
        simp only [List.mem_cons, List.mem_append, List.not_mem_nil, or_false, or_assoc]
      have ed1 : ∀ g, g ∈ eds (b :: c :: (m1 ++ [z])) ↔ g = (b, c) ∨ g ∈ pe c (m1 ++ [z]) ∨ g = (z, b) := fun g => by
        rw [eds_at]
        simp only [List.mem_cons, List.mem_append, List.not_mem_nil, or_false]
      have ed2 : ∀ g, g ∈ eds (b :: z :: (m2 ++ [a])) ↔ g = (b, z) ∨ g ∈ pe z (m2 ++ [a]) ∨ g = (a, b) := fun g => by
        rw [eds_at]
        simp only [List.mem_cons, List.mem_append, List.not_mem_nil, or_false]
      have e1x : ∀ g, g ∈ pe c (m1 ++ [z]) → (g.1 = c ∨ g.1 ∈ m1) ∧ (g.2 ∈ m1 ∨ g.2 = z) := fun g k => ⟨List.mem_cons.1 (pe_ends k).1, by have := List.mem_append.1 (pe_ends k).2; simpa using this⟩
      have e2x : ∀ g, g ∈ pe z (m2 ++ [a]) → (g.1 = z ∨ g.1 ∈ m2) ∧ (g.2 ∈ m2 ∨ g.2 = a) := fun g k => ⟨List.mem_cons.1 (pe_ends k).1, by have := List.mem_append.1 (pe_ends k).2; simpa using this⟩
      have hE1 : ∀ e ∈ eds (b :: c :: (m1 ++ [z])), e ∈ eds (b :: c :: ((m1 ++ z :: m2) ++ [a])) ∨ e = (z, b) ∨ e = (b, z) := fun e k => by
        rw [ed1] at k; rw [edP]; grind
      have hE2 : ∀ e ∈ eds (b :: z :: (m2 ++ [a])), e ∈ eds (b :: c :: ((m1 ++ z :: m2) ++ [a])) ∨ e = (z, b) ∨ e = (b, z) := fun e k => by
        rw [ed2] at k; rw [edP]; grind
      have zb1 : (z, b) ∈ eds (b :: c :: (m1 ++ [z])) := by rw [ed1]; simp
      have bz2 : (b, z) ∈ eds (b :: z :: (m2 ++ [a])) := by rw [ed2]; simp
      have S1 : SimJ (b :: c :: (m1 ++ [z])) := by
        refine part_simple S bP zP df hE1 ?_ (by simp) ?_
        · rintro ⟨_, k⟩
          rw [ed1] at k
          rcases k with k | k | k
          · exact cz (congrArg Prod.snd k).symm
          · have := (e1x _ k).1; simp only at this; grind
          · exact bz (congrArg Prod.fst k)
        · simp only [List.nodup_cons, List.nodup_append, List.mem_cons, List.mem_append, List.not_mem_nil, or_false, not_or]
          exact ⟨⟨n1, b1, bz⟩, ⟨c1, cz⟩, nd1, by simp, fun x hx y hy => by rintro rfl; rw [hy] at hx; exact zm1 hx⟩
      have S2 : SimJ (b :: z :: (m2 ++ [a])) := by
        refine part_simple S bP zP df hE2 ?_ (by simp) ?_
        · rintro ⟨k, _⟩
          rw [ed2] at k
          rcases k with k | k | k
          · exact bz (congrArg Prod.snd k)
          · have := (e2x _ k).2; simp only at this; grind
          · exact az (congrArg Prod.fst k).symm
        · simp only [List.nodup_cons, List.nodup_append, List.mem_cons, List.mem_append, List.not_mem_nil, or_false, not_or]
          exact ⟨⟨bz, b2, n3⟩, ⟨zm2, fun k => az k.symm⟩, nd2', by simp, fun x hx y hy => by rintro rfl; rw [hy] at hx; exact a2 hx⟩
      have L1 : (b :: c :: (m1 ++ [z])).length < (m1 ++ z :: m2).length + 3 := by simp <;> omega
      have L2 : (b :: z :: (m2 ++ [a])).length < (m1 ++ z :: m2).length + 3 := by simp <;> omega
      have hf1 : ∀ p ∈ c :: (m1 ++ [z]), fl α β b < fl α β p := fun p hp => hf p (by simp only [List.mem_cons, List.mem_append, List.not_mem_nil, or_false] at hp ⊢; grind)
      have hf2 : ∀ p ∈ z :: (m2 ++ [a]), fl α β b < fl α β p := fun p hp => hf p (by simp only [List.mem_cons, List.mem_append, List.not_mem_nil, or_false] at hp ⊢; grind)
      have one1 := ext_one (b := b) (c := c) (mid := m1) (a := z) (by rw [← jc_rot]; exact z2) hf1
      have one2 := ext_one (b := b) (c := z) (mid := m2) (a := a) z1 hf2
      have J1 := pos_of_one (IH _ L1 S1) one1
      have J2 := pos_of_one (IH _ L2 S2) one2
      have jz1 : jc b z a = jc a b z := jc_rot a b z
      have jz2 : jc b z c = -jc b c z := by unfold jc; grind
      have diagOff : ∀ p, p ∈ b :: c :: ((m1 ++ z :: m2) ++ [a]) → OnJ b z p → p = b ∨ p = z := fun p hp o => by
        obtain ⟨y, hy⟩ := out_ed hp
        exact df (p, y) hy p (on_fst p y) o
      have out1 : ∀ p ∈ b :: c :: ((m1 ++ z :: m2) ++ [a]), p ∉ b :: c :: (m1 ++ [z]) → Off (b :: c :: (m1 ++ [z])) p ∧ wn (b :: c :: (m1 ++ [z])) p = 0 := by
        have wa : wn (b :: c :: (m1 ++ [z])) a = 0 := by
          refine beside (b := b) (z := z) (y := c) (k := a) (s := 1) (α := α) (β := β) ?_ ?_ (hf c (by simp)) (by rw [jz1]; grind) (by rw [jz2]; grind) ?_
          · intro e k
            have k0 := k
            rw [ed1] at k
            rcases k with k | k | k
            · exact .inr (.inr (.inl k))
            · refine .inr (.inr (.inr (.inr fun o => ?_)))
              have := S.corner bP ((edP e).2 (.inr (.inl k))) o
              have := e1x e k
              grind
            · exact .inr (.inl k)
          · intro p hp
            rcases List.mem_cons.1 hp with rfl | hp
            · grind
            · have := hf1 p hp; grind
          · intro e k x o o'
            rcases hE1 e k with k2 | rfl | rfl
            · rw [ed1] at k
              have ne : e ≠ (a, b) := by
                rintro rfl
                rcases k with k | k | k
                · exact n1 (congrArg Prod.snd k)
                · have := (e1x _ k).2; simp only at this; grind
                · exact az (congrArg Prod.fst k)
              have := S.cr e k2 (a, b) E1 ne x o (on_swap o')
              rcases this.2 with r | r
              · have ek := this.1
                simp only at r
                subst r
                rcases k with rfl | k | rfl
                · simp only at ek; grind
                · have := e1x e k; grind
                · simp only at ek; grind
              · exact r
            · rcases df (a, b) E1 x (on_swap o') (on_swap o) with r | r
              · exact r
              · exfalso
                subst r
                have := S.corner zP E1 (on_swap o')
                simp only at this; grind
            · rcases df (a, b) E1 x (on_swap o') o with r | r
              · exact r
              · exfalso
                subst r
                have := S.corner zP E1 (on_swap o')
                simp only at this; grind
        have all : ∀ p ∈ m2 ++ [a], wn (b :: c :: (m1 ++ [z])) p = 0 := by
          cases m2 with
          | nil => intro p hp; simp at hp; rw [hp]; exact wa
          | cons hd m2 =>
            refine chain_last m2 hd a ?_ wa
            intro e k e' k'
            have kz : e ∈ pe z ((hd :: m2) ++ [a]) := by simp only [List.cons_append, pe, List.mem_cons]; exact .inr k
            have eP := (edP e).2 (.inr (.inr (.inl kz)))
            have en : (e.1 = hd ∨ e.1 ∈ m2) ∧ (e.2 ∈ m2 ∨ e.2 = a) := ⟨List.mem_cons.1 (pe_ends k).1, by have := List.mem_append.1 (pe_ends k).2; simpa using this⟩
            simp only [List.mem_cons, not_or] at b2 c2 a2 zm2 dis
            have D : ∀ x, x ∈ m1 → x ≠ hd ∧ x ∉ m2 := fun x hx => ⟨fun k => dis x hx (.inl k), fun k => dis x hx (.inr k)⟩
            have mem' := ed_mem k'
            simp only [List.mem_cons, List.mem_append, List.not_mem_nil, or_false] at mem'
            rcases hE1 e' k' with k2 | rfl | rfl
            · refine apart S eP k2 ?_ ?_ ?_ ?_ <;> grind
            · exact fun m => apart_diag S df bP zP eP (by grind) (by grind) (by grind) (by grind) (meet_swap m)
            · exact apart_diag S df bP zP eP (by grind) (by grind) (by grind) (by grind)
        intro p hp hq
        refine ⟨fun e k o => ?_, ?_⟩
        · rcases hE1 e k with k2 | rfl | rfl
          · have m := ed_mem k
            rcases S.corner hp k2 o with r | r
            · exact hq (r ▸ m.1)
            · exact hq (r ▸ m.2)
          · rcases diagOff p hp (on_swap o) with r | r <;> exact hq (by rw [r]; simp)
          · rcases diagOff p hp o with r | r <;> exact hq (by rw [r]; simp)
        · apply all
          simp only [List.mem_cons, List.mem_append, List.not_mem_nil, or_false, not_or] at hp hq ⊢
          grind
      have out2 : ∀ p ∈ b :: c :: ((m1 ++ z :: m2) ++ [a]), p ∉ b :: z :: (m2 ++ [a]) → Off (b :: z :: (m2 ++ [a])) p ∧ wn (b :: z :: (m2 ++ [a])) p = 0 := by
        have wc : wn (b :: z :: (m2 ++ [a])) c = 0 := by
          refine beside (b := b) (z := z) (y := a) (k := c) (s := -1) (α := α) (β := β) ?_ ?_ (hf a (by simp)) (by rw [jz2]; grind) (by rw [jz1]; grind) ?_
          · intro e k
            rw [ed2] at k
            rcases k with k | k | k
            · exact .inl k
            · refine .inr (.inr (.inr (.inr fun o => ?_)))
              have := S.corner bP ((edP e).2 (.inr (.inr (.inl k)))) o
              have := e2x e k
              grind
            · exact .inr (.inr (.inr (.inl k)))
          · intro p hp
            rcases List.mem_cons.1 hp with rfl | hp
            · grind
            · have := hf2 p hp; grind
          · intro e k x o o'
            rcases hE2 e k with k2 | rfl | rfl
            · rw [ed2] at k
              have ne : e ≠ (b, c) := by
                rintro rfl
                rcases k with k | k | k
                · exact cz (congrArg Prod.snd k)
                · have := (e2x _ k).1; simp only at this; grind
                · exact n3 (congrArg Prod.fst k)
              have := S.cr e k2 (b, c) E2 ne x o o'
              rcases this.2 with r | r
              · exact r
              · have ek := this.1
                simp only at r
                subst r
                rcases k with rfl | k | rfl
                · simp only at ek; grind
                · have := e2x e k; grind
                · simp only at ek; grind
            · rcases df (b, c) E2 x o' (on_swap o) with r | r
              · exact r
              · exfalso
                subst r
                have := S.corner zP E2 o'
                simp only at this; grind
            · rcases df (b, c) E2 x o' o with r | r
              · exact r
              · exfalso
                subst r
                have := S.corner zP E2 o'
                simp only at this; grind
        have all : ∀ p ∈ c :: m1, wn (b :: z :: (m2 ++ [a])) p = 0 := by
          refine chain_first m1 c ?_ wc
          intro e k e' k'
          have eP := (edP e).2 (.inr (.inl (pe_sub k)))
          have en := pe_mem k
          simp only [List.mem_cons] at en
          have mem' := ed_mem k'
          simp only [List.mem_cons, List.mem_append, List.not_mem_nil, or_false] at mem'
          rcases hE2 e' k' with k2 | rfl | rfl
          · refine apart S eP k2 ?_ ?_ ?_ ?_ <;> grind
          · exact fun m => apart_diag S df bP zP eP (by grind) (by grind) (by grind) (by grind) (meet_swap m)
          · exact apart_diag S df bP zP eP (by grind) (by grind) (by grind) (by grind)
        intro p hp hq
        refine ⟨fun e k o => ?_, ?_⟩
        · rcases hE2 e k with k2 | rfl | rfl
          · have m := ed_mem k
            rcases S.corner hp k2 o with r | r
            · exact hq (r ▸ m.1)
            · exact hq (r ▸ m.2)
          · rcases diagOff p hp (on_swap o) with r | r <;> exact hq (by rw [r]; simp)
          · rcases diagOff p hp o with r | r <;> exact hq (by rw [r]; simp)
        · apply all
          simp only [List.mem_cons, List.mem_append, List.not_mem_nil, or_false, not_or] at hp hq ⊢
          grind
      obtain ⟨u1, x1, v1, xm1, xb1, xz1, F1⟩ := part_ear S1 J1 one1 (fun R l s => IHn R (by omega) s) hE1 (.inl zb1) out1
      obtain ⟨u2, x2, v2, xm2, xb2, xz2, F2⟩ := part_ear S2 J2 one2 (fun R l s => IHn R (by omega) s) hE2 (.inr bz2) out2
      simp only [List.mem_cons, List.mem_append, List.not_mem_nil, or_false] at xm1 xm2
      have N := ear_num S F1 (by rw [PL]; omega) one (fun R l s => IHn R (by rw [PL] at l; exact l) s)
      refine ⟨N.1, fun _ => ⟨u1, x1, v1, u2, x2, v2, F1, F2, ?_, ?_, ?_⟩, fun k => by omega⟩
      · grind
      · rw [edP]
        rintro (k | k | k | k)
        · exact xb1 (congrArg Prod.fst k)
        · have := (e1x _ k).2; simp only at this; grind
        · have := (e2x _ k).1; simp only at this; grind
        · exact xb2 (congrArg Prod.snd k)
      · rw [edP]
        rintro (k | k | k | k)
        · exact xb2 (congrArg Prod.fst k)
        · have := (e1x _ k).1; simp only at this; grind
        · have := (e2x _ k).2; simp only at this; grind
        · exact xb1 (congrArg Prod.snd k)
end Go.Proofs.YtomekmhonfofkaaGreat.Jor
namespace Go.Proofs.YtomekmhonfofkaaGreat.Jor
set_option linter.unusedVariables false
set_option maxRecDepth 100000
set_option linter.unusedSimpArgs false

theorem ext_slope (b : Q2) : ∀ l : List Q2, (∀ p ∈ l, b.1 < p.1 ∨ (b.1 = p.1 ∧ b.2 < p.2)) → ∃ A : Rat, 0 ≤ A ∧ ∀ α, A ≤ α → ∀ p ∈ l, fl α 1 b < fl α 1 p
  | [], _ => ⟨0, by grind, fun _ _ _ h => by simp at h⟩
  | a :: l, h => by
    obtain ⟨A, A0, hA⟩ := ext_slope b l (fun p hp => h p (by simp [hp]))
    have one : ∃ B : Rat, 0 ≤ B ∧ ∀ α, B ≤ α → fl α 1 b < fl α 1 a := by
      rcases h a (by simp) with k | ⟨k1, k2⟩
      · have d : 0 < a.1 - b.1 := by grind
        have i : (a.1 - b.1) * (a.1 - b.1)⁻¹ = 1 := Rat.mul_inv_cancel _ (by grind)
        have ip := Rat.inv_pos.2 d
        have hab := ab_le (b.2 - a.2)
        refine ⟨(ab (b.2 - a.2) + 1) * (a.1 - b.1)⁻¹, mnn (by have := ab_nn (b.2 - a.2); grind) (by grind), fun α hα => ?_⟩
        have m := mnn (show 0 ≤ α - (ab (b.2 - a.2) + 1) * (a.1 - b.1)⁻¹ by grind) (show 0 ≤ a.1 - b.1 by grind)
        have e : (ab (b.2 - a.2) + 1) * (a.1 - b.1)⁻¹ * (a.1 - b.1) = ab (b.2 - a.2) + 1 := by rw [Rat.mul_assoc, Rat.mul_comm (a.1 - b.1)⁻¹, i, Rat.mul_one]
        unfold fl
        grind
      · exact ⟨0, by grind, fun α hα => by unfold fl; rw [k1]; grind⟩
    obtain ⟨B, B0, hB⟩ := one
    rcases (Rat.le_total : A ≤ B ∨ B ≤ A) with k | k
    · refine ⟨B, B0, fun α hα p hp => ?_⟩
      rcases List.mem_cons.1 hp with rfl | hp
      · exact hB α hα
      · exact hA α (by grind) p hp
    · refine ⟨A, A0, fun α hα p hp => ?_⟩
      rcases List.mem_cons.1 hp with rfl | hp
      · exact hB α (by grind)
      · exact hA α hα p hp
/-- There is an outermost corner. -/
theorem ext_ex {P : List Q2} (h : P ≠ []) : ∃ b ∈ P, ∃ α β, ∀ p ∈ P, p ≠ b → fl α β b < fl α β p := by
  classical
  obtain ⟨m, hm, mm⟩ := arg_max (fun p => -p.1) P h
  obtain ⟨b, hb, pb, bm⟩ := arg_maxP (fun p => -p.2) (fun p => p.1 = m.1) P ⟨m, hm, rfl⟩
  obtain ⟨A, A0, hA⟩ := ext_slope b (P.filter (fun p => decide (p ≠ b))) (fun p hp => by
    have k := List.mem_filter.1 hp
    have ne := of_decide_eq_true k.2
    have x : -p.1 ≤ -m.1 := mm p k.1
    have pb' : b.1 = m.1 := pb
    by_cases c : p.1 = m.1
    · have y : -p.2 ≤ -b.2 := bm p k.1 c
      refine .inr ⟨by grind, ?_⟩
      false_or_by_contra
      apply ne
      apply Prod.ext <;> grind
    · left; grind)
  exact ⟨b, hb, A, 1, fun p hp ne => hA A (by grind) p (List.mem_filter.2 ⟨hp, decide_eq_true ne⟩)⟩
theorem head_form {b : Q2} {l : List Q2} (S : SimJ (b :: l)) : ∃ c mid a, l = c :: (mid ++ [a]) := by
  have n3 := S.n3
  match l, n3 with
  | [], n3 => simp at n3
  | [x], n3 => simp at n3
  | c :: x :: l, _ => exact ⟨c, (x :: l).dropLast, (x :: l).getLast (by simp), by rw [List.dropLast_concat_getLast]⟩
theorem head_ends {b c : Q2} {mid : List Q2} {a a' c' : Q2} (S : SimJ (b :: c :: (mid ++ [a]))) (h1 : (a', b) ∈ eds (b :: c :: (mid ++ [a]))) (h2 : (b, c') ∈ eds (b :: c :: (mid ++ [a]))) : a' = a ∧ c' = c := by
  obtain ⟨n1, n2, n3, n4, n5, n6, n7⟩ := nd_at S.nd
  rw [eds_at] at h1 h2
  simp only [List.mem_cons, List.mem_append, List.not_mem_nil, or_false, Prod.mk.injEq] at h1 h2
  constructor
  · rcases h1 with k | k | k
    · exact absurd k.2 n1
    · exact absurd (List.mem_append.1 (pe_ends k).2) (fun k => k.elim n2 (fun h => n3 (List.mem_singleton.1 h)))
    · exact k.1
  · rcases h2 with k | k | k
    · exact k.2
    · exact absurd (List.mem_cons.1 (pe_ends k).1) (fun k => k.elim n1 n2)
    · exact absurd k.1 n3
theorem rv_at (b c : Q2) (mid : List Q2) (a : Q2) : rv (b :: c :: (mid ++ [a])) = b :: a :: (mid.reverse ++ [c]) := by simp [rv]
/-- A simple way goes round what is within once, the one way or the other; it has two ears. -/
theorem jordan : ∀ (n : Nat) (P : List Q2), P.length = n → SimJ P → Pos P ∨ Pos (rv P) := by
  intro n
  induction n using Nat.strongRecOn with
  | ind n ih =>
    intro P hl S
    obtain ⟨b, hb, α, β, hf⟩ := ext_ex (P := P) (by rintro rfl; have := S.n3; simp at this)
    obtain ⟨l, s⟩ := rot_to hb
    have S' := S.same s
    obtain ⟨c, mid, a, rfl⟩ := head_form S'
    have nn := nd_at S'.nd
    have hl' : mid.length + 3 = n := by have := s.len; simp at this; omega
    have IH : ∀ R : List Q2, R.length < mid.length + 3 → SimJ R → Pos R ∨ Pos (rv R) := fun R k SR => ih R.length (by omega) R rfl SR
    have hf' : ∀ p ∈ c :: (mid ++ [a]), fl α β b < fl α β p := fun p hp => hf p ((s.mem p).1 (List.mem_cons_of_mem _ hp)) (by
      rintro rfl
      simp only [List.mem_cons, List.mem_append, List.not_mem_nil, or_false] at hp
      rcases hp with k | k | k
      · exact nn.1 k
      · exact nn.2.1 k
      · exact nn.2.2.1 k)
    have t := ext_turn S' hf'
    by_cases h : 0 < jc a b c
    · exact .inl ((step S' h hf' IH).same s.symm)
    · right
      have S2 := S'.rev
      rw [rv_at] at S2
      have h2 : 0 < jc c b a := by have : jc c b a = -jc a b c := by (unfold jc; grind)
                                   grind
      have k := step S2 h2 (α := α) (β := β) (fun p hp => hf' p (by simp only [List.mem_cons, List.mem_append, List.mem_reverse, List.not_mem_nil, or_false] at hp ⊢; grind)) (fun R k => IH R (by simpa using k))
      rw [← rv_at] at k
      exact k.same s.symm.rv
/-- Such a way goes round some point. -/
theorem pos_one {P : List Q2} (S : SimJ P) (h : Pos P) : ∃ q, Off P q ∧ wn P q = 1 := by
  obtain ⟨b, hb, α, β, hf⟩ := ext_ex (P := P) (by rintro rfl; have := S.n3; simp at this)
  obtain ⟨l, s⟩ := rot_to hb
  have S' := S.same s
  obtain ⟨c, mid, a, rfl⟩ := head_form S'
  have n := nd_at S'.nd
  have hf' : ∀ p ∈ c :: (mid ++ [a]), fl α β b < fl α β p := fun p hp => hf p ((s.mem p).1 (List.mem_cons_of_mem _ hp)) (by
    rintro rfl
    simp only [List.mem_cons, List.mem_append, List.not_mem_nil, or_false] at hp
    rcases hp with k | k | k
    · exact n.1 k
    · exact n.2.1 k
    · exact n.2.2.1 k)
  have t := ext_turn S' hf'
  by_cases k : 0 < jc a b c
  · obtain ⟨q, o, e⟩ := ext_one k hf'
    exact ⟨q, o.same s.symm, by rw [← s.wn]; exact e⟩
  · exfalso
    have S2 := S'.rev
    rw [rv_at] at S2
    have h2 : 0 < jc c b a := by have : jc c b a = -jc a b c := by (unfold jc; grind)
                                 grind
    obtain ⟨q, o, e⟩ := ext_one h2 (mid := mid.reverse) (α := α) (β := β) (fun p hp => hf' p (by simp only [List.mem_cons, List.mem_append, List.mem_reverse, List.not_mem_nil, or_false] at hp ⊢; grind))
    rw [← rv_at] at o e
    rw [wn_rev, s.wn] at e
    have o2 : Off P q := by have := o.rev; rw [rv_rv] at this; exact this.same s.symm
    have := h.num q o2
    omega
theorem Same.rfl (P : List Q2) : Same P P := ⟨fun _ => Iff.rfl, fun _ => Iff.rfl, fun _ => Eq.refl _, Eq.refl _, Iff.rfl⟩
theorem rot_app : ∀ s t : List Q2, Same (s ++ t) (t ++ s)
  | [], t => by rw [List.nil_append, List.append_nil]; exact Same.rfl t
  | a :: s, [] => by rw [List.append_nil, List.nil_append]; exact Same.rfl _
  | a :: s, b :: t => by
    refine ⟨fun p => ?_, fun e => ?_, fun q => ?_, ?_, ?_⟩
    · simp only [List.mem_append, List.mem_cons]; grind
    · rw [List.cons_append, List.cons_append, (eds_rot a s b t).1, (eds_rot a s b t).2, List.mem_append, List.mem_append]
      exact Or.comm
    · unfold wn
      rw [List.cons_append, List.cons_append, (eds_rot a s b t).1, (eds_rot a s b t).2, wsum_app, wsum_app]
      omega
    · simp; omega
    · exact List.perm_append_comm.nodup_iff
/-- An ear cut off: what is left is such a way. -/
theorem cut_pos {s t : List Q2} {a b c : Q2} (S : SimJ (s ++ b :: t)) (h : Pos (s ++ b :: t)) (E : EarP (s ++ b :: t) a b c) (n4 : 4 ≤ (s ++ b :: t).length) :
    SimJ (s ++ t) ∧ Pos (s ++ t) ∧ (∀ q, Off (s ++ b :: t) q → (wn (s ++ b :: t) q = 1 ↔ InC a b c q ∨ (Off (s ++ t) q ∧ wn (s ++ t) q = 1))) ∧ (∀ q, wn (s ++ b :: t) q = wn (s ++ t) q + wn [a, b, c] q) ∧ (a, c) ∈ eds (s ++ t) := by
  have r1 := rot_app s (b :: t)
  have r2 := rot_app t s
  rw [List.cons_append] at r1
  have S1 := S.same r1
  have h1 := h.same r1
  have E1 := E.same r1
  have len1 := r1.len
  obtain ⟨o1, oq, ow⟩ := pos_one S1 h1
  obtain ⟨c', mid, a', e⟩ := head_form S1
  rw [e] at S1 h1 E1 r1 oq ow r2 len1
  obtain ⟨rfl, rfl⟩ := head_ends S1 E1.e1 E1.e2
  have hm : mid ≠ [] := by rintro rfl; simp at len1 n4; omega
  obtain ⟨m1, m2, m3, m4, m5, m6, m7⟩ := nd_at S1.nd
  have he : ∀ p ∈ mid, ¬ InC a b c p := fun p hp => E1.emp p (by simp [hp]) (fun k => m6 (k ▸ hp)) (fun k => m2 (k ▸ hp)) (fun k => m4 (k ▸ hp))
  have S2 := cut_simple S1 E1.pos hm he
  have P2 : Pos (c :: (mid ++ [a])) := by
    rcases jordan _ _ rfl S2 with k | k
    · exact k
    · exfalso
      have J : ∀ q, Off (c :: (mid ++ [a])) q → wn (c :: (mid ++ [a])) q = 0 ∨ wn (c :: (mid ++ [a])) q = -1 := fun q o => by
        have := k.num q o.rev
        rw [wn_rev] at this
        omega
      rcases cut_round S1 E1.pos hm he (.inr rfl) J with ⟨k, _⟩ | ⟨_, B⟩
      · omega
      · have := B _ oq
        omega
  have W : ∀ q, wn (s ++ b :: t) q = wn (s ++ t) q + wn [a, b, c] q := fun q => by rw [← r1.wn, r2.wn, wn_cut]
  refine ⟨S2.same r2, P2.same r2, fun q o => ?_, W, (r2.ed _).2 (by rw [eds_cut]; simp)⟩
  rcases cut_round S1 E1.pos hm he (.inl rfl) P2.num with ⟨_, A1, A2⟩ | ⟨k, _⟩
  · constructor
    · intro w1
      by_cases i : InC a b c q
      · exact .inl i
      · right
        have t0 : wn [a, b, c] q = 0 := by
          apply tri_out E1.pos
          false_or_by_contra
          exact i ⟨by grind, by grind, by grind⟩
        refine ⟨fun e k => ?_, by have := W q; omega⟩
        have k2 := (r2.ed e).1 k
        rw [eds_cut, List.mem_append, List.mem_singleton] at k2
        rcases k2 with k2 | rfl
        · exact o e ((r1.ed e).1 (by rw [eds_at]; simp [k2]))
        · exact fun o2 => i (on_ac E1.pos o2).1
    · rintro (i | ⟨oq', w1⟩)
      · rw [← r1.wn]; exact A2 q (o.same r1) i
      · have := W q
        have n1 := A1 q (o.same r1)
        rw [r1.wn] at n1
        by_cases i : InC a b c q
        · rw [← r1.wn]; exact A2 q (o.same r1) i
        · have t0 : wn [a, b, c] q = 0 := by
            apply tri_out E1.pos
            false_or_by_contra
            exact i ⟨by grind, by grind, by grind⟩
          omega
  · omega
/-- Twice the area. -/
def ar (P : List Q2) : Rat := ((eds P).map (fun e => e.1.1 * e.2.2 - e.2.1 * e.1.2)).sum
def asum (l : List (Q2 × Q2)) : Rat := (l.map (fun e => e.1.1 * e.2.2 - e.2.1 * e.1.2)).sum
theorem asum_app (l m : List (Q2 × Q2)) : asum (l ++ m) = asum l + asum m := by simp [asum]
theorem asum_cons (e : Q2 × Q2) (l : List (Q2 × Q2)) : asum (e :: l) = e.1.1 * e.2.2 - e.2.1 * e.1.2 + asum l := by simp [asum]
theorem asum_nil : asum [] = 0 := rfl
theorem ar_def (P : List Q2) : ar P = asum (eds P) := rfl
theorem ar_cut (b c : Q2) (mid : List Q2) (a : Q2) : ar (b :: c :: (mid ++ [a])) = ar (c :: (mid ++ [a])) + jc a b c := by
  rw [ar_def, ar_def, eds_at, eds_cut, asum_cons, asum_app, asum_app, asum_cons, asum_cons, asum_nil]
  unfold jc
  grind
theorem ar_rot : ∀ s t : List Q2, ar (s ++ t) = ar (t ++ s)
  | [], t => by rw [List.nil_append, List.append_nil]
  | a :: s, [] => by rw [List.append_nil, List.nil_append]
  | a :: s, b :: t => by
    rw [ar_def, ar_def, List.cons_append, List.cons_append, (eds_rot a s b t).1, (eds_rot a s b t).2, asum_app, asum_app]
    grind
theorem ar_ear {s t : List Q2} {a b c : Q2} (S : SimJ (s ++ b :: t)) (h1 : (a, b) ∈ eds (s ++ b :: t)) (h2 : (b, c) ∈ eds (s ++ b :: t)) : ar (s ++ b :: t) = ar (s ++ t) + jc a b c := by
  have r1 := rot_app s (b :: t)
  have e1 := ar_rot s (b :: t)
  have e2 := ar_rot s t
  rw [List.cons_append] at r1 e1
  have S1 := S.same r1
  obtain ⟨c', mid, a', e⟩ := head_form S1
  rw [e] at S1 r1 e1 e2
  obtain ⟨rfl, rfl⟩ := head_ends S1 ((r1.ed _).2 h1) ((r1.ed _).2 h2)
  rw [e1, e2, ar_cut]
/-- Its area is above nought. -/
theorem ar_pos : ∀ (n : Nat) (P : List Q2), P.length = n → SimJ P → Pos P → 0 < ar P := by
  intro n
  induction n using Nat.strongRecOn with
  | ind n ih =>
    intro P hl S h
    by_cases n4 : 4 ≤ P.length
    · obtain ⟨a, b, c, _, _, _, E, _, _, _, _⟩ := h.two n4
      obtain ⟨s, t, rfl⟩ := List.append_of_mem (ed_mem E.e2).1
      obtain ⟨S', h', _⟩ := cut_pos S h E n4
      have k := ih (s ++ t).length (by simp at hl ⊢; omega) (s ++ t) rfl S' h'
      rw [ar_ear S E.e1 E.e2]
      have := E.pos
      grind
    · obtain ⟨x, y, w, rfl⟩ := len3 P (by have := S.n3; omega)
      have k := h.tri rfl x y w (by simp [eds, pe]) (by simp [eds, pe])
      have : ar [x, y, w] = jc x y w := by
        rw [ar_def]
        show asum [(x, y), (y, w), (w, x)] = _
        rw [asum_cons, asum_cons, asum_cons, asum_nil]
        unfold jc
        grind
      grind
theorem ar_rv (P : List Q2) : ar (rv P) = -ar P := by
  rw [ar_def, ar_def, eds_rev]
  generalize eds P = l
  induction l with
  | nil => simp [asum]
  | cons e l ih =>
    rw [List.map_cons, List.reverse_cons, asum_app, ih, asum_cons, asum_cons, asum_nil]
    grind
/-- The area's sign tells which way round. -/
theorem pos_iff {P : List Q2} (S : SimJ P) : (0 < ar P → Pos P) ∧ (ar P < 0 → Pos (rv P)) ∧ ar P ≠ 0 := by
  rcases jordan _ _ rfl S with h | h
  · have := ar_pos _ _ rfl S h
    exact ⟨fun _ => h, fun k => by grind, by grind⟩
  · have := ar_pos _ _ rfl S.rev h
    rw [ar_rv] at this
    exact ⟨fun k => by grind, fun _ => h, by grind⟩
/-- Two segments next to each other that don't overlap have but their corner. -/
theorem adj {A B C x : Q2} (hAB : A ≠ B) (h1 : ¬ OnJ B C A) (h2 : ¬ OnJ A B C) (o1 : OnJ A B x) (o2 : OnJ B C x) : x = B := by
  obtain ⟨s, s0, s1, e1⟩ := o1
  obtain ⟨t, t0, t1, e2⟩ := o2
  by_cases j : jc A B C = 0
  · -- all on one line
    obtain ⟨k, hk⟩ : ∃ k : Rat, C = (B.1 + k * (B.1 - A.1), B.2 + k * (B.2 - A.2)) := by
      by_cases c1 : B.1 - A.1 = 0
      · have c2 : B.2 - A.2 ≠ 0 := fun c2 => hAB (by apply Prod.ext <;> grind)
        have i : (B.2 - A.2) * (B.2 - A.2)⁻¹ = 1 := Rat.mul_inv_cancel _ c2
        refine ⟨(C.2 - B.2) * (B.2 - A.2)⁻¹, ?_⟩
        unfold jc at j
        generalize (B.2 - A.2)⁻¹ = I at *
        apply Prod.ext <;> simp only <;> grind
      · have i : (B.1 - A.1) * (B.1 - A.1)⁻¹ = 1 := Rat.mul_inv_cancel _ c1
        refine ⟨(C.1 - B.1) * (B.1 - A.1)⁻¹, ?_⟩
        unfold jc at j
        generalize (B.1 - A.1)⁻¹ = I at *
        apply Prod.ext <;> simp only <;> grind
    by_cases k0 : 0 ≤ k
    · have x1 : (1 - s + t * k) * (B.1 - A.1) = 0 := by have := e1.symm.trans e2; rw [hk] at this; have := congrArg Prod.fst this; unfold lerp at this; simp only at this; grind
      have x2 : (1 - s + t * k) * (B.2 - A.2) = 0 := by have := e1.symm.trans e2; rw [hk] at this; have := congrArg Prod.snd this; unfold lerp at this; simp only at this; grind
      have z : 1 - s + t * k = 0 := by
        false_or_by_contra
        rename_i hz
        apply hAB
        have i : (1 - s + t * k) * (1 - s + t * k)⁻¹ = 1 := Rat.mul_inv_cancel _ hz
        generalize 1 - s + t * k = Z at *
        apply Prod.ext <;> grind
      have := mnn t0 k0
      have s1 : s = 1 := by grind
      rw [e1, s1]; unfold lerp; apply Prod.ext <;> simp only <;> grind
    · exfalso
      by_cases k1 : -1 ≤ k
      · exact h2 ⟨1 + k, by grind, by grind, by rw [hk]; unfold lerp; apply Prod.ext <;> simp only <;> grind⟩
      · have i : (-k) * (-k)⁻¹ = 1 := Rat.mul_inv_cancel _ (by grind)
        have ip := Rat.inv_pos.2 (show 0 < -k by grind)
        have m := mpos ip (show 0 < -k - 1 by grind)
        have i2 : (-k)⁻¹ * (-k) = 1 := by rw [Rat.mul_comm]; exact i
        refine h1 ⟨(-k)⁻¹, by grind, by grind, ?_⟩
        rw [hk]; unfold lerp
        generalize (-k)⁻¹ = I at *
        apply Prod.ext <;> simp only <;> grind
  · have : jc A B x = 0 := by rw [e1, jc_lerp, jc_aa, jc_ab]; grind
    rw [e2, jc_lerp, jc_ab] at this
    have t0 : t = 0 := by
      false_or_by_contra
      rename_i ht
      have i : t * t⁻¹ = 1 := Rat.mul_inv_cancel _ ht
      generalize jc A B C = J at *
      generalize t⁻¹ = I at *
      grind
    rw [e2, t0]; unfold lerp; apply Prod.ext <;> simp only <;> grind
/-- Two segments that meet: an end of one lies on the other, or they cross. -/
theorem meet_end {a b c d : Q2} (hab : a ≠ b) (m : MeetJ a b c d) : OnJ a b c ∨ OnJ a b d ∨ OnJ c d a ∨ OnJ c d b ∨ (jc a b c * jc a b d < 0 ∧ jc c d a * jc c d b < 0) := by
  obtain ⟨x, ⟨s, s0, s1, e1⟩, ⟨t, t0, t1, e2⟩⟩ := m
  false_or_by_contra
  rename_i hn
  simp only [not_or] at hn
  obtain ⟨h1, h2, h3, h4, h5⟩ := hn
  have ox : OnJ a b x := ⟨s, s0, s1, e1⟩
  have ox2 : OnJ c d x := ⟨t, t0, t1, e2⟩
  have z1 : (1 - t) * jc a b c + t * jc a b d = 0 := by rw [← jc_lerp, ← e2]; exact (on_iff.1 ox).1
  have z2 : (1 - s) * jc c d a + s * jc c d b = 0 := by rw [← jc_lerp, ← e1]; exact (on_iff.1 ox2).1
  have t0' : t ≠ 0 := fun k => h1 (by have : x = c := by (rw [e2, k]; unfold lerp; apply Prod.ext <;> simp only <;> grind)
                                      rw [← this]; exact ox)
  have t1' : t ≠ 1 := fun k => h2 (by have : x = d := by (rw [e2, k]; unfold lerp; apply Prod.ext <;> simp only <;> grind)
                                      rw [← this]; exact ox)
  have s0' : s ≠ 0 := fun k => h3 (by have : x = a := by (rw [e1, k]; unfold lerp; apply Prod.ext <;> simp only <;> grind)
                                      rw [← this]; exact ox2)
  have s1' : s ≠ 1 := fun k => h4 (by have : x = b := by (rw [e1, k]; unfold lerp; apply Prod.ext <;> simp only <;> grind)
                                      rw [← this]; exact ox2)
  have sg : ∀ r p q : Rat, 0 < r → r < 1 → (1 - r) * p + r * q = 0 → p ≠ 0 → p * q < 0 := fun r p q r0 r1 e hp => by
    have k : r * (p * q) = -((1 - r) * (p * p)) := by grind
    have pp : 0 < p * p := by
      rcases (Rat.le_total : 0 ≤ p ∨ p ≤ 0) with h | h
      · exact mpos (by grind) (by grind)
      · have := mpos (show 0 < -p by grind) (show 0 < -p by grind); grind
    have := mpos (show 0 < 1 - r by grind) pp
    exact neg_of r0 (by grind)
  by_cases j : jc a b c = 0
  · -- one line
    have j2 : jc a b d = 0 := by
      rw [j] at z1
      have i : t * t⁻¹ = 1 := Rat.mul_inv_cancel _ t0'
      generalize jc a b d = J at *
      generalize t⁻¹ = I at *
      grind
    have par : ∀ p, jc a b p = 0 → ∃ k : Rat, p = lerp a b k := fun p jp => by
      by_cases c1 : b.1 - a.1 = 0
      · have c2 : b.2 - a.2 ≠ 0 := fun c2 => hab (by apply Prod.ext <;> grind)
        have i : (b.2 - a.2) * (b.2 - a.2)⁻¹ = 1 := Rat.mul_inv_cancel _ c2
        refine ⟨(p.2 - a.2) * (b.2 - a.2)⁻¹, ?_⟩
        unfold jc at jp; unfold lerp
        generalize (b.2 - a.2)⁻¹ = I at *
        apply Prod.ext <;> simp only <;> grind
      · have i : (b.1 - a.1) * (b.1 - a.1)⁻¹ = 1 := Rat.mul_inv_cancel _ c1
        refine ⟨(p.1 - a.1) * (b.1 - a.1)⁻¹, ?_⟩
        unfold jc at jp; unfold lerp
        generalize (b.1 - a.1)⁻¹ = I at *
        apply Prod.ext <;> simp only <;> grind
    obtain ⟨γ, hc⟩ := par c j
    obtain ⟨δ, hd⟩ := par d j2
    have eq : lerp a b s = lerp a b ((1 - t) * γ + t * δ) := by rw [← e1, e2, hc, hd]; unfold lerp; apply Prod.ext <;> simp only <;> grind
    have sx : s = (1 - t) * γ + t * δ := by
      generalize (1 - t) * γ + t * δ = u at *
      have x1 : (s - u) * (b.1 - a.1) = 0 := by have := congrArg Prod.fst eq; unfold lerp at this; simp only at this; grind
      have x2 : (s - u) * (b.2 - a.2) = 0 := by have := congrArg Prod.snd eq; unfold lerp at this; simp only at this; grind
      false_or_by_contra
      rename_i hz
      apply hab
      have i : (s - u) * (s - u)⁻¹ = 1 := Rat.mul_inv_cancel _ (by grind)
      generalize (s - u)⁻¹ = I at *
      apply Prod.ext <;> grind
    have γ0 : γ < 0 ∨ 1 < γ := by
      false_or_by_contra
      exact h1 ⟨γ, by grind, by grind, hc⟩
    have δ0 : δ < 0 ∨ 1 < δ := by
      false_or_by_contra
      exact h2 ⟨δ, by grind, by grind, hd⟩
    have bet : ∀ g d : Rat, g < 0 → 1 < d → OnJ (lerp a b g) (lerp a b d) a := fun g d hg hd => by
      have dd := div_01 (show 0 ≤ -g by grind) (show -g ≤ d - g by grind) (by grind)
      have i : (d - g) * (d - g)⁻¹ = 1 := Rat.mul_inv_cancel _ (by grind)
      refine ⟨_, dd.1, dd.2, ?_⟩
      rw [Rat.div_def]; unfold lerp
      generalize (d - g)⁻¹ = I at *
      apply Prod.ext <;> simp only <;> grind
    rcases γ0 with g | g <;> rcases δ0 with g' | g'
    · have := lin_lt t0 t1 (show 0 < -γ by grind) (show 0 < -δ by grind); grind
    · exact h3 (by rw [hc, hd]; exact bet γ δ g g')
    · exact h3 (on_swap (by rw [hc, hd]; exact bet δ γ g' g))
    · have := lin_lt t0 t1 g g'; grind
  · by_cases j3 : jc c d a = 0
    · have j4 : jc c d b = 0 := by
        rw [j3] at z2
        have i : s * s⁻¹ = 1 := Rat.mul_inv_cancel _ s0'
        generalize jc c d b = J at *
        generalize s⁻¹ = I at *
        grind
      -- then c is on the line of a and b after all, or c = d
      have e3 : jc a b c - jc a b d = jc c d b - jc c d a := by unfold jc; grind
      rw [j3, j4] at e3
      have e4 : jc a b d = jc a b c := by grind
      rw [e4] at z1
      exact j (by grind)
    · exact h5 ⟨sg t _ _ (by grind) (by grind) z1 j, sg s _ _ (by grind) (by grind) z2 j3⟩
theorem pe_range (a : Q2) (m : List Q2) : pe a m = (List.range m.length).map (fun i => ((a :: m).getD i (0, 0), m.getD i (0, 0))) := by
  induction m generalizing a with
  | nil => rfl
  | cons b m ih =>
    rw [pe, ih, List.length_cons, List.range_succ_eq_map, List.map_cons, List.map_map]
    simp [Function.comp_def]
theorem eds_range (P : List Q2) : eds P = (List.range P.length).map (fun i => (P.getD i (0, 0), P.getD ((i + 1) % P.length) (0, 0))) := by
  cases P with
  | nil => rfl
  | cons a l =>
    show pe a (l ++ [a]) = _
    rw [pe_range]
    have hl : (l ++ [a]).length = (a :: l).length := by simp
    rw [hl]
    apply List.map_congr_left
    intro i hi
    have hi' := List.mem_range.1 hi
    rw [List.length_cons] at hi'
    apply Prod.ext
    · simp only
      rw [← List.cons_append, List.getD_eq_getElem?_getD, List.getD_eq_getElem?_getD, List.getElem?_append_left (by simpa using hi')]
    · simp only
      rw [List.getD_eq_getElem?_getD, List.getD_eq_getElem?_getD]
      by_cases h : i + 1 < (a :: l).length
      · rw [Nat.mod_eq_of_lt h, List.getElem?_append_left (by simpa using h), List.getElem?_cons_succ]
      · have e : i = l.length := by simp at h; omega
        rw [show i + 1 = (a :: l).length by simp [e], Nat.mod_self, List.getElem?_append_right (by omega), e]
        simp
theorem ed_iff {P : List Q2} {e : Q2 × Q2} : e ∈ eds P ↔ ∃ i, i < P.length ∧ e = (P.getD i (0, 0), P.getD ((i + 1) % P.length) (0, 0)) := by
  rw [eds_range, List.mem_map]
  constructor
  · rintro ⟨i, h, k⟩; exact ⟨i, List.mem_range.1 h, k.symm⟩
  · rintro ⟨i, h, k⟩; exact ⟨i, List.mem_range.2 h, k.symm⟩
end Go.Proofs.YtomekmhonfofkaaGreat.Jor
namespace Go.Proofs.YtomekmhonfofkaaGreat
open Go.RowKit
set_option linter.unusedVariables false
set_option maxRecDepth 100000
set_option linter.unusedSimpArgs false

def onK (l : List (Int × Int)) (p : Int × Int) : Nat → Bool
  | 0 => false
  | k + 1 => onK l p k || onV (l.getD k (0, 0)) (nxt l k) p
theorem onK_le {l : List (Int × Int)} {p : Int × Int} {k : Nat} : ∀ {m : Nat}, k ≤ m → onK l p k = true → onK l p m = true
  | 0, h, e => by have : k = 0 := by omega
                  subst this; exact e
  | m + 1, h, e => by
    by_cases hk : k = m + 1
    · subst hk; exact e
    · have := onK_le (m := m) (by omega) e
      unfold onK; rw [this]; rfl
def upB (a b p : Int × Int) : Bool := decide (a.2 ≤ p.2) && decide (p.2 < b.2)
def dnB (a b p : Int × Int) : Bool := decide (p.2 < a.2) && decide (b.2 ≤ p.2)
/-- How a segment counts: 1 up, -1 down, 0 else. -/
def wiT (a b p : Int × Int) : Int := if upB a b p && (sgZ (crs a b p) == 1) then 1 else if dnB a b p && (sgZ (crs a b p) == -1) then -1 else 0
def crT (a b p : Int × Int) : Int := if (upB a b p && (sgZ (crs a b p) == 1)) || (dnB a b p && (sgZ (crs a b p) == -1)) then 1 else 0
def wiS (l : List (Int × Int)) (p : Int × Int) : Nat → Int
  | 0 => 0
  | k + 1 => wiS l p k + wiT (l.getD k (0, 0)) (nxt l k) p
def crS (l : List (Int × Int)) (p : Int × Int) : Nat → Int
  | 0 => 0
  | k + 1 => crS l p k + crT (l.getD k (0, 0)) (nxt l k) p
theorem wiT_bd (a b p : Int × Int) : -1 ≤ wiT a b p ∧ wiT a b p ≤ 1 := by
  unfold wiT
  split
  · omega
  · split <;> omega
theorem crT_bd (a b p : Int × Int) : 0 ≤ crT a b p ∧ crT a b p ≤ 1 := by unfold crT; split <;> omega
theorem wiS_bd (l : List (Int × Int)) (p : Int × Int) : ∀ k : Nat, -(k : Int) ≤ wiS l p k ∧ wiS l p k ≤ k
  | 0 => by simp [wiS]
  | k + 1 => by have := wiS_bd l p k; have := wiT_bd (l.getD k (0, 0)) (nxt l k) p; unfold wiS; omega
theorem crS_bd (l : List (Int × Int)) (p : Int × Int) : ∀ k : Nat, 0 ≤ crS l p k ∧ crS l p k ≤ k
  | 0 => by simp [crS]
  | k + 1 => by have := crS_bd l p k; have := crT_bd (l.getD k (0, 0)) (nxt l k) p; unfold crS; omega
theorem getD_near9 {l : List (Int × Int)} (h : ∀ p ∈ l, Near p) (i : Nat) : Near (l.getD i (0, 0)) := by
  by_cases hi : i < l.length
  · rw [getD_gt hi]; exact h _ (List.getElem_mem _)
  · rw [List.getD_eq_getElem?_getD, List.getElem?_eq_none (by omega)]
    exact ⟨by simp, by simp, by simp, by simp⟩
def gWP (l : List (Int × Int)) (p : Int × Int) : Bool := wayB l && gPt p
def ooV (l : List (Int × Int)) (p : Int × Int) : Bool := if gWP l p then onK l p l.length else false
/-- Where a winding is told. -/
def offB (l : List (Int × Int)) (p : Int × Int) : Bool := gWP l p && !(onK l p l.length)
def wnV (l : List (Int × Int)) (p : Int × Int) : Int := if offB l p then wiS l p l.length else 0
def crV (l : List (Int × Int)) (p : Int × Int) : Int := if offB l p then crS l p l.length else 0
def inV (l : List (Int × Int)) (p : Int × Int) (ev : Bool) : Bool := if offB l p then (if ev then (crS l p l.length).tmod 2 == 1 else wiS l p l.length != 0) else false
theorem gWP_parts {l : List (Int × Int)} {p : Int × Int} (h : gWP l p = true) : (3 ≤ l.length ∧ l.length ≤ 12) ∧ (∀ q ∈ l, Near q) ∧ Near p := by
  unfold gWP at h
  have h2 := (Bool.and_eq_true _ _).mp h
  exact ⟨(way_parts h2.1).1, (way_parts h2.1).2, near_of h2.2⟩
end Go.Proofs.YtomekmhonfofkaaGreat
namespace Go.Proofs.YtomekmhonfofkaaGreat
open Go.RowKit
set_option linter.unusedVariables false
set_option maxRecDepth 100000
set_option linter.unusedSimpArgs false

theorem BxP.set0 {w : World} {G : Nat} {x y v : Int} (h : BxP w G x y) : BxP (w.setCell ⟨G, 0, none⟩ (.int .i64 v)) G v y := by
  have k0 := h.c0
  have k1 := h.c1
  have kf := h.fz
  exact ⟨by simp [go_sem, k0], by simp [go_sem, k1], fun o => by simp [go_sem, kf]⟩
theorem BxP.set1 {w : World} {G : Nat} {x y v : Int} (h : BxP w G x y) : BxP (w.setCell ⟨G, 1, none⟩ (.int .i64 v)) G x v := by
  have k0 := h.c0
  have k1 := h.c1
  have kf := h.fz
  exact ⟨by simp [go_sem, k0], by simp [go_sem, k1], fun o => by simp [go_sem, kf]⟩
theorem BxP.other {w : World} {G K i : Nat} {x y : Int} {v : Value} (h : BxP w G x y) (hne : G ≠ K) : BxP (w.setCell ⟨K, i, none⟩ v) G x y := by
  have hb : But K (K + 1) w (w.setCell ⟨K, i, none⟩ v) := (But.refl _ _ _).set (p := ⟨K, i, none⟩) (Nat.le_refl K) (Nat.lt_succ_self K) v
  exact h.keep hb (by omega)
theorem bel_set {B K i : Nat} {a w : World} {v : Value} (h : Below B a w) (hB : B ≤ K) (hs : B ≤ w.heap.size) : Below B a (w.setCell ⟨K, i, none⟩ v) := ((But.refl K (K + 1) w).set (p := ⟨K, i, none⟩) (Nat.le_refl K) (Nat.lt_succ_self K) v).below h hB hs
def loS (l : List (Int × Int)) : Nat → Int × Int
  | 0 => l.getD 0 (0, 0)
  | k + 1 => (min (loS l k).1 (l.getD k (0, 0)).1, min (loS l k).2 (l.getD k (0, 0)).2)
def hiS (l : List (Int × Int)) : Nat → Int × Int
  | 0 => l.getD 0 (0, 0)
  | k + 1 => (max (hiS l k).1 (l.getD k (0, 0)).1, max (hiS l k).2 (l.getD k (0, 0)).2)
def bxL (l : List (Int × Int)) : Int × Int := if wayB l then loS l l.length else (0, 0)
def bxH (l : List (Int × Int)) : Int × Int := if wayB l then hiS l l.length else (0, 0)
theorem lo_bd {l : List (Int × Int)} (h : ∀ p ∈ l, gPt p = true) (h0 : 0 < l.length) : ∀ k, k ≤ l.length → (-1000 ≤ (loS l k).1 ∧ (loS l k).1 ≤ 1000) ∧ (-1000 ≤ (loS l k).2 ∧ (loS l k).2 ≤ 1000)
  | 0, _ => by
    have k := h (l.getD 0 (0, 0)) (by rw [getD_gt h0]; exact List.getElem_mem _)
    simp [gPt, inR] at k
    simp [loS]
    omega
  | k + 1, hk => by
    have ih := lo_bd h h0 k (by omega)
    have g := h (l.getD k (0, 0)) (by rw [getD_gt (by omega)]; exact List.getElem_mem _)
    simp only [gPt, inR, Bool.and_eq_true, decide_eq_true_eq] at g
    unfold loS
    dsimp only
    omega
theorem hi_bd {l : List (Int × Int)} (h : ∀ p ∈ l, gPt p = true) (h0 : 0 < l.length) : ∀ k, k ≤ l.length → (-1000 ≤ (hiS l k).1 ∧ (hiS l k).1 ≤ 1000) ∧ (-1000 ≤ (hiS l k).2 ∧ (hiS l k).2 ≤ 1000)
  | 0, _ => by
    have k := h (l.getD 0 (0, 0)) (by rw [getD_gt h0]; exact List.getElem_mem _)
    simp [gPt, inR] at k
    simp [hiS]
    omega
  | k + 1, hk => by
    have ih := hi_bd h h0 k (by omega)
    have g := h (l.getD k (0, 0)) (by rw [getD_gt (by omega)]; exact List.getElem_mem _)
    simp only [gPt, inR, Bool.and_eq_true, decide_eq_true_eq] at g
    unfold hiS
    dsimp only
    omega
/-- What a point of the grid counts. -/
def ptT (l : List (Int × Int)) (p : Int × Int) : Int := if onK l p l.length then 0 else wiS l p l.length
def colS (l : List (Int × Int)) (x y0 : Int) : Nat → Int
  | 0 => 0
  | k + 1 => colS l x y0 k + ptT l (x, y0 + k)
def gridS (l : List (Int × Int)) (x0 y0 : Int) (m : Nat) : Nat → Int
  | 0 => 0
  | k + 1 => gridS l x0 y0 m k + colS l (x0 + k) y0 m
theorem ptT_bd (l : List (Int × Int)) (p : Int × Int) : -(l.length : Int) ≤ ptT l p ∧ ptT l p ≤ l.length := by
  unfold ptT
  have := wiS_bd l p l.length
  split <;> omega
theorem colS_bd (l : List (Int × Int)) (x y0 : Int) (h : l.length ≤ 12) : ∀ k : Nat, -(12 * (k : Int)) ≤ colS l x y0 k ∧ colS l x y0 k ≤ 12 * k
  | 0 => by simp [colS]
  | k + 1 => by have := colS_bd l x y0 h k; have := ptT_bd l (x, y0 + k); unfold colS; omega
theorem gridS_bd (l : List (Int × Int)) (x0 y0 : Int) (m : Nat) (h : l.length ≤ 12) (hm : m ≤ 2001) : ∀ k : Nat, -(24012 * (k : Int)) ≤ gridS l x0 y0 m k ∧ gridS l x0 y0 m k ≤ 24012 * k
  | 0 => by simp [gridS]
  | k + 1 => by have := gridS_bd l x0 y0 m h hm k; have := colS_bd l (x0 + k) y0 h m; unfold gridS; omega
def bigB (l : List (Int × Int)) : Bool := decide (400 < ((hiS l l.length).1 - (loS l l.length).1 + 1) * ((hiS l l.length).2 - (loS l l.length).2 + 1))
def wsB (l : List (Int × Int)) : Bool := wayB l && !(bigB l)
def wsV (l : List (Int × Int)) : Int := if wsB l then gridS l (loS l l.length).1 (loS l l.length).2 ((hiS l l.length).2 - (loS l l.length).2 + 1).toNat ((hiS l l.length).1 - (loS l l.length).1 + 1).toNat else 0
theorem way_good9 {l : List (Int × Int)} (h : wayB l = true) : ∀ p ∈ l, gPt p = true := by
  unfold wayB at h
  exact List.all_eq_true.1 ((Bool.and_eq_true _ _).mp h).2
end Go.Proofs.YtomekmhonfofkaaGreat
namespace Go.Proofs.YtomekmhonfofkaaGreat
open Go.RowKit
set_option linter.unusedVariables false
set_option maxRecDepth 100000
set_option linter.unusedSimpArgs false

theorem sl_news {w : World} {b off : Nat} {l : List (Int × Int)} (hc : ∀ i (h : i < l.length), w.cell? ⟨b, off + i * 2, none⟩ = some (.int .i64 l[i].1) ∧ w.cell? ⟨b, off + i * 2 + 1, none⟩ = some (.int .i64 l[i].2)) (s m : Nat) (h : s + m ≤ l.length) :
    ∀ j u, (flatP ((l.drop s).take m))[j]? = some u → w.cell? ((⟨b, off + s * 2, none⟩ : Addr).add j) = some u := by
  intro j u hu
  have hl : (flatP ((l.drop s).take m)).length = m * 2 := by
    have : ∀ k : List (Int × Int), (flatP k).length = k.length * 2 := by
      intro k
      induction k with
      | nil => rfl
      | cons p k ih => rw [show flatP (p :: k) = .int .i64 p.1 :: .int .i64 p.2 :: flatP k by simp [flatP]]; simp [ih]; omega
    rw [this]; simp; omega
  have hj : j < m * 2 := by
    rcases Nat.lt_or_ge j (m * 2) with h1 | h1
    · exact h1
    · rw [List.getElem?_eq_none (by omega)] at hu; cases hu
  have hi : j / 2 < ((l.drop s).take m).length := by simp; omega
  have f := flatP_at ((l.drop s).take m) (j / 2) hi
  have e : ((l.drop s).take m)[j / 2] = l[s + j / 2]'(by simp at hi; omega) := by simp
  rw [e] at f
  have k := hc (s + j / 2) (by simp at hi; omega)
  have ea : (⟨b, off + s * 2, none⟩ : Addr).add j = ⟨b, off + s * 2 + j, none⟩ := by
    unfold Addr.add
    split
    · rename_i h0; subst h0; rfl
    · rfl
  rw [ea]
  rcases Nat.mod_two_eq_zero_or_one j with h2 | h2
  · have ej : j = j / 2 * 2 := by omega
    have e1 : off + s * 2 + j = off + (s + j / 2) * 2 := by omega
    rw [ej] at hu
    rw [f.1] at hu
    rw [e1, k.1]
    exact hu
  · have ej : j = j / 2 * 2 + 1 := by omega
    have e1 : off + s * 2 + j = off + (s + j / 2) * 2 + 1 := by omega
    rw [ej] at hu
    rw [f.2] at hu
    rw [e1, k.2]
    exact hu
theorem flat_one (k : List (Int × Int)) : ∀ u ∈ flatP k, u.oneCell' = true := by
  intro u hu
  simp only [flatP, List.mem_flatMap, List.mem_cons, List.not_mem_nil, or_false] at hu
  obtain ⟨p, _, h | h⟩ := hu <;> rw [h] <;> rfl
theorem flat_len (k : List (Int × Int)) : (flatP k).length = k.length * 2 := by
  induction k with
  | nil => rfl
  | cons p k ih => rw [show flatP (p :: k) = .int .i64 p.1 :: .int .i64 p.2 :: flatP k by simp [flatP]]; simp [ih]; omega
theorem grow_below {B : Nat} {W w' w2 : World} {v : Value} (hb : Below B W w') (hB : B ≤ w'.heap.size) (hv : ∀ k, v.ownBlock = some k → B ≤ k) (hg : w'.grownBy w2 v.ownBlock) : Below B W w2 := hb.grown hg hB hv
theorem owns_low {w w' : World} {B B2 g n c size : Nat} {e : TypeId} {M : List Value} (h : w.ownsRow B e size (.slice (some ⟨g, 0, none⟩) n c) n M) (hb : Below B2 w w') (hg : g < B2) : w'.ownsRow B e size (.slice (some ⟨g, 0, none⟩) n c) n M := by
  refine ⟨h.1, ?_⟩
  rcases h.2 with ⟨h', _⟩ | ⟨g', cap, cur, hv, h1, hgg, r⟩
  · simp at h'
  · have e : g' = g := by simp only [Value.slice.injEq, Option.some.injEq, Addr.mk.injEq, and_true, true_and] at hv; exact hv.1.symm
    subst e
    refine .inr ⟨g', cap, cur, hv, h1, ?_, r⟩
    rw [hb.block g' hg]
    exact hgg
theorem own_at (g n c : Nat) : ∀ k, (Value.slice (some ⟨g, 0, none⟩) n c).ownBlock = some k → k = g := by intro k h; simp [Value.ownBlock] at h; exact h.symm
def spB (l : List (Int × Int)) (x y : Int) : Bool := wayB l && (decide (0 ≤ x) && (decide (y < l.length) && (decide (x ≤ y) && (decide (x + 2 ≤ y) && !(x == 0 && y == (l.length : Int) - 1)))))
def sp1 (l : List (Int × Int)) (x y : Int) : List (Int × Int) := if spB l x y then (l.drop x.toNat).take (y.toNat + 1 - x.toNat) else []
def sp2 (l : List (Int × Int)) (x y : Int) : List (Int × Int) := if spB l x y then l.drop y.toNat ++ l.take (x.toNat + 1) else []
theorem sp_no {l : List (Int × Int)} {x y : Int} (h : spB l x y = false) : sp1 l x y = [] ∧ sp2 l x y = [] := by unfold sp1 sp2; rw [h]; exact ⟨rfl, rfl⟩
theorem empty_row (w : World) (B : Nat) (h : B ≤ w.heap.size) : (w.alloc (.cells #[] 37)).ownsRow B 37 2 (.slice (some ⟨w.heap.size, 0, none⟩) 0 0) 0 (flatP []) := by
  refine ⟨rfl, .inr ⟨w.heap.size, 0, #[], rfl, h, ?_, Nat.le_refl _, by unfold maxLen; omega, rfl, by simp [flatP]⟩⟩
  show (w.heap.push _)[w.heap.size]? = _
  simp
end Go.Proofs.YtomekmhonfofkaaGreat
namespace Go.Proofs.YtomekmhonfofkaaGreat
open Go.RowKit
set_option linter.unusedVariables false
set_option maxRecDepth 100000
set_option linter.unusedSimpArgs false

/-- A sum over the first k segments. -/
def cS (f : Int × Int → Int × Int → Int) (l : List (Int × Int)) : Nat → Int
  | 0 => 0
  | k + 1 => cS f l k + f (l.getD k (0, 0)) (nxt l k)
theorem cS_succ (f : Int × Int → Int × Int → Int) (l : List (Int × Int)) (k : Nat) : cS f l (k + 1) = cS f l k + f (l.getD k (0, 0)) (nxt l k) := rfl
theorem wiS_cS (l : List (Int × Int)) (p : Int × Int) : ∀ k, wiS l p k = cS (fun a b => wiT a b p) l k
  | 0 => rfl
  | k + 1 => by unfold wiS cS; rw [wiS_cS l p k]
theorem arS_cS (l : List (Int × Int)) : ∀ k, arS l k = cS (fun a b => a.1 * b.2 - b.1 * a.2) l k
  | 0 => rfl
  | k + 1 => by unfold arS cS; rw [arS_cS l k]
theorem nx_lt {l : List (Int × Int)} {i : Nat} (h : i + 1 < l.length) : nxt l i = l.getD (i + 1) (0, 0) := by unfold nxt; rw [Nat.mod_eq_of_lt h]
theorem nx_last {l : List (Int × Int)} {i : Nat} (h : i + 1 = l.length) : nxt l i = l.getD 0 (0, 0) := by unfold nxt; rw [h, Nat.mod_self]
theorem getD_mid (l : List (Int × Int)) (A m i : Nat) (h : i < m) : ((l.drop A).take m).getD i (0, 0) = l.getD (A + i) (0, 0) := by
  simp only [List.getD_eq_getElem?_getD]
  rw [List.getElem?_take_of_lt h, List.getElem?_drop]
theorem getD_two1 (l : List (Int × Int)) (Y A i : Nat) (h : i < l.length - Y) : (l.drop Y ++ l.take (A + 1)).getD i (0, 0) = l.getD (Y + i) (0, 0) := by
  simp only [List.getD_eq_getElem?_getD]
  rw [List.getElem?_append_left (by simp; omega), List.getElem?_drop]
theorem getD_two2 (l : List (Int × Int)) (Y A i : Nat) (hY : Y ≤ l.length) (h : i ≤ A) : (l.drop Y ++ l.take (A + 1)).getD (l.length - Y + i) (0, 0) = l.getD i (0, 0) := by
  simp only [List.getD_eq_getElem?_getD]
  rw [List.getElem?_append_right (by simp), List.length_drop, Nat.add_sub_cancel_left, List.getElem?_take_of_lt (by omega)]
theorem one_sum (f : Int × Int → Int × Int → Int) (l : List (Int × Int)) (A Y : Nat) (hA : A ≤ Y) (hY : Y < l.length) : ∀ k, k ≤ Y - A → cS f ((l.drop A).take (Y + 1 - A)) k = cS f l (A + k) - cS f l A
  | 0, _ => by simp [cS]
  | k + 1, hk => by
    have ih := one_sum f l A Y hA hY k (by omega)
    have hl : ((l.drop A).take (Y + 1 - A)).length = Y + 1 - A := by simp; omega
    rw [show A + (k + 1) = A + k + 1 by omega]
    rw [cS_succ, cS_succ, ih, nx_lt (by rw [hl]; omega), nx_lt (l := l) (i := A + k) (by omega), getD_mid l A _ k (by omega), getD_mid l A _ (k + 1) (by omega), show A + (k + 1) = A + k + 1 by omega]
    omega
theorem two_sum1 (f : Int × Int → Int × Int → Int) (l : List (Int × Int)) (A Y : Nat) (hY : Y < l.length) (hA : A < l.length) : ∀ k, k ≤ l.length - Y → cS f (l.drop Y ++ l.take (A + 1)) k = cS f l (Y + k) - cS f l Y
  | 0, _ => by simp [cS]
  | k + 1, hk => by
    have ih := two_sum1 f l A Y hY hA k (by omega)
    have hl : (l.drop Y ++ l.take (A + 1)).length = l.length - Y + (A + 1) := by simp; omega
    rw [show Y + (k + 1) = Y + k + 1 by omega]
    rw [cS_succ, cS_succ, ih, nx_lt (by rw [hl]; omega), getD_two1 l Y A k (by omega)]
    by_cases h : k + 1 < l.length - Y
    · rw [getD_two1 l Y A (k + 1) h, nx_lt (l := l) (i := Y + k) (by omega), show Y + (k + 1) = Y + k + 1 by omega]
      omega
    · have e : k + 1 = l.length - Y + 0 := by omega
      rw [e, getD_two2 l Y A 0 (by omega) (by omega), nx_last (l := l) (i := Y + k) (by omega)]
      omega
theorem two_sum2 (f : Int × Int → Int × Int → Int) (l : List (Int × Int)) (A Y : Nat) (hY : Y < l.length) (hA : A < l.length) : ∀ k, k ≤ A → cS f (l.drop Y ++ l.take (A + 1)) (l.length - Y + k) = cS f l l.length - cS f l Y + cS f l k
  | 0, _ => by
    have h := two_sum1 f l A Y hY hA (l.length - Y) (Nat.le_refl _)
    rw [show Y + (l.length - Y) = l.length by omega] at h
    simp [cS]
    exact h
  | k + 1, hk => by
    have ih := two_sum2 f l A Y hY hA k (by omega)
    have hl : (l.drop Y ++ l.take (A + 1)).length = l.length - Y + (A + 1) := by simp; omega
    rw [show l.length - Y + (k + 1) = l.length - Y + k + 1 by omega]
    rw [cS_succ, cS_succ, ih, nx_lt (by rw [hl]; omega), getD_two2 l Y A k (by omega) (by omega), show l.length - Y + k + 1 = l.length - Y + (k + 1) by omega, getD_two2 l Y A (k + 1) (by omega) (by omega), nx_lt (l := l) (i := k) (by omega)]
    omega
/-- Both parts together are the whole, and the cut there and back. -/
theorem split_sum (f : Int × Int → Int × Int → Int) (l : List (Int × Int)) (A Y : Nat) (hA : A ≤ Y) (hY : Y < l.length) :
    cS f ((l.drop A).take (Y + 1 - A)) ((l.drop A).take (Y + 1 - A)).length + cS f (l.drop Y ++ l.take (A + 1)) (l.drop Y ++ l.take (A + 1)).length = cS f l l.length + f (l.getD Y (0, 0)) (l.getD A (0, 0)) + f (l.getD A (0, 0)) (l.getD Y (0, 0)) := by
  have hl1 : ((l.drop A).take (Y + 1 - A)).length = Y - A + 1 := by simp; omega
  have hl2 : (l.drop Y ++ l.take (A + 1)).length = l.length - Y + A + 1 := by simp; omega
  have h1 := one_sum f l A Y hA hY (Y - A) (Nat.le_refl _)
  have h2 := two_sum2 f l A Y hY (by omega) A (Nat.le_refl _)
  have n1 : nxt ((l.drop A).take (Y + 1 - A)) (Y - A) = l.getD A (0, 0) := by rw [nx_last (by rw [hl1]), getD_mid l A _ 0 (by omega)]; simp
  have n2 : nxt (l.drop Y ++ l.take (A + 1)) (l.length - Y + A) = l.getD Y (0, 0) := by rw [nx_last (by rw [hl2]), getD_two1 l Y A 0 (by omega)]; simp
  rw [hl1, hl2]
  rw [cS_succ, cS_succ, h1, h2, n1, n2, getD_mid l A _ (Y - A) (by omega), getD_two2 l Y A A (by omega) (Nat.le_refl _), show A + (Y - A) = Y by omega]
  omega
theorem crs_neg9 (a b c : Int × Int) : crs b a c = -crs a b c := by unfold crs; grind
theorem sg_neg9 (n : Int) : sgZ (-n) = -sgZ n := by
  unfold sgZ
  by_cases h1 : 0 < n
  · rw [if_neg (by omega), if_pos (by omega), if_pos h1]
  · by_cases h2 : n < 0
    · rw [if_pos (by omega), if_neg h1, if_pos h2]; rfl
    · rw [if_neg (by omega), if_neg (by omega), if_neg h1, if_neg h2]; rfl
theorem wiT_back (a b p : Int × Int) : wiT a b p + wiT b a p = 0 := by
  unfold wiT
  rw [crs_neg9 a b p, sg_neg9]
  have e1 : upB b a p = dnB a b p := by unfold upB dnB; rw [Bool.and_comm]
  have e2 : dnB b a p = upB a b p := by unfold upB dnB; rw [Bool.and_comm]
  rw [e1, e2]
  have e3 : (-sgZ (crs a b p) == 1) = (sgZ (crs a b p) == -1) := by rw [Bool.eq_iff_iff]; simp <;> omega
  have e4 : (-sgZ (crs a b p) == -1) = (sgZ (crs a b p) == 1) := by rw [Bool.eq_iff_iff]; simp <;> omega
  rw [e3, e4]
  have ex : upB a b p = true → dnB a b p = false := by
    unfold upB dnB
    intro h
    simp at h
    simp
    omega
  cases hu : upB a b p <;> cases hd : dnB a b p <;> cases (sgZ (crs a b p) == 1) <;> cases (sgZ (crs a b p) == -1) <;> simp
  all_goals (have := ex hu; rw [hd] at this; cases this)
theorem wi_split (l : List (Int × Int)) (p : Int × Int) (A Y : Nat) (hA : A ≤ Y) (hY : Y < l.length) :
    wiS ((l.drop A).take (Y + 1 - A)) p ((l.drop A).take (Y + 1 - A)).length + wiS (l.drop Y ++ l.take (A + 1)) p (l.drop Y ++ l.take (A + 1)).length = wiS l p l.length := by
  rw [wiS_cS, wiS_cS, wiS_cS, split_sum _ l A Y hA hY]
  have := wiT_back (l.getD Y (0, 0)) (l.getD A (0, 0)) p
  omega
theorem ar_split (l : List (Int × Int)) (A Y : Nat) (hA : A ≤ Y) (hY : Y < l.length) :
    arS ((l.drop A).take (Y + 1 - A)) ((l.drop A).take (Y + 1 - A)).length + arS (l.drop Y ++ l.take (A + 1)) (l.drop Y ++ l.take (A + 1)).length = arS l l.length := by
  rw [arS_cS, arS_cS, arS_cS, split_sum _ l A Y hA hY]
  generalize l.getD Y (0, 0) = a
  generalize l.getD A (0, 0) = b
  generalize cS (fun a b => a.1 * b.2 - b.1 * a.2) l l.length = s
  grind
/-- Crossings are odd just where one goes round an odd number of times. -/
theorem cr_wi (l : List (Int × Int)) (p : Int × Int) : ∀ k, ∃ m : Int, crS l p k - wiS l p k = 2 * m
  | 0 => ⟨0, by simp [crS, wiS]⟩
  | k + 1 => by
    obtain ⟨m, hm⟩ := cr_wi l p k
    have t : ∃ d : Int, crT (l.getD k (0, 0)) (nxt l k) p - wiT (l.getD k (0, 0)) (nxt l k) p = 2 * d := by
      unfold crT wiT
      cases (upB (l.getD k (0, 0)) (nxt l k) p && (sgZ (crs (l.getD k (0, 0)) (nxt l k) p) == 1)) <;> cases (dnB (l.getD k (0, 0)) (nxt l k) p && (sgZ (crs (l.getD k (0, 0)) (nxt l k) p) == -1)) <;> simp
      all_goals first | exact ⟨0, by omega⟩ | exact ⟨1, by omega⟩
    obtain ⟨d, hd⟩ := t
    exact ⟨m + d, by unfold crS wiS; omega⟩
end Go.Proofs.YtomekmhonfofkaaGreat
namespace Go.Proofs.YtomekmhonfofkaaGreat
open Go.RowKit
set_option linter.unusedVariables false
set_option maxRecDepth 100000
set_option linter.unusedSimpArgs false

def toQ (p : Int × Int) : Jor.Q2 := ((p.1 : Rat), (p.2 : Rat))
theorem toQ_inj {p q : Int × Int} (h : toQ p = toQ q) : p = q := by
  have h1 := congrArg Prod.fst h
  have h2 := congrArg Prod.snd h
  simp only [toQ, Rat.intCast_inj] at h1 h2
  exact Prod.ext h1 h2
theorem jc_toQ (a b c : Int × Int) : Jor.jc (toQ a) (toQ b) (toQ c) = ((crs a b c : Int) : Rat) := by
  unfold Jor.jc toQ crs
  simp only [Rat.intCast_sub, Rat.intCast_mul]
theorem jq_pos {a b c : Int × Int} : 0 < Jor.jc (toQ a) (toQ b) (toQ c) ↔ 0 < crs a b c := by
  rw [jc_toQ]
  exact Rat.intCast_lt_intCast (a := 0)
theorem jq_nn {a b c : Int × Int} : 0 ≤ Jor.jc (toQ a) (toQ b) (toQ c) ↔ 0 ≤ crs a b c := by
  rw [jc_toQ]
  exact Rat.intCast_le_intCast (a := 0)
theorem jq_neg {a b c : Int × Int} : Jor.jc (toQ a) (toQ b) (toQ c) < 0 ↔ crs a b c < 0 := by
  rw [jc_toQ]
  exact Rat.intCast_lt_intCast (b := 0)
theorem jq_zero {a b c : Int × Int} : Jor.jc (toQ a) (toQ b) (toQ c) = 0 ↔ crs a b c = 0 := by
  rw [jc_toQ]
  exact Rat.intCast_inj (b := 0)
theorem on_toQ {a b p : Int × Int} : Jor.OnJ (toQ a) (toQ b) (toQ p) ↔ onV a b p = true := by
  rw [Jor.on_iff, jq_zero]
  unfold onV btw
  simp only [toQ, Rat.intCast_le_intCast, Bool.and_eq_true, Bool.or_eq_true, decide_eq_true_eq]
theorem meet_toQ {a b c d : Int × Int} (hab : a ≠ b) (m : Jor.MeetJ (toQ a) (toQ b) (toQ c) (toQ d)) : meV a b c d = true := by
  have sgm : ∀ x y : Int, ((x : Rat) * (y : Rat) < 0) → sgZ x * sgZ y < 0 := fun x y h => by
    rw [← Rat.intCast_mul] at h
    have h' : x * y < 0 := Rat.intCast_lt_intCast (b := 0) |>.1 h
    rcases Int.lt_trichotomy x 0 with hx | hx | hx <;> rcases Int.lt_trichotomy y 0 with hy | hy | hy
    · have := Int.mul_pos_of_neg_of_neg hx hy; omega
    · rw [hy] at h'; simp at h'
    · unfold sgZ; rw [if_neg (by omega), if_pos hx, if_pos hy]; decide
    · rw [hx] at h'; simp at h'
    · rw [hx] at h'; simp at h'
    · rw [hx] at h'; simp at h'
    · unfold sgZ; rw [if_pos hx, if_neg (by omega), if_pos hy]; decide
    · rw [hy] at h'; simp at h'
    · have := Int.mul_pos hx hy; omega
  unfold meV
  rcases Jor.meet_end (fun k => hab (toQ_inj k)) m with k | k | k | k | ⟨k1, k2⟩
  · rw [on_toQ] at k; simp [k]
  · rw [on_toQ] at k; simp [k]
  · rw [on_toQ] at k; simp [k]
  · rw [on_toQ] at k; simp [k]
  · rw [jc_toQ, jc_toQ] at k1 k2
    have s1 := sgm _ _ k1
    have s2 := sgm _ _ k2
    split
    · rfl
    · simp [s1, s2]
/-- The way of the corners left. -/
def wayQ (l : List (Int × Int)) (L : List Nat) : List Jor.Q2 := L.map (fun k => toQ (l.getD k (0, 0)))
theorem wayQ_len (l : List (Int × Int)) (L : List Nat) : (wayQ l L).length = L.length := by simp [wayQ]
theorem wayQ_at {l : List (Int × Int)} {L : List Nat} {i : Nat} (h : i < L.length) : (wayQ l L).getD i (0, 0) = toQ (l.getD (L.getD i 0) (0, 0)) := by
  unfold wayQ
  rw [List.getD_eq_getElem?_getD, List.getElem?_map, List.getElem?_eq_getElem h, List.getD_eq_getElem?_getD (l := L), List.getElem?_eq_getElem h]
  rfl
theorem ed_way {l : List (Int × Int)} {L : List Nat} {e : Jor.Q2 × Jor.Q2} : e ∈ Jor.eds (wayQ l L) ↔ ∃ i, i < L.length ∧ e = (toQ (l.getD (L.getD i 0) (0, 0)), toQ (l.getD (aft L i) (0, 0))) := by
  rw [Jor.ed_iff]
  rw [wayQ_len]
  constructor
  · rintro ⟨i, h, k⟩
    exact ⟨i, h, by rw [k, wayQ_at h, wayQ_at (Nat.mod_lt _ (by omega))]; rfl⟩
  · rintro ⟨i, h, k⟩
    exact ⟨i, h, by rw [k, wayQ_at h, wayQ_at (Nat.mod_lt _ (by omega))]; rfl⟩
theorem range_at {n i : Nat} (h : i < n) : (List.range n).getD i 0 = i := by simp [List.getD_eq_getElem?_getD, h]
theorem range_aft {n i : Nat} (h : i < n) : aft (List.range n) i = (i + 1) % n := by
  unfold aft
  rw [List.length_range, range_at (Nat.mod_lt _ (by omega))]
/-- A simple way of the grid is one. -/
theorem simJ_of {l : List (Int × Int)} (h3 : 3 ≤ l.length) (hs : siI l = true) : Jor.SimJ (wayQ l (List.range l.length)) := by
  have hal : ¬ Alike l := fun k => by rw [siI_al (alB_true k)] at hs; cases hs
  have hS : SimP l l.length := by
    rw [← si_eq h3] at hs
    unfold siS at hs
    exact @of_decide_eq_true _ (Classical.propDecidable _) hs
  have inj : ∀ i j, i < l.length → j < l.length → l.getD i (0, 0) = l.getD j (0, 0) → i = j := fun i j hi hj he => by
    rcases Nat.lt_trichotomy i j with h | h | h
    · exact absurd ⟨i, j, h, hj, he⟩ hal
    · exact h
    · exact absurd ⟨j, i, h, hi, he.symm⟩ hal
  have ed : ∀ e, e ∈ Jor.eds (wayQ l (List.range l.length)) → ∃ i, i < l.length ∧ e = (toQ (l.getD i (0, 0)), toQ (nxt l i)) := fun e he => by
    obtain ⟨i, hi, k⟩ := ed_way.1 he
    rw [List.length_range] at hi
    exact ⟨i, hi, by rw [k, range_at hi, range_aft hi]; rfl⟩
  refine ⟨by rw [wayQ_len, List.length_range]; exact h3, ?_, ?_⟩
  · unfold wayQ
    refine List.pairwise_iff_getElem.2 (fun i j hi hj hij e => ?_)
    simp at hi hj e
    have := inj i j hi hj (by simpa [List.getD_eq_getElem?_getD] using toQ_inj e)
    omega
  · have key : ∀ i j, i < j → j < l.length → ∀ x, Jor.OnJ (toQ (l.getD i (0, 0))) (toQ (nxt l i)) x → Jor.OnJ (toQ (l.getD j (0, 0))) (toQ (nxt l j)) x → (x = toQ (l.getD i (0, 0)) ∨ x = toQ (nxt l i)) ∧ (x = toQ (l.getD j (0, 0)) ∨ x = toQ (nxt l j)) := by
      intro i j hij hj x o1 o2
      by_cases c1 : j = i + 1
      · subst c1
        have r := (hS i (by omega)).1
        unfold RowOk at r
        have en : nxt l i = l.getD (i + 1) (0, 0) := nxt_lt hj
        rw [en] at r o1
        have := Jor.adj (fun k => r.1 (toQ_inj k)) (fun k => by rw [on_toQ, r.2.1] at k; cases k) (fun k => by rw [on_toQ, r.2.2] at k; cases k) o1 o2
        rw [en]
        exact ⟨.inr this, .inl this⟩
      · by_cases c2 : (j + 1) % l.length = i
        · have en : nxt l j = l.getD i (0, 0) := by unfold nxt; rw [c2]
          have ja : j + 1 = l.length := by
            false_or_by_contra
            rw [Nat.mod_eq_of_lt (by omega)] at c2
            omega
          have i0 : i = 0 := by rw [ja, Nat.mod_self] at c2; exact c2.symm
          have r := (hS j hj).1
          unfold RowOk at r
          have e2 : nxt l (j + 1) = nxt l i := by rw [ja, i0]; exact nxt_over h3
          rw [e2, en] at r
          rw [en] at o2
          have := Jor.adj (fun k => r.1 (toQ_inj k)) (fun k => by rw [on_toQ, r.2.1] at k; cases k) (fun k => by rw [on_toQ, r.2.2] at k; cases k) o2 o1
          rw [en]
          exact ⟨.inl this, .inr this⟩
        · exfalso
          have p := (hS i (by omega)).2 j (by omega) hj c2
          rw [meet_toQ (hS i (by omega)).1.1 ⟨x, o1, o2⟩] at p
          cases p
    intro e he e' he' hne x o1 o2
    obtain ⟨i, hi, rfl⟩ := ed e he
    obtain ⟨j, hj, rfl⟩ := ed e' he'
    rcases Nat.lt_trichotomy i j with h | h | h
    · exact key i j h hj x o1 o2
    · subst h; exact absurd rfl hne
    · exact (key j i h hi x o2 o1).symm
/-- A sum over all segments. -/
theorem sum_range (f : Int × Int → Int × Int → Int) (l : List (Int × Int)) : ∀ k, k ≤ l.length → ((List.range k).map (fun i => f (l.getD i (0, 0)) (nxt l i))).sum = cS f l k
  | 0, _ => rfl
  | k + 1, h => by
    rw [List.range_succ, List.map_append, List.sum_append, sum_range f l k (by omega), cS_succ]
    simp
theorem eds_way (l : List (Int × Int)) : Jor.eds (wayQ l (List.range l.length)) = (List.range l.length).map (fun i => (toQ (l.getD i (0, 0)), toQ (nxt l i))) := by
  rw [Jor.eds_range, wayQ_len, List.length_range]
  apply List.map_congr_left
  intro i hi
  have hi' := List.mem_range.1 hi
  rw [wayQ_at (by simpa using hi'), wayQ_at (by simpa using Nat.mod_lt (i + 1) (show 0 < l.length by omega)), range_at hi', range_at (Nat.mod_lt _ (by omega))]
  rfl
theorem cast_sum : ∀ L : List Int, ((L.sum : Int) : Rat) = (L.map (fun k : Int => (k : Rat))).sum
  | [] => rfl
  | a :: L => by rw [List.sum_cons, List.map_cons, List.sum_cons, Rat.intCast_add, cast_sum L]
theorem ar_way (l : List (Int × Int)) : Jor.ar (wayQ l (List.range l.length)) = ((arS l l.length : Int) : Rat) := by
  rw [arS_cS, ← sum_range _ l _ (Nat.le_refl _), cast_sum, List.map_map]
  unfold Jor.ar
  rw [eds_way, List.map_map]
  congr 1
  apply List.map_congr_left
  intro i _
  simp only [Function.comp, toQ, Rat.intCast_sub, Rat.intCast_mul]
theorem wT_toQ (u v q : Int × Int) : Jor.wT (toQ u) (toQ v) (toQ q) = wiT u v q := by
  unfold Jor.wT wiT upB dnB
  simp only [jq_pos, jq_neg]
  simp only [toQ, Rat.intCast_le_intCast, Rat.intCast_lt_intCast]
  have s1 : (sgZ (crs u v q) == 1) = decide (0 < crs u v q) := by
    unfold sgZ
    rcases Int.lt_trichotomy (crs u v q) 0 with h | h | h
    · rw [if_neg (by omega), if_pos h, decide_eq_false (by omega)]; rfl
    · rw [if_neg (by omega), if_neg (by omega), decide_eq_false (by omega)]; rfl
    · rw [if_pos h, decide_eq_true h]; rfl
  have s2 : (sgZ (crs u v q) == -1) = decide (crs u v q < 0) := by
    unfold sgZ
    rcases Int.lt_trichotomy (crs u v q) 0 with h | h | h
    · rw [if_neg (by omega), if_pos h, decide_eq_true h]; rfl
    · rw [if_neg (by omega), if_neg (by omega), decide_eq_false (by omega)]; rfl
    · rw [if_pos h, decide_eq_false (by omega)]; rfl
  rw [s1, s2]
  generalize crs u v q = k
  simp only [Bool.and_eq_true, decide_eq_true_eq]
  grind
theorem wn_way (l : List (Int × Int)) (q : Int × Int) : Jor.wn (wayQ l (List.range l.length)) (toQ q) = wiS l q l.length := by
  rw [wiS_cS, ← sum_range _ l _ (Nat.le_refl _)]
  unfold Jor.wn Jor.wsum
  rw [eds_way, List.map_map]
  congr 1
  apply List.map_congr_left
  intro i _
  simp only [Function.comp, wT_toQ]
end Go.Proofs.YtomekmhonfofkaaGreat
namespace Go.Proofs.YtomekmhonfofkaaGreat
open Go.RowKit
set_option linter.unusedVariables false
set_option maxRecDepth 100000
set_option linter.unusedSimpArgs false

/-- The corners left make a simple way that turns so. -/
def GoodL (l : List (Int × Int)) (L : List Nat) (t : Int) : Prop := Jor.SimJ (wayQ l L) ∧ ((t = 1 ∧ Jor.Pos (wayQ l L)) ∨ (t = -1 ∧ Jor.Pos (Jor.rv (wayQ l L))))
theorem goodL_of {l : List (Int × Int)} (h3 : 3 ≤ l.length) (hs : siI l = true) : GoodL l (List.range l.length) (sgZ (arS l l.length)) := by
  have S := simJ_of h3 hs
  have k := Jor.pos_iff S
  rw [ar_way] at k
  obtain ⟨k1, k2, k3⟩ := k
  refine ⟨S, ?_⟩
  rcases sg_cases (arS l l.length) with ⟨h, e⟩ | ⟨h, e⟩ | ⟨h, e⟩
  · exact .inl ⟨e, k1 (Rat.intCast_lt_intCast (a := 0) |>.2 h)⟩
  · exact absurd (by rw [h]; rfl) k3
  · exact .inr ⟨e, k2 (Rat.intCast_lt_intCast (b := 0) |>.2 h)⟩
theorem way_inj {l : List (Int × Int)} {L : List Nat} (S : Jor.SimJ (wayQ l L)) {i j : Nat} (hi : i < L.length) (hj : j < L.length) (h : toQ (l.getD (L.getD i 0) (0, 0)) = toQ (l.getD (L.getD j 0) (0, 0))) : i = j := by
  rw [← wayQ_at hi, ← wayQ_at hj] at h
  have hi' : i < (wayQ l L).length := by rw [wayQ_len]; exact hi
  have hj' : j < (wayQ l L).length := by rw [wayQ_len]; exact hj
  rw [List.getD_eq_getElem?_getD, List.getD_eq_getElem?_getD, List.getElem?_eq_getElem hi', List.getElem?_eq_getElem hj'] at h
  rcases Nat.lt_trichotomy i j with k | k | k
  · exact absurd h (List.pairwise_iff_getElem.1 S.nd i j hi' hj' k)
  · exact k
  · exact absurd h.symm (List.pairwise_iff_getElem.1 S.nd j i hj' hi' k)
theorem mem_ix {L : List Nat} {k : Nat} (h : k ∈ L) : ∃ j, j < L.length ∧ L.getD j 0 = k := by
  obtain ⟨j, hj, e⟩ := List.getElem_of_mem h
  exact ⟨j, hj, by rw [List.getD_eq_getElem?_getD, List.getElem?_eq_getElem hj]; exact e⟩
theorem mem_way {l : List (Int × Int)} {L : List Nat} {p : Jor.Q2} : p ∈ wayQ l L ↔ ∃ k ∈ L, p = toQ (l.getD k (0, 0)) := by
  unfold wayQ
  rw [List.mem_map]
  constructor
  · rintro ⟨k, h, e⟩; exact ⟨k, h, e.symm⟩
  · rintro ⟨k, h, e⟩; exact ⟨k, h, e.symm⟩
theorem way_key {l : List (Int × Int)} {L : List Nat} (S : Jor.SimJ (wayQ l L)) {k k' : Nat} (h : k ∈ L) (h' : k' ∈ L) (e : toQ (l.getD k (0, 0)) = toQ (l.getD k' (0, 0))) : k = k' := by
  obtain ⟨i, hi, rfl⟩ := mem_ix h
  obtain ⟨j, hj, rfl⟩ := mem_ix h'
  rw [way_inj S hi hj e]
theorem prev_ix {n i : Nat} (h : i < n) : (i + n - 1) % n < n ∧ ((i + n - 1) % n + 1) % n = i := by
  refine ⟨Nat.mod_lt _ (by omega), ?_⟩
  by_cases h0 : i = 0
  · subst h0
    rw [Nat.mod_eq_of_lt (show 0 + n - 1 < n by omega), show 0 + n - 1 + 1 = n by omega, Nat.mod_self]
  · rw [show i + n - 1 = i - 1 + n by omega, Nat.add_mod_right, Nat.mod_eq_of_lt (show i - 1 < n by omega), show i - 1 + 1 = i by omega, Nat.mod_eq_of_lt h]
theorem next_prev {n i j : Nat} (hi : i < n) (hj : j < n) (h : (j + 1) % n = i) : j = (i + n - 1) % n := by
  by_cases h1 : j + 1 = n
  · rw [h1, Nat.mod_self] at h
    subst h
    rw [Nat.mod_eq_of_lt (show 0 + n - 1 < n by omega)]; omega
  · rw [Nat.mod_eq_of_lt (by omega)] at h
    subst h
    rw [show j + 1 + n - 1 = j + n by omega, Nat.add_mod_right, Nat.mod_eq_of_lt hj]
theorem ed_bef {l : List (Int × Int)} {L : List Nat} {i : Nat} (hi : i < L.length) : (toQ (l.getD (bef L i) (0, 0)), toQ (l.getD (L.getD i 0) (0, 0))) ∈ Jor.eds (wayQ l L) := by
  have p := prev_ix hi
  refine ed_way.2 ⟨(i + L.length - 1) % L.length, p.1, ?_⟩
  unfold aft
  rw [p.2]
  rfl
theorem ed_aft {l : List (Int × Int)} {L : List Nat} {i : Nat} (hi : i < L.length) : (toQ (l.getD (L.getD i 0) (0, 0)), toQ (l.getD (aft L i) (0, 0))) ∈ Jor.eds (wayQ l L) := ed_way.2 ⟨i, hi, rfl⟩
/-- A corner's neighbours. -/
theorem ed_find {l : List (Int × Int)} {L : List Nat} (S : Jor.SimJ (wayQ l L)) {a b c : Jor.Q2} (h1 : (a, b) ∈ Jor.eds (wayQ l L)) (h2 : (b, c) ∈ Jor.eds (wayQ l L)) :
    ∃ i, i < L.length ∧ a = toQ (l.getD (bef L i) (0, 0)) ∧ b = toQ (l.getD (L.getD i 0) (0, 0)) ∧ c = toQ (l.getD (aft L i) (0, 0)) := by
  obtain ⟨j, hj, e1⟩ := ed_way.1 h1
  obtain ⟨i, hi, e2⟩ := ed_way.1 h2
  simp only [Prod.mk.injEq] at e1 e2
  refine ⟨i, hi, ?_, e2.1, e2.2⟩
  have hn : (j + 1) % L.length < L.length := Nat.mod_lt _ (by omega)
  have k : (j + 1) % L.length = i := way_inj S hn hi (by rw [← e2.1, e1.2]; rfl)
  rw [e1.1]
  unfold bef
  rw [← next_prev hi hj k]
theorem inT_pos {a b c p : Int × Int} (h : 0 < crs a b c) : inT a b c p = true ↔ 0 ≤ crs a b p ∧ 0 ≤ crs b c p ∧ 0 ≤ crs c a p := by
  have s := crs_three a b c p
  unfold inT inK
  generalize crs a b p = x at *
  generalize crs b c p = y at *
  generalize crs c a p = z at *
  rcases sg_cases x with ⟨h1, e1⟩ | ⟨h1, e1⟩ | ⟨h1, e1⟩ <;> rcases sg_cases y with ⟨h2, e2⟩ | ⟨h2, e2⟩ | ⟨h2, e2⟩ <;> rcases sg_cases z with ⟨h3, e3⟩ | ⟨h3, e3⟩ | ⟨h3, e3⟩ <;> rw [e1, e2, e3] <;> simp <;> omega
theorem inT_neg {a b c p : Int × Int} (h : crs a b c < 0) : inT a b c p = true ↔ crs a b p ≤ 0 ∧ crs b c p ≤ 0 ∧ crs c a p ≤ 0 := by
  have s := crs_three a b c p
  unfold inT inK
  generalize crs a b p = x at *
  generalize crs b c p = y at *
  generalize crs c a p = z at *
  rcases sg_cases x with ⟨h1, e1⟩ | ⟨h1, e1⟩ | ⟨h1, e1⟩ <;> rcases sg_cases y with ⟨h2, e2⟩ | ⟨h2, e2⟩ | ⟨h2, e2⟩ <;> rcases sg_cases z with ⟨h3, e3⟩ | ⟨h3, e3⟩ | ⟨h3, e3⟩ <;> rw [e1, e2, e3] <;> simp <;> omega
theorem inC_pos {a b c p : Int × Int} (h : 0 < crs a b c) : Jor.InC (toQ a) (toQ b) (toQ c) (toQ p) ↔ inT a b c p = true := by
  rw [inT_pos h]
  constructor
  · rintro ⟨x, y, z⟩; exact ⟨jq_nn.1 x, jq_nn.1 y, jq_nn.1 z⟩
  · rintro ⟨x, y, z⟩; exact ⟨jq_nn.2 x, jq_nn.2 y, jq_nn.2 z⟩
theorem inC_neg {a b c p : Int × Int} (h : crs a b c < 0) : Jor.InC (toQ c) (toQ b) (toQ a) (toQ p) ↔ inT a b c p = true := by
  rw [inT_neg h]
  have e1 : crs c b p = -crs b c p := crs_neg9 b c p
  have e2 : crs b a p = -crs a b p := crs_neg9 a b p
  have e3 : crs a c p = -crs c a p := crs_neg9 c a p
  constructor
  · rintro ⟨x, y, z⟩
    have x := jq_nn.1 x; have y := jq_nn.1 y; have z := jq_nn.1 z
    omega
  · rintro ⟨x, y, z⟩
    exact ⟨jq_nn.2 (by omega), jq_nn.2 (by omega), jq_nn.2 (by omega)⟩
theorem ear_iff {l : List (Int × Int)} {L : List Nat} {i : Nat} {t : Int} : earB l L i t = true ↔ sgZ (crs (l.getD (bef L i) (0, 0)) (l.getD (L.getD i 0) (0, 0)) (l.getD (aft L i) (0, 0))) = t ∧ ∀ k ∈ L, k = bef L i ∨ k = L.getD i 0 ∨ k = aft L i ∨ inT (l.getD (bef L i) (0, 0)) (l.getD (L.getD i 0) (0, 0)) (l.getD (aft L i) (0, 0)) (l.getD k (0, 0)) = false := by
  unfold earB okE
  rw [Bool.and_eq_true, List.all_eq_true, beq_iff_eq]
  constructor
  · rintro ⟨h1, h2⟩
    refine ⟨h1, fun k hk => ?_⟩
    have := h2 k hk
    simp only [Bool.or_eq_true, beq_iff_eq, Bool.not_eq_true'] at this
    grind
  · rintro ⟨h1, h2⟩
    refine ⟨h1, fun k hk => ?_⟩
    have := h2 k hk
    simp only [Bool.or_eq_true, beq_iff_eq, Bool.not_eq_true']
    grind
theorem sg_one {k : Int} : sgZ k = 1 ↔ 0 < k := by rcases sg_cases k with ⟨h, e⟩ | ⟨h, e⟩ | ⟨h, e⟩ <;> rw [e] <;> simp <;> omega
theorem sg_mone {k : Int} : sgZ k = -1 ↔ k < 0 := by rcases sg_cases k with ⟨h, e⟩ | ⟨h, e⟩ | ⟨h, e⟩ <;> rw [e] <;> simp <;> omega
/-- Ears of a way that turns left. -/
theorem ear_pos {l : List (Int × Int)} {L : List Nat} {i : Nat} (S : Jor.SimJ (wayQ l L)) (hi : i < L.length) :
    earB l L i 1 = true ↔ Jor.EarP (wayQ l L) (toQ (l.getD (bef L i) (0, 0))) (toQ (l.getD (L.getD i 0) (0, 0))) (toQ (l.getD (aft L i) (0, 0))) := by
  rw [ear_iff, sg_one]
  constructor
  · rintro ⟨h1, h2⟩
    refine ⟨ed_bef hi, ed_aft hi, jq_pos.2 h1, fun p hp n1 n2 n3 => ?_⟩
    obtain ⟨k, hk, rfl⟩ := mem_way.1 hp
    rw [inC_pos h1]
    rcases h2 k hk with e | e | e | e
    · exact absurd (by rw [e]) n1
    · exact absurd (by rw [e]) n2
    · exact absurd (by rw [e]) n3
    · rw [e]; intro x; cases x
  · intro E
    have h1 := jq_pos.1 E.pos
    refine ⟨h1, fun k hk => ?_⟩
    by_cases e1 : k = bef L i
    · exact .inl e1
    · by_cases e2 : k = L.getD i 0
      · exact .inr (.inl e2)
      · by_cases e3 : k = aft L i
        · exact .inr (.inr (.inl e3))
        · have := E.emp _ (mem_way.2 ⟨k, hk, rfl⟩) (fun e => e1 (way_key S hk (bef_mem hi) e)) (fun e => e2 (way_key S hk (mem_at hi) e)) (fun e => e3 (way_key S hk (aft_mem hi) e))
          rw [inC_pos h1] at this
          exact .inr (.inr (.inr (by simpa using this)))
theorem ear_neg {l : List (Int × Int)} {L : List Nat} {i : Nat} (S : Jor.SimJ (wayQ l L)) (hi : i < L.length) :
    earB l L i (-1) = true ↔ Jor.EarP (Jor.rv (wayQ l L)) (toQ (l.getD (aft L i) (0, 0))) (toQ (l.getD (L.getD i 0) (0, 0))) (toQ (l.getD (bef L i) (0, 0))) := by
  rw [ear_iff, sg_mone]
  have tw : ∀ a b c : Int × Int, crs c b a = -crs a b c := fun a b c => by unfold crs; grind
  constructor
  · rintro ⟨h1, h2⟩
    refine ⟨Jor.ed_rev.2 (ed_aft hi), Jor.ed_rev.2 (ed_bef hi), jq_pos.2 (by rw [tw]; omega), fun p hp n1 n2 n3 => ?_⟩
    obtain ⟨k, hk, rfl⟩ := mem_way.1 (Jor.mem_rv.1 hp)
    rw [inC_neg h1]
    rcases h2 k hk with e | e | e | e
    · exact absurd (by rw [e]) n3
    · exact absurd (by rw [e]) n2
    · exact absurd (by rw [e]) n1
    · rw [e]; intro x; cases x
  · intro E
    have h1 := jq_pos.1 E.pos
    rw [tw] at h1
    refine ⟨by omega, fun k hk => ?_⟩
    by_cases e1 : k = bef L i
    · exact .inl e1
    · by_cases e2 : k = L.getD i 0
      · exact .inr (.inl e2)
      · by_cases e3 : k = aft L i
        · exact .inr (.inr (.inl e3))
        · have := E.emp _ (Jor.mem_rv.2 (mem_way.2 ⟨k, hk, rfl⟩)) (fun e => e3 (way_key S hk (aft_mem hi) e)) (fun e => e2 (way_key S hk (mem_at hi) e)) (fun e => e1 (way_key S hk (bef_mem hi) e))
          rw [inC_neg (by omega)] at this
          exact .inr (.inr (.inr (by simpa using this)))
/-- Two ears. -/
theorem ear_two {l : List (Int × Int)} {L : List Nat} {t : Int} (G : GoodL l L t) (n4 : 4 ≤ L.length) : ∃ i j, i < L.length ∧ j < L.length ∧ i ≠ j ∧ earB l L i t = true ∧ earB l L j t = true := by
  obtain ⟨S, ⟨rfl, P⟩ | ⟨rfl, P⟩⟩ := G
  · obtain ⟨a, b, c, a', b', c', E, E', hne, _, _⟩ := P.two (by rw [wayQ_len]; exact n4)
    obtain ⟨i, hi, rfl, rfl, rfl⟩ := ed_find S E.e1 E.e2
    obtain ⟨j, hj, rfl, rfl, rfl⟩ := ed_find S E'.e1 E'.e2
    exact ⟨i, j, hi, hj, fun k => hne (by rw [k]), (ear_pos S hi).2 E, (ear_pos S hj).2 E'⟩
  · obtain ⟨a, b, c, a', b', c', E, E', hne, _, _⟩ := P.two (by rw [Jor.len_rv, wayQ_len]; exact n4)
    obtain ⟨i, hi, rfl, rfl, rfl⟩ := ed_find S (Jor.ed_rev.1 E.e2) (Jor.ed_rev.1 E.e1)
    obtain ⟨j, hj, rfl, rfl, rfl⟩ := ed_find S (Jor.ed_rev.1 E'.e2) (Jor.ed_rev.1 E'.e1)
    exact ⟨i, j, hi, hj, fun k => hne (by rw [k]), (ear_neg S hi).2 E, (ear_neg S hj).2 E'⟩
theorem way_split {l : List (Int × Int)} {L : List Nat} {i : Nat} (hi : i < L.length) : wayQ l L = wayQ l (L.take i) ++ toQ (l.getD (L.getD i 0) (0, 0)) :: wayQ l (L.drop (i + 1)) ∧ wayQ l (L.eraseIdx i) = wayQ l (L.take i) ++ wayQ l (L.drop (i + 1)) := by
  constructor
  · have e : L = L.take i ++ L.getD i 0 :: L.drop (i + 1) := by
      rw [List.getD_eq_getElem?_getD, List.getElem?_eq_getElem hi, Option.getD_some, List.getElem_cons_drop, List.take_append_drop]
    conv => lhs; rw [e]
    simp [wayQ]
  · rw [List.eraseIdx_eq_take_drop_succ]; simp [wayQ]
theorem rv_same (P : List Jor.Q2) : Jor.Same (Jor.rv P) P.reverse := by
  cases P with
  | nil => exact Jor.Same.rfl _
  | cons a l =>
    have := Jor.rot_app [a] l.reverse
    simpa [Jor.rv] using this
/-- What is left behind an ear. -/
theorem ear_cut {l : List (Int × Int)} {L : List Nat} {t : Int} {i : Nat} (G : GoodL l L t) (n4 : 4 ≤ L.length) (hi : i < L.length) (h : earB l L i t = true) : GoodL l (L.eraseIdx i) t := by
  obtain ⟨e1, e2⟩ := way_split (l := l) hi
  have wl := wayQ_len l L
  obtain ⟨S, ⟨rfl, P⟩ | ⟨rfl, P⟩⟩ := G
  · have E := (ear_pos S hi).1 h
    rw [e1] at S P E wl
    obtain ⟨S', P', _⟩ := Jor.cut_pos S P E (by omega)
    exact ⟨by rw [e2]; exact S', .inl ⟨rfl, by rw [e2]; exact P'⟩⟩
  · have E := (ear_neg S hi).1 h
    have r := rv_same (wayQ l L)
    have S1 := S.rev.same r
    have P1 := P.same r
    have E1 := E.same r
    have wl1 := r.len
    rw [Jor.len_rv, wl] at wl1
    rw [e1, List.reverse_append, List.reverse_cons, List.append_assoc, List.singleton_append] at S1 P1 E1 wl1
    obtain ⟨S', P', _⟩ := Jor.cut_pos S1 P1 E1 (by omega)
    have r2 := rv_same (wayQ l (L.eraseIdx i))
    rw [e2, List.reverse_append, ← e2] at r2
    have S2 := (S'.same r2.symm).rev
    rw [Jor.rv_rv] at S2
    exact ⟨S2, .inr ⟨rfl, P'.same r2.symm⟩⟩
end Go.Proofs.YtomekmhonfofkaaGreat
namespace Go.Proofs.YtomekmhonfofkaaGreat
open Go.RowKit Go.ChangeMaps
set_option linter.unusedVariables false
set_option maxRecDepth 100000
set_option linter.unusedSimpArgs false

theorem turnWI (a : Option Addr) (n c : Nat) (l : List (Int × Int)) (w : World) (h : SlP w a l) (hn : l.length = n) (h0 : 0 < n) (h12 : n ≤ 12) (hg : ∀ p ∈ l, Near p) (hz : arS l l.length ≠ 0) :
    Calls Tryz.prog 26 #[.slice a n c] w fun e w' => e = .returned (.int .i64 (sgZ (arS l l.length))) ∧ Below w.heap.size w w' := by
  have CA := hide (areaI a n c l w h hn h0 h12 hg)
  clear h hn hg
  generalize arS l l.length = A at *
  rcases sg_cases A with ⟨k, e⟩ | ⟨k, e⟩ | ⟨k, e⟩
  · rw [e]
    have d : decide (0 < A) = true := decide_eq_true k
    clear e hz
    go_enter Tryz.func26, Tryz.ntmps26
    go_wp2_with fail
    refine (unhide CA).mono ?_
    rintro e w1 ⟨rfl, hb⟩
    go_wp2_with fail
    go_ret
    exact ⟨rfl, hb⟩
  · exact absurd k hz
  · rw [e]
    have d : decide (0 < A) = false := decide_eq_false (by omega)
    have d2 : ¬ (0 < A) := by omega
    clear e hz
    go_enter Tryz.func26, Tryz.ntmps26
    go_wp2_with fail
    refine (unhide CA).mono ?_
    rintro e w1 ⟨rfl, hb⟩
    go_wp2_with fail
    go_ret
    exact ⟨rfl, hb⟩
theorem emptyI (w : World) : RwI w.heap.size (w.alloc (.cells #[] 3)) (.slice (some ⟨w.heap.size, 0, none⟩) 0 0) [] := by
  refine ⟨⟨rfl, .inr ⟨w.heap.size, 0, #[], rfl, Nat.le_refl _, ?_, by simp, by simp, by simp, rfl⟩⟩⟩
  show (w.heap.push _)[w.heap.size]? = _
  simp
/-- A good simple way turns. -/
theorem ip_turn {l : List (Int × Int)} (h : ipB l = true) : arS l l.length ≠ 0 ∧ (sgZ (arS l l.length) = 1 ∨ sgZ (arS l l.length) = -1) := by
  have p := ip_parts h
  have w3 := (way_parts p.1).1.1
  have G := goodL_of w3 p.2
  have t : sgZ (arS l l.length) = 1 ∨ sgZ (arS l l.length) = -1 := by
    rcases G.2 with ⟨k, _⟩ | ⟨k, _⟩
    · exact .inl k
    · exact .inr k
  refine ⟨fun e => ?_, t⟩
  rw [e] at t
  rcases t with k | k <;> exact absurd k (by decide)
theorem range_up (n : Nat) : (List.range n).Pairwise (· < ·) := List.pairwise_lt_range
theorem mpC_of {w w' : World} {B n : Nat} {l : List (Int × Int)} (hm : w'.heap[B]? = some (.map (mpL l (List.range n)).toArray n)) (hn : l.length = n) (h12 : n ≤ 12) (hg : ∀ p ∈ l, Near p) : MpC w' B l (List.range n) n :=
  ⟨hm, (Array.getElem?_eq_some_iff.1 hm).1, range_up n, fun k hk => List.mem_range.1 hk, fun k hk => by have := List.mem_range.1 hk; omega, by omega, hg⟩
/-- The ears' own numbers. -/
theorem ear_nums (l : List (Int × Int)) (n : Nat) (t : Int) : (earT l (List.range n) t).map (fun q => q.2.1) = cI (earL l (List.range n) t) := by
  unfold earT earL cI triE
  rw [List.map_map, List.length_range]
  apply List.map_congr_left
  intro i hi
  have := List.mem_range.1 (List.mem_filter.1 hi).1
  simp only [Function.comp, range_at this]
theorem take_snocT {T : List (Int × Int × Int)} {i : Nat} (h : i < T.length) : (T.take (i + 1)).map (fun q => q.2.1) = (T.take i).map (fun q => q.2.1) ++ [T[i].2.1] := by
  have e := (List.take_append_getElem h).symm
  rw [e, List.map_append]
  rfl
set_option maxHeartbeats 8000000 in
theorem EarsOfI (a : Option Addr) (n c : Nat) (l : List (Int × Int)) (w : World) (h : ArP w a n c l) (h1 : n ≤ 1048576) :
    Calls Tryz.prog 7 #[.slice a n c] w fun e w' => ∃ a' n' c', e = .returned (.tuple #[.slice a' n' c', .bool (ipB l)]) ∧ Below w.heap.size w w' ∧ RtI w.heap.size w' a' n' c' (eaV l) ∧ n' ≤ 1048576 := by
  have hn := h.len
  have CG := hide (fun w (k : SlP w a l) => gswI a n c l w k hn h1)
  have HS := hide h.sl
  cases hp : ipB l
  · rw [hp] at CG
    have EV : eaV l = [] := by unfold eaV; rw [hp]; rfl
    rw [EV]
    clear hp h hn EV
    go_enter Tryz.func7, Tryz.ntmps7
    go_wp2_with fail
    refine (unhide CG _ (unhide HS)).mono ?_
    rintro e w1 ⟨rfl, hb⟩
    go_wp2_with fail
    go_ret2
    exact ⟨none, 0, 0, rfl, hb, ⟨rfl, .inl rfl⟩, by omega⟩
  · rw [hp] at CG
    have wp := way_parts (ip_parts hp).1
    have tn := ip_turn hp
    have n12 : n ≤ 12 := by omega
    have n3 : 3 ≤ n := by omega
    have CL := hide (fun w (k : SlP w a l) => leftI a n c l w k hn (by omega) n12)
    have CT := hide (fun w (k : SlP w a l) => turnWI a n c l w k hn (by omega) n12 wp.2 tn.1)
    have CE := hide (fun w B (k : MpC w B l (List.range n) n) => earsI B n l (List.range n) (sgZ (arS l l.length)) w k (by simpa using n3) (by rcases tn.2 with e | e <;> rw [e] <;> decide))
    have CM := hide (fun (w : World) (B : Nat) (k : w.heap[B]? = some (Obj.map (mpL l (List.range n)).toArray n)) => mpC_of (w := w) (w' := w) k hn n12 wp.2)
    have EV : eaV l = (earT l (List.range n) (sgZ (arS l l.length))).map (fun q => q.2.1) := by unfold eaV; rw [hp, ear_nums, hn]; rfl
    have LE : (earT l (List.range n) (sgZ (arS l l.length))).length ≤ n := by unfold earT; rw [List.length_map]; unfold earL; exact Nat.le_trans (List.length_filter_le _ _) (by simp)
    rw [EV]
    generalize earT l (List.range n) (sgZ (arS l l.length)) = T at *
    generalize sgZ (arS l l.length) = t at *
    clear hp h hn wp EV tn
    obtain ⟨i0, hi0, hz0, hz1, hz2⟩ := info_parts Tryz.info3
    go_enter Tryz.func7, Tryz.ntmps7
    go_wp2_with fail
    refine (unhide CG _ (unhide HS)).mono ?_
    rintro e w1 ⟨rfl, hb⟩
    have bl : Below w1.heap.size w1 (w1.alloc (.cells #[] 3)) := (Below.refl _ _).alloc (Nat.le_refl _) _
    replace HS := hide (((unhide HS).later hb).later bl)
    have HB := hide (below_on hb bl)
    have B1 := hide hb
    have E2 := hide (emptyI w1)
    have lt2 : w1.heap.size < (w1.alloc (.cells #[] 3)).heap.size := by simp
    clear hb CG bl
    go_wp2_with fail
    generalize hw2 : w1.alloc (.cells #[] 3) = w2 at *
    clear hw2
    refine (unhide CL _ (unhide HS)).mono ?_
    rintro e w3 ⟨rfl, m3, hb⟩
    have M3 := hide (unhide CM w3 _ m3)
    replace HS := hide ((unhide HS).later hb)
    replace E2 := hide ((unhide E2).later hb)
    replace HB := hide (below_on (unhide HB) hb)
    have lt3 : w1.heap.size < w3.heap.size := Nat.lt_of_lt_of_le lt2 hb.size
    clear hb m3 CL CM lt2
    generalize w2.heap.size = BM at *
    go_wp2_with fail
    refine (unhide CT _ (unhide HS)).mono ?_
    rintro e w4 ⟨rfl, hb⟩
    replace M3 := hide ((unhide M3).later hb)
    replace E2 := hide ((unhide E2).later hb)
    replace HB := hide (below_on (unhide HB) hb)
    have lt4 : w1.heap.size < w4.heap.size := Nat.lt_of_lt_of_le lt3 hb.size
    clear hb CT lt3 HS
    go_wp2_with fail
    refine (unhide CE _ _ (unhide M3)).mono ?_
    rintro e w5 ⟨v15, rfl, hb, rt⟩
    obtain ⟨at_, ct, rfl, hT⟩ : ∃ a c, v15 = .slice a T.length c ∧ (T = [] ∨ ∃ g, a = some ⟨g, 0, none⟩ ∧ w4.heap.size ≤ g ∧ g < w5.heap.size ∧ ∀ i (h : i < T.length), w5.cell? ⟨g, i * 3, none⟩ = some (.int .i64 T[i].1) ∧ w5.cell? ⟨g, i * 3 + 1, none⟩ = some (.int .i64 T[i].2.1) ∧ w5.cell? ⟨g, i * 3 + 2, none⟩ = some (.int .i64 T[i].2.2)) := by
      rcases rt.open with ⟨e1, e2⟩ | ⟨g, c', e1, h2, h3, _, _, h6⟩
      · exact ⟨none, 0, by rw [e1, e2]; rfl, .inl e2⟩
      · exact ⟨_, c', e1, .inr ⟨g, rfl, h2, h3, h6⟩⟩
    have HT := hide hT
    replace E2 := hide ((unhide E2).later hb)
    replace HB := hide (below_on (unhide HB) hb)
    have lt5 : w1.heap.size < w5.heap.size := Nat.lt_of_lt_of_le lt4 hb.size
    clear hb CE M3 rt hT
    go_wp2_with fail
    go_loopw [4, 17] (fun v iv wr => ∃ i : Nat, i ≤ T.length ∧ iv = .int .i64 i ∧ Hid (RwI w1.heap.size wr v ((T.take i).map (fun q => q.2.1))) ∧ Hid (∀ k, v.ownBlock = some k → k = w1.heap.size ∨ w5.heap.size ≤ k) ∧ Hid (But w1.heap.size (w1.heap.size + 1) w5 wr)) (fun _ iv _ => T.length - (intOf iv).toNat)
    case atStart => exact ⟨0, Nat.zero_le _, rfl, E2, hide (fun k hk => by simp [Value.ownBlock] at hk; exact .inl hk.symm), hide (But.refl _ _ _)⟩
    case round =>
      obtain ⟨i, hi, rfl, HR, HO, HU⟩ := hrel
      by_cases hlt : i < T.length
      · have hlt' : (i : Int) < (T.length : Int) := by omega
        rcases (unhide HT) with e | ⟨g, rfl, hg4, hg5, hc⟩
        · rw [e] at hlt; simp at hlt
        obtain ⟨c0, c1, c2⟩ := hc i hlt
        replace c0 := (unhide HU).cell c0 (.inr (by omega))
        replace c1 := (unhide HU).cell c1 (.inr (by omega))
        replace c2 := (unhide HU).cell c2 (.inr (by omega))
        have TS : Hid ((T.take (i + 1)).map (fun q => q.2.1) = (T.take i).map (fun q => q.2.1) ++ [T[i].2.1]) := hide (take_snocT hlt)
        have LI : ((T.take i).map (fun q => q.2.1)).length = i := by simp; omega
        generalize T[i] = q at *
        generalize (T.take i).map (fun q => q.2.1) = LS at *
        have us := (unhide HU).size
        have al : Below wr.heap.size wr (wr.alloc (.cells #[.int .i64 q.1, .int .i64 q.2.1, .int .i64 q.2.2] 40)) := (Below.refl _ _).alloc (Nat.le_refl _) _
        have RA := hide ((unhide HR).later al)
        have UA := hide ((unhide HU).trans (But.of_below al))
        have sa : wr.heap.size ≤ (wr.alloc (.cells #[.int .i64 q.1, .int .i64 q.2.1, .int .i64 q.2.2] 40)).heap.size := al.size
        have b1 : (wr.alloc (.cells #[.int .i64 q.1, .int .i64 q.2.1, .int .i64 q.2.2] 40)).cell? ⟨wr.heap.size, 1, none⟩ = some (.int .i64 q.2.1) := by simp [go_sem]
        have AB := hide al
        clear al hc
        go_upto_region 7 with fail
        generalize wr.alloc (.cells #[.int .i64 q.1, .int .i64 q.2.1, .int .i64 q.2.2] 40) = wA at *
        go_wp2_with (at_builtin; refine wpList_append_own_at _ rfl (.tmp 21) (.tmp 24) 28 rfl w1.heap.size 3 i0 (.int .i64 0) 1 8 Tryz.underlying28 hi0 hz0 hz1 hz2 rfl (by decide) _ _ _ rfl ((unhide RA).row.alloc _) ⟨_, 0, none⟩ 1 1 [.int .i64 q.2.1] rfl rfl (new_cellI _ _) (fun u hu => by simp at hu; subst hu; rfl) (by unfold maxLen; omega) (by omega) (by simp; omega) ?_)
        intro v' w6 hown hgr _ hob
        have RN : Hid (RwI w1.heap.size w6 v' ((T.take (i + 1)).map (fun q => q.2.1))) := hide (by rw [unhide TS]; refine RwI.snoc ?_; first | exact hown | (rw [LI]; exact hown))
        have ON : Hid (∀ k, v'.ownBlock = some k → k = w1.heap.size ∨ w5.heap.size ≤ k) := hide (fun k hk => by
          rcases hob with e | e
          · exact unhide HO k (by rw [← e]; exact hk)
          · rw [e] at hk
            simp only [Option.some.injEq] at hk
            have := (unhide UA).size
            right
            rw [← hk]
            simp at *
            omega)
        have UN : Hid (But w1.heap.size (w1.heap.size + 1) w5 w6) := hide (by
          have ab : Below wr.heap.size wr (wA.alloc (.cells #[.int .i64 q.2.1] 3)) := (unhide AB).alloc sa _
          have u := unhide HU
          refine ⟨hgr.os.trans (ab.os.trans u.os), hgr.tape.trans (ab.tape.trans u.tape), hgr.output.trans (ab.output.trans u.output), Nat.le_trans u.size (Nat.le_trans ab.size hgr.size), fun k hk hj => ?_⟩
          rw [hgr.block k (Nat.lt_of_lt_of_le hk (Nat.le_trans u.size ab.size)) (fun e => by have := unhide HO k e.symm; omega), ab.block k (Nat.lt_of_lt_of_le hk u.size)]
          exact u.block k hk hj)
        clear hown hgr hob HR HO HU RA UA
        go_wp2
        go_roundw
        case rel => exact ⟨i + 1, by omega, by go_num, RN, ON, UN⟩
        case measure => simp [intOf]; omega
      · obtain rfl : i = T.length := by omega
        obtain ⟨a', c', rfl, rr⟩ := (unhide HR).rt
        rw [List.take_length] at rr
        have R1 := hide rr
        have BE := hide ((unhide HU).below (unhide HB) (unhide B1).size (unhide HB).size)
        clear rr HR HO HU
        go_wp2
        go_ret2
        exact ⟨a', _, c', rfl, unhide BE, ⟨by simp, (unhide R1).own.mono (unhide B1).size⟩, by simp; omega⟩
end Go.Proofs.YtomekmhonfofkaaGreat
namespace Go.Proofs.YtomekmhonfofkaaGreat
open Go.RowKit Go.ChangeMaps
set_option linter.unusedVariables false
set_option maxRecDepth 100000
set_option linter.unusedSimpArgs false

theorem madeT (w : World) (n : Nat) (hm : n ≤ maxLen) : (w.alloc (.cells (madeCells #[.int .i64 0, .int .i64 0, .int .i64 0] (n * 3)) 40)).ownsRow w.heap.size 40 3 (.slice (some ⟨w.heap.size, 0, none⟩) 0 n) 0 (flatT []) := by
  refine ⟨rfl, .inr ⟨w.heap.size, n, madeCells #[.int .i64 0, .int .i64 0, .int .i64 0] (n * 3), rfl, Nat.le_refl _, ?_, by omega, hm, by simp [size_madeCells], by simp [flatT]⟩⟩
  show (w.heap.push _)[w.heap.size]? = _
  simp
/-- The first ear, where there is one. -/
theorem ear_first {l : List (Int × Int)} {L : List Nat} {t : Int} (G : GoodL l L t) (n4 : 4 ≤ L.length) : earB l L (fstE l L t) t = true ∧ ∃ R, earT l L t = triE L (fstE l L t) :: R := by
  obtain ⟨i, _, hi, _, _, he, _⟩ := ear_two G n4
  have hf : ((List.range L.length).find? (fun i => earB l L i t)).isSome := by
    rw [List.find?_isSome]
    exact ⟨i, List.mem_range.2 hi, he⟩
  obtain ⟨x, hx⟩ := Option.isSome_iff_exists.1 hf
  have ex : fstE l L t = x := by unfold fstE; rw [hx]; rfl
  refine ⟨by rw [ex]; exact List.find?_some (p := fun i => earB l L i t) hx, ?_⟩
  have hh : ((List.range L.length).filter (fun i => earB l L i t)).head? = some x := by rw [List.head?_filter]; exact hx
  obtain ⟨R, hR⟩ : ∃ R, (List.range L.length).filter (fun i => earB l L i t) = x :: R := by
    cases e : (List.range L.length).filter (fun i => earB l L i t) with
    | nil => rw [e] at hh; cases hh
    | cons a R => rw [e] at hh; simp at hh; exact ⟨R, by rw [hh]⟩
  exact ⟨R.map (triE L), by unfold earT earL; rw [hR, ex]; rfl⟩
theorem MpC.grown {w w' : World} {B : Nat} {l : List (Int × Int)} {L : List Nat} {clock : Nat} {r : Option Nat} (h : MpC w B l L clock) (hg : w.grownBy w' r) (hne : some B ≠ r) : MpC w' B l L clock :=
  ⟨(hg.block B h.lt hne).trans h.at_, Nat.lt_of_lt_of_le h.lt hg.size, h.up, h.clk, h.top, h.n12, h.near⟩
theorem up_inj {L : List Nat} (h : L.Pairwise (· < ·)) {i j : Nat} {x : Nat} (hi : L[i]? = some x) (hj : L[j]? = some x) : i = j := by
  have li := (List.getElem?_eq_some_iff.1 hi).1
  have lj := (List.getElem?_eq_some_iff.1 hj).1
  have ei := (List.getElem?_eq_some_iff.1 hi).2
  have ej := (List.getElem?_eq_some_iff.1 hj).2
  rcases Nat.lt_trichotomy i j with k | k | k
  · have := List.pairwise_iff_getElem.1 h i j li lj k; omega
  · exact k
  · have := List.pairwise_iff_getElem.1 h j i lj li k; omega
/-- One corner struck out. -/
theorem MpC.del {w : World} {B : Nat} {l : List (Int × Int)} {L : List Nat} {clock : Nat} (h : MpC w B l L clock) {i : Nat} (hi : i < L.length) :
    ∃ w', (∀ ty, (Builtin.delete_ #[50, 3] ty #[.map (some B), .int .i64 ((L.getD i 0 : Nat) : Int)]).run Tryz.prog w = .ok (.tuple #[]) w') ∧ MpC w' B l (L.eraseIdx i) clock ∧ But B (B + 1) w w' := by
  have hk := mem_at hi
  obtain ⟨j, hj, hrun⟩ := del11 h.at_ (fun k hk => by have := h.top k hk; have := h.n12; omega) hk
  have e : i = j := up_inj h.up (by rw [List.getD_eq_getElem?_getD, List.getElem?_eq_getElem hi]; rfl) hj
  subst e
  refine ⟨_, hrun, ⟨set_at11 h.at_ _, by simp [setBlock]; exact h.lt, h.up.sublist (List.eraseIdx_sublist _ _), fun k hk => h.clk k (List.mem_of_mem_eraseIdx hk), fun k hk => h.top k (List.mem_of_mem_eraseIdx hk), h.n12, h.near⟩, set_but11 _⟩
theorem owns_but {B k lo hi : Nat} {t : TypeId} {w w' : World} {v : Value} {n : Nat} {xs : List Value} (h : w.ownsRow B t k v n xs) (hb : But lo hi w w') (hne : ∀ j, v.ownBlock = some j → j < lo ∨ hi ≤ j) : w'.ownsRow B t k v n xs := by
  refine ⟨h.1, ?_⟩
  rcases h.2 with h' | ⟨g', cap, cur, hv, h1, hg', rr⟩
  · exact .inl h'
  · refine .inr ⟨g', cap, cur, hv, h1, ?_, rr⟩
    rw [hb.block g' (Array.getElem?_eq_some_iff.1 hg').1 (hne g' (by rw [hv]; rfl))]
    exact hg'
set_option maxHeartbeats 16000000 in
theorem cutI (a : Option Addr) (n c : Nat) (l : List (Int × Int)) (w : World) (h : SlP w a l) (hn : l.length = n) (hp : ipB l = true) :
    Calls Tryz.prog 21 #[.slice a n c] w fun e w' => ∃ v, e = .returned v ∧ Below w.heap.size w w' ∧ RwT w.heap.size w' v (cutL l (sgZ (arS l l.length)) (n - 3) (List.range n)) := by
  obtain ⟨i0, hi0, hz0, hz1, hz2⟩ := info_parts infoTri
  have wp := way_parts (ip_parts hp).1
  have tn := ip_turn hp
  have G0 : Hid (GoodL l (List.range n) (sgZ (arS l l.length))) := hide (by rw [← hn]; exact goodL_of wp.1.1 (ip_parts hp).2)
  have n12 : n ≤ 12 := by omega
  have n3 : 3 ≤ n := by omega
  have CL := hide (fun w (k : SlP w a l) => leftI a n c l w k hn (by omega) n12)
  have CT := hide (fun w (k : SlP w a l) => turnWI a n c l w k hn (by omega) n12 wp.2 tn.1)
  have CM := hide (fun (w : World) (B : Nat) (k : w.heap[B]? = some (Obj.map (mpL l (List.range n)).toArray n)) => mpC_of (w := w) (w' := w) k hn n12 wp.2)
  have TZ : Hid (sgZ (arS l l.length) ≠ 0) := hide (by rcases tn.2 with e | e <;> rw [e] <;> decide)
  have HS := hide h
  generalize sgZ (arS l l.length) = t at *
  obtain ⟨T, hT⟩ : ∃ T, T = cutL l t (n - 3) (List.range n) := ⟨_, rfl⟩
  have TL : T.length = n - 2 := by rw [hT, cutL_len]; omega
  rw [← hT]
  have ET := hide hT.symm
  clear h hn hp wp tn hT
  have w2n : IntKind.i64.wrap ((n : Int) - 2) = ((n - 2 : Nat) : Int) := by rw [IntKind.wrap_i64]; omega
  obtain ⟨M, hM⟩ : ∃ M, M = n - 2 := ⟨_, rfl⟩
  rw [← hM] at w2n
  have hMn : M ≤ 10 := by omega
  have MH := hide hM
  have TL2 := hide TL
  clear hM TL
  have hmk : ∀ w, (Instr.makeSlice 25 (.int .i64 0) (.int .i64 (M : Int))).run Tryz.prog w = .ok (.slice (some ⟨w.heap.size, 0, none⟩) 0 M) (w.alloc (.cells (madeCells #[.int .i64 0, .int .i64 0, .int .i64 0] (M * 3)) 40)) := by
    intro w
    have := run_make (P := Tryz.prog) w 25 40 i0 (.agg #[.int .i64 0, .int .i64 0, .int .i64 0]) Tryz.underlying25 hi0 hz0 .i64 .i64 0 (M : Int) (by omega) (by omega) (by rw [hz2]; omega) (by omega)
    rw [this, hz1]
    simp [Value.cells]
  go_enter Tryz.func21, Tryz.ntmps21
  go_wp2_with fail
  refine (unhide CT _ (unhide HS)).mono ?_
  rintro e w1 ⟨rfl, hb⟩
  replace HS := hide ((unhide HS).later hb)
  have HB := hide hb
  have HB0 := hide hb
  clear hb CT
  go_wp2_with fail
  refine (unhide CL _ (unhide HS)).mono ?_
  rintro e w2 ⟨rfl, m2, hb⟩
  have M2 := hide (unhide CM w2 _ m2)
  replace HB := hide (below_on (unhide HB) hb)
  have bl2 : w1.heap.size < w2.heap.size := (unhide M2).lt
  have wb1 : w.heap.size ≤ w1.heap.size := (unhide HB0).size
  clear hb m2 CL CM HS HB0
  have O3 := hide (madeT w2 M (by unfold maxLen; omega))
  have al : Below w2.heap.size w2 (w2.alloc (.cells (madeCells #[.int .i64 0, .int .i64 0, .int .i64 0] (M * 3)) 40)) := (Below.refl _ _).alloc (Nat.le_refl _) _
  replace M2 := hide ((unhide M2).later al)
  replace HB := hide (below_on (unhide HB) al)
  clear al
  go_wp2_with fail
  generalize hw3 : w2.alloc (.cells (madeCells #[.int .i64 0, .int .i64 0, .int .i64 0] (M * 3)) 40) = w3 at *
  clear hw3
  generalize w2.heap.size = G at *
  generalize w1.heap.size = BM at *
  have R3 : Hid (RwT w.heap.size w3 (.slice (some ⟨G, 0, none⟩) 0 M) []) := hide ⟨owns_mono (unhide O3) (by omega)⟩
  clear O3
  go_loopw [5] (fun v5 wr => ∃ (N : Nat) (L : List Nat) (D : List (Int × Int × Int)), 3 ≤ N ∧ N ≤ 12 ∧ D.length + N = n ∧ v5 = .slice (some ⟨G, 0, none⟩) D.length M ∧ Hid (L.length = N) ∧ Hid (D ++ cutL l t (N - 3) L = T) ∧ Hid (GoodL l L t) ∧ Hid (MpC wr BM l L n) ∧ Hid (RwT w.heap.size wr (.slice (some ⟨G, 0, none⟩) D.length M) D) ∧ Hid (Below w.heap.size w wr)) (fun v5 _ => n - lenV v5)
  case atStart => exact ⟨n, List.range n, [], n3, n12, by simp, rfl, hide (by simp), hide (by rw [List.nil_append]; exact unhide ET), G0, M2, R3, HB⟩
  case round =>
    clear M2 HB R3 G0 ET
    obtain ⟨N, L, D, N3, N12, DN, rfl, HN, HE, HG, HM, HR, HB⟩ := hrel
    have len : ∀ ty, (Builtin.len_ #[50] ty #[.map (some BM)]).run Tryz.prog wr = .ok (.int .i64 (N : Int)) wr := fun ty => by
      have := lenM11 (ty := ty) (unhide HM).at_
      simpa [mpL, unhide HN] using this
    by_cases h4 : 3 < N
    · have h4' : (3 : Int) < (N : Int) := by omega
      have d4 : decide (3 < N) = true := decide_eq_true h4
      obtain ⟨eb, R, hR⟩ := ear_first (unhide HG) (by rw [unhide HN]; omega)
      have eN := fstE_lt (l := l) (L := L) (t := t) (by rw [unhide HN]; omega)
      have G2 := hide (ear_cut (unhide HG) (by rw [unhide HN]; omega) eN eb)
      have LE : Hid ((L.eraseIdx (fstE l L t)).length = N - 1) := hide (by rw [List.length_eraseIdx, if_pos eN, unhide HN])
      have E2 : Hid (D ++ [triE L (fstE l L t)] ++ cutL l t (N - 1 - 3) (L.eraseIdx (fstE l L t)) = T) := hide (by
        have := unhide HE
        rw [show N - 3 = N - 1 - 3 + 1 by omega, cutL] at this
        rw [List.append_assoc]
        exact this)
      have CE := hide (earsI BM n l L t wr (unhide HM) (by rw [unhide HN]; omega) (unhide TZ))
      rw [hR] at CE
      have TE : triE L (fstE l L t) = ((bef L (fstE l L t) : Int), (L.getD (fstE l L t) 0 : Int), (aft L (fstE l L t) : Int)) := rfl
      have TEH := hide TE
      rw [TE] at CE
      clear eb hR HE HG HN TE
      have DEL := hide (fun w' (k : MpC w' BM l L n) => k.del eN)
      clear eN
      generalize fstE l L t = ee at *
      generalize bef L ee = x at *
      generalize L.getD ee 0 = y at *
      generalize aft L ee = z at *
      go_wp2_with fail
      refine (unhide CE).mono ?_
      rintro e w5 ⟨v21, rfl, hb, rt⟩
      obtain ⟨g2, c2, rfl, hgl, cx, cy, cz⟩ : ∃ g2 c2, v21 = .slice (some ⟨g2, 0, none⟩) (R.length + 1) c2 ∧ g2 < w5.heap.size ∧ w5.cell? ⟨g2, 0, none⟩ = some (.int .i64 (x : Int)) ∧ w5.cell? ⟨g2, 1, none⟩ = some (.int .i64 (y : Int)) ∧ w5.cell? ⟨g2, 2, none⟩ = some (.int .i64 (z : Int)) := by
        rcases rt.open with ⟨_, e⟩ | ⟨g2, c2, e, _, h2, _, _, h6⟩
        · cases e
        · have := h6 0 (by simp)
          exact ⟨g2, c2, e, h2, by simpa using this.1, by simpa using this.2.1, by simpa using this.2.2⟩
      replace HM := hide ((unhide HM).later hb)
      replace HR := hide ((unhide HR).later hb)
      replace HB := hide (below_on (unhide HB) hb)
      clear hb rt CE len
      have rp : (0 : Int) < ((R.length + 1 : Nat) : Int) := by omega
      have G5 : Hid (G < w5.heap.size) := hide ((unhide HR).lt11 G rfl)
      have BG : Hid (BM ≠ G) := hide (by omega)
      have al : Below w5.heap.size w5 (w5.alloc (.cells #[.int .i64 (x : Int), .int .i64 (y : Int), .int .i64 (z : Int)] 40)) := (Below.refl _ _).alloc (Nat.le_refl _) _
      have t0 : (w5.alloc (.cells #[.int .i64 (x : Int), .int .i64 (y : Int), .int .i64 (z : Int)] 40)).cell? ⟨w5.heap.size, 0, none⟩ = some (.int .i64 (x : Int)) := by simp [go_sem]
      have t1 : (w5.alloc (.cells #[.int .i64 (x : Int), .int .i64 (y : Int), .int .i64 (z : Int)] 40)).cell? ⟨w5.heap.size, 1, none⟩ = some (.int .i64 (y : Int)) := by simp [go_sem]
      have t2 : (w5.alloc (.cells #[.int .i64 (x : Int), .int .i64 (y : Int), .int .i64 (z : Int)] 40)).cell? ⟨w5.heap.size, 2, none⟩ = some (.int .i64 (z : Int)) := by simp [go_sem]
      replace HM := hide ((unhide HM).later al)
      replace HR := hide ((unhide HR).later al)
      replace HB := hide (below_on (unhide HB) al)
      clear al
      go_upto_region 5 with fail
      have pl : w5.heap.size < (w5.alloc (.cells #[.int .i64 (x : Int), .int .i64 (y : Int), .int .i64 (z : Int)] 40)).heap.size := by simp
      generalize w5.alloc (.cells #[.int .i64 (x : Int), .int .i64 (y : Int), .int .i64 (z : Int)] 40) = wA at *
      generalize w5.heap.size = PB at *
      clear cx cy cz
      have DM : D.length + 1 ≤ M := by have := unhide MH; omega
      go_wp2_with (at_builtin; refine wpList_append_fits_any _ rfl (.tmp 24) (.tmp 26) 25 rfl w.heap.size 40 i0 3 Tryz.underlying25 hi0 hz1 G D.length M _ rfl ((unhide HR).row.alloc _) (some ⟨_, 0, none⟩) 1 1 [.int .i64 (x : Int), .int .i64 (y : Int), .int .i64 (z : Int)] rfl rfl (by intro e; cases e) (by intro ad e j u hj; cases e; exact new_cellT _ _ _ _ j u hj) (fun u hu => by simp at hu; rcases hu with rfl | rfl | rfl <;> rfl) DM ?_)
      intro w6 hown hgr
      have R6 : RwT w.heap.size w6 (.slice (some ⟨G, 0, none⟩) (D.length + 1) M) (D ++ [triE L ee]) := by rw [unhide TEH]; exact RwT.snoc hown
      have aA : Below wA.heap.size wA (wA.alloc (.cells #[.int .i64 (x : Int), .int .i64 (y : Int), .int .i64 (z : Int)] 40)) := (Below.refl _ _).alloc (Nat.le_refl _) _
      have M6 := ((unhide HM).later aA).grown hgr (by have := unhide BG; simpa using this)
      have B6 := (below_on (unhide HB) aA).grown hgr (Nat.le_trans (unhide HB).size aA.size) (fun j hj => by simp at hj; omega)
      have s1 := hgr.cell ((aA.cell (p := ⟨PB, 1, none⟩) pl).trans t1) (by have := unhide G5; simp; omega)
      obtain ⟨w7, hdel, M7, bt7⟩ := unhide DEL w6 M6
      have R7 : Hid (RwT w.heap.size w7 (.slice (some ⟨G, 0, none⟩) (D.length + 1) M) (D ++ [triE L ee])) := hide ⟨owns_but R6.row bt7 (fun j hj => by simp [Value.ownBlock] at hj; have := unhide BG; omega)⟩
      have B7 := hide (bt7.below B6 wb1 B6.size)
      have M7' := hide M7
      have sl := (D ++ [triE L ee]).length
      have DL : (D ++ [triE L ee]).length = D.length + 1 := by simp
      have NN : Hid (3 ≤ N - 1 ∧ N - 1 ≤ 12 ∧ (D ++ [triE L ee]).length + (N - 1) = n) := hide (by rw [DL]; omega)
      clear R6 aA M6 B6 M7 bt7 hown hgr HM HR HB t0 t1 t2 sl
      go_wp2
      go_roundw
      case rel => exact ⟨N - 1, L.eraseIdx ee, D ++ [triE L ee], (unhide NN).1, (unhide NN).2.1, (unhide NN).2.2, by rw [DL], LE, E2, G2, M7', by rw [DL]; exact R7, B7⟩
      case measure => simp [lenV]; omega
    · obtain rfl : N = 3 := by omega
      have C7 := hide (orderI BM n l L wr (unhide HM).at_ (unhide HM).up (unhide HM).clk (by rw [unhide HN]; omega) (by rw [unhide HN]; omega))
      have lc : (cI L).length = 3 := by rw [cI_len]; exact unhide HN
      have ET : Hid (D ++ [((L.getD 0 0 : Int), (L.getD 1 0 : Int), (L.getD 2 0 : Int))] = T) := hide (unhide HE)
      clear HE HG HM HN
      go_wp2_with fail
      refine (unhide C7).mono ?_
      rintro e w5 ⟨v7, rfl, hb, rw7⟩
      obtain ⟨g, c7, rfl, cx, cy, cz⟩ : ∃ g c7, v7 = .slice (some ⟨g, 0, none⟩) 3 c7 ∧ w5.cell? ⟨g, 0, none⟩ = some (.int .i64 (L.getD 0 0 : Int)) ∧ w5.cell? ⟨g, 1, none⟩ = some (.int .i64 (L.getD 1 0 : Int)) ∧ w5.cell? ⟨g, 2, none⟩ = some (.int .i64 (L.getD 2 0 : Int)) := by
        rcases rw7.open with ⟨_, e⟩ | ⟨g, c7, e, _⟩
        · rw [e] at lc; simp at lc
        · rw [lc] at e
          rw [e] at rw7
          have h0 := rw7.at11 (i := 0) (by rw [lc]; omega)
          have h1 := rw7.at11 (i := 1) (by rw [lc]; omega)
          have h2 := rw7.at11 (i := 2) (by rw [lc]; omega)
          rw [cI_at] at h0 h1 h2
          exact ⟨g, c7, e, h0, h1, h2⟩
      generalize L.getD 0 0 = x at *
      generalize L.getD 1 0 = y at *
      generalize L.getD 2 0 = z at *
      have HOd := hide (((unhide HR).later hb).later (Below.refl w5.heap.size w5).drew)
      have HBd := hide (below_on (unhide HB) hb).drew
      have SZd : w.heap.size ≤ w5.drew.heap.size := (below_on (unhide HB) hb).size
      have SZ5 : w.heap.size ≤ w5.heap.size := (below_on (unhide HB) hb).size
      have hD12 : D.length ≤ 12 := by omega
      clear HR HB hb rw7 C7 len
      go_upto_region 8 with fail
      go_region_law (first
        | (refine step_app11 rfl (.tmp 33) (.tmp 44) 25 rfl w.heap.size 40 i0 (.agg #[.int .i64 0, .int .i64 0, .int .i64 0]) 3 24 Tryz.underlying25 hi0 hz0 hz1 hz2 rfl (by decide) (.slice (some ⟨G, 0, none⟩) D.length M) D.length (flatT D) (by simp [Act.eval, Act.put]) ((unhide HOd).row.alloc _) ⟨w5.heap.size, 0, none⟩ 1 1 [.int .i64 (x : Int), .int .i64 (y : Int), .int .i64 (z : Int)] (by simp [Act.eval, Act.put]) rfl (new_cellT _ _ _ _) (fun u hu => by simp at hu; rcases hu with rfl | rfl | rfl <;> rfl) (by unfold maxLen; omega) (by omega) (by simp; omega) (fun v6 w6 own6 gr6 => ?_); have R6 := hide (RwT.snoc (t := ((x : Int), (y : Int), (z : Int))) own6); have HB6 := hide (owns_belowR (unhide HBd) SZd (unhide HOd).row gr6); clear own6 gr6))
      all_goals go_wp2
      all_goals go_ret
      all_goals exact ⟨_, rfl, unhide HB6, by rw [← unhide ET]; exact unhide R6⟩
end Go.Proofs.YtomekmhonfofkaaGreat
namespace Go.Proofs.YtomekmhonfofkaaGreat
open Go.RowKit Go.ChangeMaps
set_option linter.unusedVariables false
set_option maxRecDepth 100000
set_option linter.unusedSimpArgs false

end Go.Proofs.YtomekmhonfofkaaGreat
namespace Go.Proofs.YtomekmhonfofkaaGreat
open Go.RowKit Go.ChangeMaps
set_option linter.unusedVariables false
set_option maxRecDepth 100000
set_option linter.unusedSimpArgs false

/-- The numbers of those with a colour. -/
def idxs (C : List Int) (c : Int) : List Nat := (List.range C.length).filter (fun k => C.getD k 0 == c)
def cntU (C : List Int) (c : Int) (m : Nat) : Nat := ((List.range m).filter (fun k => C.getD k 0 == c)).length
theorem cntU_succ (C : List Int) (c : Int) (m : Nat) : cntU C c (m + 1) = cntU C c m + (if C.getD m 0 = c then 1 else 0) := by
  unfold cntU
  rw [List.range_succ, List.filter_append, List.length_append]
  by_cases h : C.getD m 0 = c
  · have hb : (C.getD m 0 == c) = true := by rw [h]; exact beq_self_eq_true c
    rw [if_pos h, List.filter_cons_of_pos (p := fun k => C.getD k 0 == c) hb]; rfl
  · have hb : ¬ ((C.getD m 0 == c) = true) := by rw [beq_iff_eq]; exact h
    rw [if_neg h, List.filter_cons_of_neg (p := fun k => C.getD k 0 == c) hb]; rfl
theorem cntU_le (C : List Int) (c : Int) (m : Nat) : cntU C c m ≤ m := by
  unfold cntU
  exact Nat.le_trans (List.length_filter_le _ _) (by simp)
/-- The rarest colour, the least where as few have two. -/
def rarV (C : List Int) : Int :=
  let r := if cntU C 1 C.length < cntU C 0 C.length then (1 : Int) else 0
  if cntU C 2 C.length < cntU C r C.length then 2 else r
/-- Three counters in a block. -/
structure Ct3 (w : World) (M : Nat) (T : TypeId) (a b c : Int) : Prop where
  blk : w.heap[M]? = some (.cells #[.int .i64 a, .int .i64 b, .int .i64 c] T (0, 0))
theorem Ct3.cell {w : World} {M : Nat} {T : TypeId} {a b c : Int} (h : Ct3 w M T a b c) : w.cell? ⟨M, 0, none⟩ = some (.int .i64 a) ∧ w.cell? ⟨M, 1, none⟩ = some (.int .i64 b) ∧ w.cell? ⟨M, 2, none⟩ = some (.int .i64 c) := by
  simp [World.cell?, h.blk]
theorem Ct3.fz {w : World} {M : Nat} {T : TypeId} {a b c : Int} (h : Ct3 w M T a b c) (o : Nat) : w.frozen? ⟨M, o, none⟩ = false := by simp [World.frozen?, h.blk]
theorem Ct3.set0 {w : World} {M : Nat} {T : TypeId} {a b c : Int} (h : Ct3 w M T a b c) (x : Int) : Ct3 (w.setCell ⟨M, 0, none⟩ (.int .i64 x)) M T x b c := ⟨by simp [World.setCell, Array.getElem?_modify, h.blk]⟩
theorem Ct3.set1 {w : World} {M : Nat} {T : TypeId} {a b c : Int} (h : Ct3 w M T a b c) (x : Int) : Ct3 (w.setCell ⟨M, 1, none⟩ (.int .i64 x)) M T a x c := ⟨by simp [World.setCell, Array.getElem?_modify, h.blk]⟩
theorem Ct3.set2 {w : World} {M : Nat} {T : TypeId} {a b c : Int} (h : Ct3 w M T a b c) (x : Int) : Ct3 (w.setCell ⟨M, 2, none⟩ (.int .i64 x)) M T a b x := ⟨by simp [World.setCell, Array.getElem?_modify, h.blk]⟩
theorem Ct3.new (w : World) (T : TypeId) (a b c : Int) : Ct3 (w.alloc (.cells #[.int .i64 a, .int .i64 b, .int .i64 c] T)) w.heap.size T a b c := ⟨by show (w.heap.push _)[w.heap.size]? = _; simp⟩
theorem Ct3.drew {w : World} {M : Nat} {T : TypeId} {a b c : Int} (h : Ct3 w M T a b c) : Ct3 w.drew M T a b c := ⟨h.blk⟩
/-- The guards of a good simple way: the corners of the rarest colour. -/
noncomputable def guC (l : List (Int × Int)) : List Int := clV (cutL l (sgZ (arS l l.length)) (l.length - 3) (List.range l.length)) l.length
noncomputable def guV (l : List (Int × Int)) : List Int := if ipB l then cI (idxs (guC l) (rarV (guC l))) else []
theorem guC_is {l : List (Int × Int)} {n : Nat} (hn : l.length = n) (h3 : 3 ≤ n) (t : Int) : ∀ k, k < n → Is3 ((clV (cutL l t (n - 3) (List.range n)) n).getD k 0) := fun k hk =>
  (col_ok (l := l) (t := t) (n := n) (n - 3) (List.range n) (by simp; omega) (fun x hx => List.mem_range.1 hx) List.pairwise_lt_range).1.is k (List.mem_range.2 hk)
end Go.Proofs.YtomekmhonfofkaaGreat
namespace Go.Proofs.YtomekmhonfofkaaGreat
open Go.RowKit
set_option linter.unusedVariables false
set_option maxRecDepth 100000
set_option linter.unusedSimpArgs false

theorem Ct3.but {w w' : World} {M lo hi : Nat} {T : TypeId} {a b c : Int} (h : Ct3 w M T a b c) (hb : But lo hi w w') (hM : M < lo ∨ hi ≤ M) : Ct3 w' M T a b c := ⟨by rw [hb.block M (Array.getElem?_eq_some_iff.1 h.blk).1 hM]; exact h.blk⟩
theorem Ct3.later {w w' : World} {M : Nat} {T : TypeId} {a b c : Int} (h : Ct3 w M T a b c) (hb : Below w.heap.size w w') : Ct3 w' M T a b c := h.but (But.of_below (lo := 0) (hi := 0) hb) (.inr (Nat.zero_le _))
theorem but_three {w : World} {G : Nat} {x y z : Value} : But G (G + 1) w (((w.setCell ⟨G, 0, none⟩ x).setCell ⟨G, 1, none⟩ y).setCell ⟨G, 2, none⟩ z) := (((But.refl _ _ _).set (p := ⟨G, 0, none⟩) (Nat.le_refl G) (Nat.lt_succ_self G) x).set (p := ⟨G, 1, none⟩) (Nat.le_refl G) (Nat.lt_succ_self G) y).set (p := ⟨G, 2, none⟩) (Nat.le_refl G) (Nat.lt_succ_self G) z
def OutSe (w : World) (e : Ending) (w' : World) : Prop := ∃ (a : Option Addr) (n c : Nat) (l : List (Int × Int)) (g : Int) (t : Int × Int × Int), e = .returned (.tuple #[.slice a n c, .int .i64 g, .agg #[.int .i64 t.1, .int .i64 t.2.1, .int .i64 t.2.2]]) ∧ ArP w' a n c l ∧ n ≤ 20 ∧ Below w.heap.size w w'
set_option maxHeartbeats 2000000 in
theorem sameI11 (a a' : Option Addr) (n c c' : Nat) (L : List Int) (w : World) (h : Sl w a L) (h' : Sl w a' L) (hn : L.length = n) (hm : n ≤ 1048576) :
    Calls Tryz.prog 10 #[.slice a n c, .slice a' n c'] w fun e w' => e = .returned (.bool true) ∧ Below w.heap.size w w' := by
  have HS := hide h
  have HS' := hide h'
  have HN := hide hn
  clear h h' hn
  go_enter Tryz.func10, Tryz.ntmps10
  go_wp2_with fail
  go_loopw [13] (fun iv wr => ∃ i : Nat, i ≤ n ∧ iv = .int .i64 i ∧ Hid (Below w.heap.size w wr)) (fun iv _ => n - (intOf iv).toNat)
  case atStart => exact ⟨0, Nat.zero_le _, rfl, hide (Below.refl _ _)⟩
  case round =>
    obtain ⟨i, hi, rfl, HB⟩ := hrel
    by_cases hlt : i < n
    · have hlt' : (i : Int) < (n : Int) := by omega
      have k : ∃ b off, a = some ⟨b, off, none⟩ ∧ wr.cell? ⟨b, off + i, none⟩ = some (.int .i64 (L.getD i 0)) := by
        rcases unhide HS with e | ⟨b, off, e, hb, hc⟩
        · have := unhide HN; rw [e] at this; simp at this; omega
        · exact ⟨b, off, e, ((unhide HB).cell (p := ⟨b, off + i, none⟩) hb).trans (hc i (by rw [unhide HN]; exact hlt))⟩
      have k' : ∃ b off, a' = some ⟨b, off, none⟩ ∧ wr.cell? ⟨b, off + i, none⟩ = some (.int .i64 (L.getD i 0)) := by
        rcases unhide HS' with e | ⟨b, off, e, hb, hc⟩
        · have := unhide HN; rw [e] at this; simp at this; omega
        · exact ⟨b, off, e, ((unhide HB).cell (p := ⟨b, off + i, none⟩) hb).trans (hc i (by rw [unhide HN]; exact hlt))⟩
      obtain ⟨b1, o1, rfl, E1⟩ := k
      obtain ⟨b2, o2, rfl, E2⟩ := k'
      generalize L.getD i 0 = v at *
      have ev : (v != v) = false := by simp
      clear HS HS'
      go_upto_region 6 with fail
      go_quiet (fail)
      go_wp2_with fail
      go_roundw
      case rel => exact ⟨i + 1, by omega, by go_num, hide (below_drewN (unhide HB) _)⟩
      case measure => simp [intOf]; omega
    · obtain rfl : i = n := by omega
      go_wp2_with fail
      go_ret
      exact ⟨rfl, unhide HB⟩
end Go.Proofs.YtomekmhonfofkaaGreat
namespace Go.Proofs.YtomekmhonfofkaaGreat
open Go.RowKit Go.ChangeMaps
set_option linter.unusedVariables false
set_option maxRecDepth 100000
set_option linter.unusedSimpArgs false

/-- The triangles of a good simple way. -/
noncomputable def trV (l : List (Int × Int)) : List (Int × Int × Int) := if ipB l then cutL l (sgZ (arS l l.length)) (l.length - 3) (List.range l.length) else []
set_option maxHeartbeats 4000000 in
theorem TriangulateS (a : Option Addr) (n c : Nat) (l : List (Int × Int)) (w : World) (h : ArP w a n c l) (h1 : n ≤ 1048576) :
    Calls Tryz.prog 6 #[.slice a n c] w fun e w' => ∃ a' n' c', e = .returned (.tuple #[.slice a' n' c', .bool (ipB l)]) ∧ Below w.heap.size w w' ∧ RtT w.heap.size w' a' n' c' (trV l) ∧ n' ≤ 1048576 := by
  have hn := h.len
  have CG := hide (fun w (k : SlP w a l) => gswS a n c l w k hn h1)
  have HS := hide h.sl
  cases hp : ipB l
  · rw [hp] at CG
    have EV : trV l = [] := by unfold trV; rw [hp]; rfl
    rw [EV]
    clear hp h hn EV
    go_enter Tryz.func6, Tryz.ntmps6
    go_wp2_with fail
    refine (unhide CG _ (unhide HS)).mono ?_
    rintro e w1 ⟨rfl, hb⟩
    go_wp2_with fail
    go_ret2
    exact ⟨none, 0, 0, rfl, hb, ⟨rfl, .inl rfl⟩, by omega⟩
  · rw [hp] at CG
    have wp := way_parts (ip_parts hp).1
    have CC := hide (fun w (k : SlP w a l) => cutS a n c l w k hn (by omega) (by omega) wp.2)
    have EV : trV l = cutL l (sgZ (arS l l.length)) (n - 3) (List.range n) := by unfold trV; rw [hp, hn]; rfl
    have TL : (cutL l (sgZ (arS l l.length)) (n - 3) (List.range n)).length ≤ n := by rw [cutL_len]; omega
    rw [EV]
    generalize cutL l (sgZ (arS l l.length)) (n - 3) (List.range n) = T at *
    clear hp h hn wp EV
    go_enter Tryz.func6, Tryz.ntmps6
    go_wp2_with fail
    refine (unhide CG _ (unhide HS)).mono ?_
    rintro e w1 ⟨rfl, hb⟩
    replace HS := hide ((unhide HS).later hb)
    have HB := hide hb
    clear hb
    go_wp2_with fail
    refine (unhide CC _ (unhide HS)).mono ?_
    rintro e w2 ⟨v, rfl, hb, rt⟩
    obtain ⟨a', c', rfl, r2⟩ := (rt.mono (unhide HB).size).rt
    have R2 := hide r2
    replace HB := hide (below_on (unhide HB) hb)
    clear hb rt r2
    go_wp2_with fail
    go_ret2
    exact ⟨a', _, c', rfl, unhide HB, unhide R2, by omega⟩
set_option maxHeartbeats 4000000 in
theorem TriangulateI (a : Option Addr) (n c : Nat) (l : List (Int × Int)) (w : World) (h : ArP w a n c l) (h1 : n ≤ 1048576) :
    Calls Tryz.prog 5 #[.slice a n c] w fun e w' => ∃ a' n' c', e = .returned (.tuple #[.slice a' n' c', .bool (ipB l)]) ∧ Below w.heap.size w w' ∧ RtT w.heap.size w' a' n' c' (trV l) ∧ n' ≤ 1048576 := by
  have hn := h.len
  have CG := hide (fun w (k : SlP w a l) => gswI a n c l w k hn h1)
  have HS := hide h.sl
  cases hp : ipB l
  · rw [hp] at CG
    have EV : trV l = [] := by unfold trV; rw [hp]; rfl
    rw [EV]
    clear hp h hn EV
    go_enter Tryz.func5, Tryz.ntmps5
    go_wp2_with fail
    refine (unhide CG _ (unhide HS)).mono ?_
    rintro e w1 ⟨rfl, hb⟩
    go_wp2_with fail
    go_ret2
    exact ⟨none, 0, 0, rfl, hb, ⟨rfl, .inl rfl⟩, by omega⟩
  · rw [hp] at CG
    have wp := way_parts (ip_parts hp).1
    have CC := hide (fun w (k : SlP w a l) => cutI a n c l w k hn hp)
    have EV : trV l = cutL l (sgZ (arS l l.length)) (n - 3) (List.range n) := by unfold trV; rw [hp, hn]; rfl
    have TL : (cutL l (sgZ (arS l l.length)) (n - 3) (List.range n)).length ≤ n := by rw [cutL_len]; omega
    rw [EV]
    generalize cutL l (sgZ (arS l l.length)) (n - 3) (List.range n) = T at *
    clear hp h hn wp EV
    go_enter Tryz.func5, Tryz.ntmps5
    go_wp2_with fail
    refine (unhide CG _ (unhide HS)).mono ?_
    rintro e w1 ⟨rfl, hb⟩
    replace HS := hide ((unhide HS).later hb)
    have HB := hide hb
    clear hb
    go_wp2_with fail
    refine (unhide CC _ (unhide HS)).mono ?_
    rintro e w2 ⟨v, rfl, hb, rt⟩
    obtain ⟨a', c', rfl, r2⟩ := (rt.mono (unhide HB).size).rt
    have R2 := hide r2
    replace HB := hide (below_on (unhide HB) hb)
    clear hb rt r2
    go_wp2_with fail
    go_ret2
    exact ⟨a', _, c', rfl, unhide HB, unhide R2, by omega⟩
end Go.Proofs.YtomekmhonfofkaaGreat
namespace Go.Proofs.YtomekmhonfofkaaGreat
open Go.RowKit
set_option linter.unusedVariables false
set_option maxRecDepth 100000
set_option linter.unusedSimpArgs false

def pAt (l : List (Int × Int)) (k : Int) : Int × Int := l.getD k.toNat (0, 0)
def tcr (l : List (Int × Int)) (x : Int × Int × Int) : Int := crs (pAt l x.1) (pAt l x.2.1) (pAt l x.2.2)
def tgB (l : List (Int × Int)) (x : Int × Int × Int) : Bool := trB l.length x && (sgZ (tcr l x) == sgZ (arS l l.length))
def tsum (l : List (Int × Int)) : List (Int × Int × Int) → Int
  | [] => 0
  | x :: T => tcr l x + tsum l T
noncomputable def itgV (l : List (Int × Int)) (T : List (Int × Int × Int)) : Bool := ipB l && (decide (T.length + 2 = l.length) && (T.all (tgB l) && (tsum l T == arS l l.length)))
theorem tsum_app (l : List (Int × Int)) : ∀ T U, tsum l (T ++ U) = tsum l T + tsum l U
  | [], U => by simp [tsum]
  | x :: T, U => by
    have := tsum_app l T U
    show tcr l x + tsum l (T ++ U) = tcr l x + tsum l T + tsum l U
    omega
theorem cn_nat {n : Nat} {k : Int} (h : cnB n k = true) : ∃ q : Nat, k = q ∧ q < n := by
  unfold cnB at h
  have := (Bool.and_eq_true _ _).mp h
  have h1 := of_decide_eq_true this.1
  have h2 := of_decide_eq_true this.2
  exact ⟨k.toNat, by omega, by omega⟩
theorem tr_nat {n : Nat} {x : Int × Int × Int} (h : trB n x = true) : ∃ p q r : Nat, x = ((p : Int), (q : Int), (r : Int)) ∧ p < n ∧ q < n ∧ r < n := by
  unfold trB at h
  simp only [Bool.and_eq_true] at h
  obtain ⟨p, hp, p'⟩ := cn_nat h.1.1
  obtain ⟨q, hq, q'⟩ := cn_nat h.1.2
  obtain ⟨r, hr, r'⟩ := cn_nat h.2
  obtain ⟨x1, x2, x3⟩ := x
  simp only at hp hq hr
  subst hp hq hr
  exact ⟨p, q, r, rfl, p', q', r'⟩
theorem tcr_nat (l : List (Int × Int)) (p q r : Nat) : tcr l ((p : Int), (q : Int), (r : Int)) = crs (l.getD p (0, 0)) (l.getD q (0, 0)) (l.getD r (0, 0)) := rfl
theorem tsum_bd {l : List (Int × Int)} (hg : ∀ p ∈ l, Near p) : ∀ T : List (Int × Int × Int), (∀ x ∈ T, tgB l x = true) → -((T.length : Int) * 80000000000) ≤ tsum l T ∧ tsum l T ≤ (T.length : Int) * 80000000000
  | [], _ => by simp [tsum]
  | x :: T, h => by
    have k := tsum_bd hg T (fun y hy => h y (List.mem_cons_of_mem _ hy))
    have hx := h x (List.mem_cons_self ..)
    unfold tgB at hx
    obtain ⟨p, q, r, rfl, h1, h2, h3⟩ := tr_nat ((Bool.and_eq_true _ _).mp hx).1
    have b := crs_bd (near_at hg h1) (near_at hg h2) (near_at hg h3)
    rw [← tcr_nat] at b
    show -(((T.length + 1 : Nat) : Int) * 80000000000) ≤ tcr l _ + tsum l T ∧ tcr l _ + tsum l T ≤ ((T.length + 1 : Nat) : Int) * 80000000000
    omega
theorem ipB_way {l : List (Int × Int)} (h : ipB l = true) : (3 ≤ l.length ∧ l.length ≤ 12) ∧ ∀ p ∈ l, Near p := way_parts (ip_parts h).1
theorem takeT {T : List (Int × Int × Int)} {i : Nat} (h : i < T.length) : T.take (i + 1) = T.take i ++ [T[i]] := (List.take_append_getElem h).symm
set_option maxHeartbeats 8000000 in
theorem IsTriangulationS (a : Option Addr) (n c : Nat) (l : List (Int × Int)) (b : Option Addr) (m d : Nat) (T : List (Int × Int × Int)) (w : World) (h : ArP w a n c l) (h' : ArT w b m d T) (h1 : n ≤ 1048576) (h2 : m ≤ 1048576) :
    Calls Tryz.prog 16 #[.slice a n c, .slice b m d] w fun e w' => e = .returned (.tuple #[.bool (itgV l T), .bool (ipB l)]) ∧ Below w.heap.size w w' := by
  have hn := h.len
  have hm := h'.len
  have CG := hide (fun w (k : SlP w a l) => gswS a n c l w k hn h1)
  have HS := hide h.sl
  cases hp : ipB l
  · rw [hp] at CG
    have EV : itgV l T = false := by unfold itgV; rw [hp]; rfl
    rw [EV]
    clear hp h h' hn hm EV
    go_enter Tryz.func16, Tryz.ntmps16
    go_wp2_with fail
    refine (unhide CG _ (unhide HS)).mono ?_
    rintro e w1 ⟨rfl, hb⟩
    go_wp2_with fail
    go_ret2
    exact ⟨rfl, hb⟩
  · rw [hp] at CG
    have wp := ipB_way hp
    have n12 : n ≤ 12 := by omega
    have n3 : 3 ≤ n := by omega
    have ws : IntKind.i64.wrap ((n : Int) - 2) = (n : Int) - 2 := by rw [IntKind.wrap_i64]; omega
    by_cases hk : m + 2 = n
    rotate_left
    · have EV : itgV l T = false := by unfold itgV; rw [hp, hm, hn, decide_eq_false hk]; rfl
      rw [EV]
      have dd : ((m : Int) != (n : Int) - 2) = true := by simp; omega
      clear hp h h' hn hm EV wp hk n12 n3
      go_enter Tryz.func16, Tryz.ntmps16
      go_wp2_with fail
      refine (unhide CG _ (unhide HS)).mono ?_
      rintro e w1 ⟨rfl, hb⟩
      go_wp2_with fail
      go_ret2
      exact ⟨rfl, hb⟩
    · have EV : Hid (itgV l T = (T.all (tgB l) && (tsum l T == arS l l.length))) := hide (by unfold itgV; rw [hp, hm, hn, decide_eq_true hk]; rfl)
      have dd : ((m : Int) != (n : Int) - 2) = false := by simp; omega
      have CA := hide (fun w (k : SlP w a l) => areaS a n c l w k hn n12 wp.2)
      have SL := h.sl
      rcases SL with e | ⟨q, off, rfl, hq, hc⟩
      · subst e; simp at hn; omega
      have HC : Hid (∀ k, k < n → w.cell? ⟨q, off + k * 2, none⟩ = some (.int .i64 (l.getD k (0, 0)).1) ∧ w.cell? ⟨q, off + k * 2 + 1, none⟩ = some (.int .i64 (l.getD k (0, 0)).2)) := hide (fun k hk => by
        have := hc k (by omega)
        rw [List.getD_eq_getElem?_getD, List.getElem?_eq_getElem (by omega)]
        exact this)
      have ST := h'.sl
      rcases ST with e | ⟨r, of2, rfl, hr, hd⟩
      · subst e; simp at hm; omega
      have HD : Hid (∀ k (hk : k < T.length), w.cell? ⟨r, of2 + k * 3, none⟩ = some (.int .i64 T[k].1) ∧ w.cell? ⟨r, of2 + k * 3 + 1, none⟩ = some (.int .i64 T[k].2.1) ∧ w.cell? ⟨r, of2 + k * 3 + 2, none⟩ = some (.int .i64 T[k].2.2)) := hide hd
      have HG := hide wp.2
      have HN := hide hn
      have HM := hide hm
      have HK := hide hk
      have m10 : m ≤ 10 := by omega
      have C0 := hide (fun w x => triOfS (some ⟨q, off, none⟩) n c x w)
      have CO := hide (fun (x y z : Int × Int) w (hx : Near x) (hy : Near y) (hz : Near z) => orientS8 x y z w hx hy hz)
      have CX := hide (fun (x y z : Int × Int) w (hx : Near x) (hy : Near y) (hz : Near z) => crossS x y z w hx hy hz)
      have TB := hide (fun x => (by unfold tgB; rw [hn] : tgB l x = (trB n x && (sgZ (tcr l x) == sgZ (arS l l.length)))))
      have NO := hide (fun (x : Int × Int × Int) (hx : x ∈ T) (k : tgB l x = false) => (by rw [unhide EV]; rw [show T.all (tgB l) = false from List.all_eq_false.2 ⟨x, hx, by rw [k]; decide⟩]; rfl : itgV l T = false))
      have YES := hide (fun (k : ∀ x ∈ T, tgB l x = true) => (by rw [unhide EV, List.all_eq_true.2 k]; rfl : itgV l T = (tsum l T == arS l l.length)))
      clear hp h h' hn hm wp hk hc hd EV h1 h2
      generalize arS l l.length = A at *
      generalize itgV l T = V at *
      go_enter Tryz.func16, Tryz.ntmps16
      go_wp2_with fail
      refine (unhide CG _ (unhide HS)).mono ?_
      rintro e w1 ⟨rfl, hb⟩
      have HB := hide hb
      clear hb CG
      go_wp2_with fail
      go_loopw [6, 20] (fun sv iv wr => ∃ i : Nat, i ≤ m ∧ iv = .int .i64 i ∧ sv = .int .i64 (tsum l (T.take i)) ∧ Hid (∀ x ∈ T.take i, tgB l x = true) ∧ Hid (Below w.heap.size w wr)) (fun _ iv _ => m - (intOf iv).toNat)
      case atStart => exact ⟨0, Nat.zero_le _, rfl, rfl, hide (by simp), HB⟩
      case round =>
        clear HB
        obtain ⟨i, hi, rfl, rfl, HT, HB⟩ := hrel
        by_cases hlt : i < m
        · have hlt' : (i : Int) < (m : Int) := by omega
          have iT : i < T.length := by rw [unhide HM]; exact hlt
          have hx := unhide HD i iT
          have bs := tsum_bd (unhide HG) _ (unhide HT)
          have bl : (T.take i).length ≤ 10 := by rw [List.length_take]; have := unhide HK; omega
          have NOi := hide (unhide NO T[i] (List.getElem_mem iT))
          have TBi := hide (unhide TB T[i])
          have ES := hide (by rw [takeT iT, tsum_app]; simp [tsum] : tsum l (T.take (i + 1)) = tsum l (T.take i) + tcr l T[i])
          have HTn : Hid (tgB l T[i] = true → ∀ x ∈ T.take (i + 1), tgB l x = true) := hide (fun k x hx => by
            rw [takeT iT, List.mem_append] at hx
            rcases hx with hx | hx
            · exact unhide HT x hx
            · simp at hx; subst hx; exact k)
          generalize tsum l (T.take i) = s0 at *
          generalize (T.take i).length = bi at *
          generalize T[i] = x at *
          have D0 : wr.cell? ⟨r, of2 + i * 3, none⟩ = some (.int .i64 x.1) := ((unhide HB).cell (p := ⟨r, of2 + i * 3, none⟩) hr).trans hx.1
          have D1 : wr.cell? ⟨r, of2 + i * 3 + 1, none⟩ = some (.int .i64 x.2.1) := ((unhide HB).cell (p := ⟨r, of2 + i * 3 + 1, none⟩) hr).trans hx.2.1
          have D2 : wr.cell? ⟨r, of2 + i * 3 + 2, none⟩ = some (.int .i64 x.2.2) := ((unhide HB).cell (p := ⟨r, of2 + i * 3 + 2, none⟩) hr).trans hx.2.2
          clear hx HT NO YES TB HD
          cases ht : trB n x
          · have NV := unhide NOi (by rw [unhide TBi, ht]; rfl)
            subst NV
            have C0x := hide (fun w => unhide C0 w x)
            rw [ht] at C0x
            clear NOi TBi ES HTn bs bl HC HG C0 CO CX CA
            have bx := (Below.refl wr.heap.size wr).alloc (Nat.le_refl _) (.cells #[.int .i64 x.1, .int .i64 x.2.1, .int .i64 x.2.2] 40)
            replace HB := hide (below_on (unhide HB) bx)
            have X0 : (wr.alloc (.cells #[.int .i64 x.1, .int .i64 x.2.1, .int .i64 x.2.2] 40)).cell? ⟨wr.heap.size, 0, none⟩ = some (.int .i64 x.1) := by simp [go_sem]
            have X1 : (wr.alloc (.cells #[.int .i64 x.1, .int .i64 x.2.1, .int .i64 x.2.2] 40)).cell? ⟨wr.heap.size, 1, none⟩ = some (.int .i64 x.2.1) := by simp [go_sem]
            have X2 : (wr.alloc (.cells #[.int .i64 x.1, .int .i64 x.2.1, .int .i64 x.2.2] 40)).cell? ⟨wr.heap.size, 2, none⟩ = some (.int .i64 x.2.2) := by simp [go_sem]
            go_upto_region 9 with fail
            generalize wr.alloc (.cells #[.int .i64 x.1, .int .i64 x.2.1, .int .i64 x.2.2] 40) = wb at *
            clear D0 D1 D2 bx
            generalize wr.heap.size = PX at *
            refine wp_region_held_drew (S := fun w' => w'.cell? ⟨PX, 0, none⟩ = some (.int .i64 x.1) ∧ w'.cell? ⟨PX, 1, none⟩ = some (.int .i64 x.2.1) ∧ w'.cell? ⟨PX, 2, none⟩ = some (.int .i64 x.2.2)) (by kernel_rfl) ⟨X0, X1, X2⟩ (fun hHeld => ?_)
            simp only [List.size_toArray, List.length_cons, List.length_nil, Nat.reduceAdd, Array.replicate_succ, Array.replicate_zero, List.push_toArray, List.nil_append, List.cons_append]
            refine wpAnyH_take (i := 0) (v := .slice (some ⟨q, off, none⟩) n c) rfl (by kernel_rfl) (by kernel_rfl) (by kernel_rfl) (fun _ _ _ h => h) (Or.inl ⟨by rfl, by intro w hSw; (try dsimp only at hSw); go_simp⟩) hHeld ?_
            simp only [List.getElem_toArray, List.getElem_cons_zero, List.getElem_cons_succ, Act.put, List.setIfInBounds_toArray, List.set_cons_zero, List.set_cons_succ]
            refine wpAnyH_take (i := 1) (v := .agg #[.int .i64 x.1, .int .i64 x.2.1, .int .i64 x.2.2]) rfl (by kernel_rfl) (by kernel_rfl) (by kernel_rfl) (fun _ _ _ h => h) (Or.inl ⟨by rfl, by intro w hSw; (try dsimp only at hSw); go_simp⟩) hHeld ?_
            simp only [List.getElem_toArray, List.getElem_cons_zero, List.getElem_cons_succ, Act.put, List.setIfInBounds_toArray, List.set_cons_zero, List.set_cons_succ]
            refine wpAnyH_ready (rs := [2]) (by kernel_rfl) (by simp) (AllReadyH.cons rfl (fun K hK => ?_) AllReadyH.nil)
            go_simp
            refine (unhide C0x _).mono ?_
            rintro e w2 ⟨rfl, hb1⟩
            have hbx := below_of_drew hb1
            replace X0 := cell_later hbx X0
            replace X1 := cell_later hbx X1
            replace X2 := cell_later hbx X2
            replace HB := hide (below_on (unhide HB) hbx)
            refine hK.out _ _ ⟨X0, X1, X2⟩ (fun hHeld2 => ?_)
            clear hK K hb1 hbx hHeld
            have hHeld := hHeld2
            clear hHeld2
            simp only [Act.put, List.setIfInBounds_toArray, List.set_cons_zero, List.set_cons_succ]
            refine wpAnyH_take (i := 3) (v := .bool true) rfl (by kernel_rfl) (by kernel_rfl) (by kernel_rfl) (fun _ _ _ h => h) (Or.inl ⟨by rfl, by intro w hSw; (try dsimp only at hSw); go_simp⟩) hHeld ?_
            simp only [List.getElem_toArray, List.getElem_cons_zero, List.getElem_cons_succ, Act.put, List.setIfInBounds_toArray, List.set_cons_zero, List.set_cons_succ]
            refine wpAnyH_take (i := 4) (v := .bool true) rfl (by kernel_rfl) (by kernel_rfl) (by kernel_rfl) (fun _ _ _ h => h) (Or.inl ⟨by rfl, by intro w hSw; (try dsimp only at hSw); go_simp⟩) hHeld ?_
            simp only [List.getElem_toArray, List.getElem_cons_zero, List.getElem_cons_succ, Act.put, List.setIfInBounds_toArray, List.set_cons_zero, List.set_cons_succ]
            refine wpAnyH_take (i := 5) (v := undef) rfl (by kernel_rfl) (by kernel_rfl) (by kernel_rfl) (fun _ _ _ h => h) (Or.inr ⟨by kernel_rfl, rfl⟩) hHeld ?_
            simp only [List.getElem_toArray, List.getElem_cons_zero, List.getElem_cons_succ, Act.put, List.setIfInBounds_toArray, List.set_cons_zero, List.set_cons_succ]
            refine wpAnyH_take (i := 6) (v := undef) rfl (by kernel_rfl) (by kernel_rfl) (by kernel_rfl) (fun _ _ _ h => h) (Or.inr ⟨by kernel_rfl, rfl⟩) hHeld ?_
            simp only [List.getElem_toArray, List.getElem_cons_zero, List.getElem_cons_succ, Act.put, List.setIfInBounds_toArray, List.set_cons_zero, List.set_cons_succ]
            refine wpAnyH_take (i := 7) (v := undef) rfl (by kernel_rfl) (by kernel_rfl) (by kernel_rfl) (fun _ _ _ h => h) (Or.inr ⟨by kernel_rfl, rfl⟩) hHeld ?_
            simp only [List.getElem_toArray, List.getElem_cons_zero, List.getElem_cons_succ, Act.put, List.setIfInBounds_toArray, List.set_cons_zero, List.set_cons_succ]
            refine wpAnyH_take (i := 8) (v := undef) rfl (by kernel_rfl) (by kernel_rfl) (by kernel_rfl) (fun _ _ _ h => h) (Or.inr ⟨by kernel_rfl, rfl⟩) hHeld ?_
            simp only [List.getElem_toArray, List.getElem_cons_zero, List.getElem_cons_succ, Act.put, List.setIfInBounds_toArray, List.set_cons_zero, List.set_cons_succ]
            refine wpAnyH_take (i := 9) (v := undef) rfl (by kernel_rfl) (by kernel_rfl) (by kernel_rfl) (fun _ _ _ h => h) (Or.inr ⟨by kernel_rfl, rfl⟩) hHeld ?_
            simp only [List.getElem_toArray, List.getElem_cons_zero, List.getElem_cons_succ, Act.put, List.setIfInBounds_toArray, List.set_cons_zero, List.set_cons_succ]
            refine wpAnyH_take (i := 10) (v := undef) rfl (by kernel_rfl) (by kernel_rfl) (by kernel_rfl) (fun _ _ _ h => h) (Or.inr ⟨by kernel_rfl, rfl⟩) hHeld ?_
            simp only [List.getElem_toArray, List.getElem_cons_zero, List.getElem_cons_succ, Act.put, List.setIfInBounds_toArray, List.set_cons_zero, List.set_cons_succ]
            refine wpAnyH_take (i := 11) (v := undef) rfl (by kernel_rfl) (by kernel_rfl) (by kernel_rfl) (fun _ _ _ h => h) (Or.inr ⟨by kernel_rfl, rfl⟩) hHeld ?_
            simp only [List.getElem_toArray, List.getElem_cons_zero, List.getElem_cons_succ, Act.put, List.setIfInBounds_toArray, List.set_cons_zero, List.set_cons_succ]
            refine wpAnyH_take (i := 12) (v := undef) rfl (by kernel_rfl) (by kernel_rfl) (by kernel_rfl) (fun _ _ _ h => h) (Or.inr ⟨by kernel_rfl, rfl⟩) hHeld ?_
            simp only [List.getElem_toArray, List.getElem_cons_zero, List.getElem_cons_succ, Act.put, List.setIfInBounds_toArray, List.set_cons_zero, List.set_cons_succ]
            refine wpAnyH_take (i := 13) (v := undef) rfl (by kernel_rfl) (by kernel_rfl) (by kernel_rfl) (fun _ _ _ h => h) (Or.inr ⟨by kernel_rfl, rfl⟩) hHeld ?_
            simp only [List.getElem_toArray, List.getElem_cons_zero, List.getElem_cons_succ, Act.put, List.setIfInBounds_toArray, List.set_cons_zero, List.set_cons_succ]
            refine wpAnyH_take (i := 14) (v := undef) rfl (by kernel_rfl) (by kernel_rfl) (by kernel_rfl) (fun _ _ _ h => h) (Or.inr ⟨by kernel_rfl, rfl⟩) hHeld ?_
            simp only [List.getElem_toArray, List.getElem_cons_zero, List.getElem_cons_succ, Act.put, List.setIfInBounds_toArray, List.set_cons_zero, List.set_cons_succ]
            refine wpAnyH_take (i := 15) (v := undef) rfl (by kernel_rfl) (by kernel_rfl) (by kernel_rfl) (fun _ _ _ h => h) (Or.inr ⟨by kernel_rfl, rfl⟩) hHeld ?_
            simp only [List.getElem_toArray, List.getElem_cons_zero, List.getElem_cons_succ, Act.put, List.setIfInBounds_toArray, List.set_cons_zero, List.set_cons_succ]
            refine wpAnyH_take (i := 16) (v := undef) rfl (by kernel_rfl) (by kernel_rfl) (by kernel_rfl) (fun _ _ _ h => h) (Or.inr ⟨by kernel_rfl, rfl⟩) hHeld ?_
            simp only [List.getElem_toArray, List.getElem_cons_zero, List.getElem_cons_succ, Act.put, List.setIfInBounds_toArray, List.set_cons_zero, List.set_cons_succ]
            refine wpAnyH_take (i := 17) (v := undef) rfl (by kernel_rfl) (by kernel_rfl) (by kernel_rfl) (fun _ _ _ h => h) (Or.inr ⟨by kernel_rfl, rfl⟩) hHeld ?_
            simp only [List.getElem_toArray, List.getElem_cons_zero, List.getElem_cons_succ, Act.put, List.setIfInBounds_toArray, List.set_cons_zero, List.set_cons_succ]
            refine wpAnyH_take (i := 18) (v := undef) rfl (by kernel_rfl) (by kernel_rfl) (by kernel_rfl) (fun _ _ _ h => h) (Or.inr ⟨by kernel_rfl, rfl⟩) hHeld ?_
            simp only [List.getElem_toArray, List.getElem_cons_zero, List.getElem_cons_succ, Act.put, List.setIfInBounds_toArray, List.set_cons_zero, List.set_cons_succ]
            refine wpAnyH_take (i := 19) (v := undef) rfl (by kernel_rfl) (by kernel_rfl) (by kernel_rfl) (fun _ _ _ h => h) (Or.inr ⟨by kernel_rfl, rfl⟩) hHeld ?_
            simp only [List.getElem_toArray, List.getElem_cons_zero, List.getElem_cons_succ, Act.put, List.setIfInBounds_toArray, List.set_cons_zero, List.set_cons_succ]
            refine wpAnyH_take (i := 20) (v := undef) rfl (by kernel_rfl) (by kernel_rfl) (by kernel_rfl) (fun _ _ _ h => h) (Or.inr ⟨by kernel_rfl, rfl⟩) hHeld ?_
            simp only [List.getElem_toArray, List.getElem_cons_zero, List.getElem_cons_succ, Act.put, List.setIfInBounds_toArray, List.set_cons_zero, List.set_cons_succ]
            refine wpAnyH_take (i := 21) (v := undef) rfl (by kernel_rfl) (by kernel_rfl) (by kernel_rfl) (fun _ _ _ h => h) (Or.inr ⟨by kernel_rfl, rfl⟩) hHeld ?_
            simp only [List.getElem_toArray, List.getElem_cons_zero, List.getElem_cons_succ, Act.put, List.setIfInBounds_toArray, List.set_cons_zero, List.set_cons_succ]
            refine wpAnyH_take (i := 22) (v := undef) rfl (by kernel_rfl) (by kernel_rfl) (by kernel_rfl) (fun _ _ _ h => h) (Or.inr ⟨by kernel_rfl, rfl⟩) hHeld ?_
            simp only [List.getElem_toArray, List.getElem_cons_zero, List.getElem_cons_succ, Act.put, List.setIfInBounds_toArray, List.set_cons_zero, List.set_cons_succ]
            refine wpAnyH_take (i := 23) (v := undef) rfl (by kernel_rfl) (by kernel_rfl) (by kernel_rfl) (fun _ _ _ h => h) (Or.inr ⟨by kernel_rfl, rfl⟩) hHeld ?_
            simp only [List.getElem_toArray, List.getElem_cons_zero, List.getElem_cons_succ, Act.put, List.setIfInBounds_toArray, List.set_cons_zero, List.set_cons_succ]
            refine wpAnyH_take (i := 24) (v := undef) rfl (by kernel_rfl) (by kernel_rfl) (by kernel_rfl) (fun _ _ _ h => h) (Or.inr ⟨by kernel_rfl, rfl⟩) hHeld ?_
            simp only [List.getElem_toArray, List.getElem_cons_zero, List.getElem_cons_succ, Act.put, List.setIfInBounds_toArray, List.set_cons_zero, List.set_cons_succ]
            refine wpAnyH_take (i := 25) (v := .bool true) rfl (by kernel_rfl) (by kernel_rfl) (by kernel_rfl) (fun _ _ _ h => h) (Or.inl ⟨by rfl, by intro w hSw; (try dsimp only at hSw); go_simp⟩) hHeld ?_
            simp only [List.getElem_toArray, List.getElem_cons_zero, List.getElem_cons_succ, Act.put, List.setIfInBounds_toArray, List.set_cons_zero, List.set_cons_succ]
            refine wpAnyH_done (by kernel_rfl) ?_ _
            clear hHeld
            go_wp2_with fail
            go_ret2
            exact ⟨rfl, unhide HB⟩
          · obtain ⟨ka, kb, kc, rfl, ja, jb, jc⟩ := tr_nat ht
            have NA := near_at (unhide HG) (show ka < l.length by rw [unhide HN]; exact ja)
            have NB := near_at (unhide HG) (show kb < l.length by rw [unhide HN]; exact jb)
            have NC := near_at (unhide HG) (show kc < l.length by rw [unhide HN]; exact jc)
            have cb := crs_bd NA NB NC
            have A_ := unhide HC _ ja
            have B_ := unhide HC _ jb
            have C_ := unhide HC _ jc
            have C0x : Hid (∀ w, Calls Tryz.prog 41 #[.slice (some ⟨q, off, none⟩) n c, .agg #[.int .i64 (ka : Int), .int .i64 (kb : Int), .int .i64 (kc : Int)]] w fun e w' => e = .returned (.bool true) ∧ Below w.heap.size w w') := hide (fun w => by have := unhide C0 w ((ka : Int), (kb : Int), (kc : Int)); rw [ht] at this; exact this)
            have COx := hide (fun w => unhide CO _ _ _ w NA NB NC)
            have CXx := hide (fun w => unhide CX _ _ _ w NA NB NC)
            replace TBi : Hid (tgB l ((ka : Int), (kb : Int), (kc : Int)) = (sgZ (crs (l.getD ka (0, 0)) (l.getD kb (0, 0)) (l.getD kc (0, 0))) == sgZ A)) := hide (by rw [unhide TBi, ht, tcr_nat]; rfl)
            rw [tcr_nat] at ES
            replace ES := hide ES
            generalize l.getD ka (0, 0) = pa at *
            generalize l.getD kb (0, 0) = pb at *
            generalize l.getD kc (0, 0) = pc at *
            generalize sgZ (crs pa pb pc) = s at *
            generalize crs pa pb pc = C at *
            have iw : IntKind.i64.wrap (s0 + C) = s0 + C := by rw [IntKind.wrap_i64]; omega
            dsimp only at D0 D1 D2
            have ja' : (ka : Int) < (n : Int) := by omega
            have jb' : (kb : Int) < (n : Int) := by omega
            have jc' : (kc : Int) < (n : Int) := by omega
            clear cb bs NA NB NC C0 CO CX HG ht
            have A0 : wr.cell? ⟨q, off + ka * 2, none⟩ = some (.int .i64 pa.1) := ((unhide HB).cell (p := ⟨q, off + ka * 2, none⟩) hq).trans A_.1
            have A1 : wr.cell? ⟨q, off + ka * 2 + 1, none⟩ = some (.int .i64 pa.2) := ((unhide HB).cell (p := ⟨q, off + ka * 2 + 1, none⟩) hq).trans A_.2
            have B0 : wr.cell? ⟨q, off + kb * 2, none⟩ = some (.int .i64 pb.1) := ((unhide HB).cell (p := ⟨q, off + kb * 2, none⟩) hq).trans B_.1
            have B1 : wr.cell? ⟨q, off + kb * 2 + 1, none⟩ = some (.int .i64 pb.2) := ((unhide HB).cell (p := ⟨q, off + kb * 2 + 1, none⟩) hq).trans B_.2
            have C0 : wr.cell? ⟨q, off + kc * 2, none⟩ = some (.int .i64 pc.1) := ((unhide HB).cell (p := ⟨q, off + kc * 2, none⟩) hq).trans C_.1
            have C1 : wr.cell? ⟨q, off + kc * 2 + 1, none⟩ = some (.int .i64 pc.2) := ((unhide HB).cell (p := ⟨q, off + kc * 2 + 1, none⟩) hq).trans C_.2
            have HSr := hide ((unhide HS).later (unhide HB))
            clear A_ B_ C_ HC
            have bx := (Below.refl wr.heap.size wr).alloc (Nat.le_refl _) (.cells #[.int .i64 (ka : Int), .int .i64 (kb : Int), .int .i64 (kc : Int)] 40)
            replace HB := hide (below_on (unhide HB) bx)
            have X0 : (wr.alloc (.cells #[.int .i64 (ka : Int), .int .i64 (kb : Int), .int .i64 (kc : Int)] 40)).cell? ⟨wr.heap.size, 0, none⟩ = some (.int .i64 (ka : Int)) := by simp [go_sem]
            have X1 : (wr.alloc (.cells #[.int .i64 (ka : Int), .int .i64 (kb : Int), .int .i64 (kc : Int)] 40)).cell? ⟨wr.heap.size, 1, none⟩ = some (.int .i64 (kb : Int)) := by simp [go_sem]
            have X2 : (wr.alloc (.cells #[.int .i64 (ka : Int), .int .i64 (kb : Int), .int .i64 (kc : Int)] 40)).cell? ⟨wr.heap.size, 2, none⟩ = some (.int .i64 (kc : Int)) := by simp [go_sem]
            replace HSr := hide ((unhide HSr).later bx)
            replace A0 := cell_later bx A0
            replace A1 := cell_later bx A1
            replace B0 := cell_later bx B0
            replace B1 := cell_later bx B1
            replace C0 := cell_later bx C0
            replace C1 := cell_later bx C1
            go_upto_region 9 with fail
            generalize wr.alloc (.cells #[.int .i64 (ka : Int), .int .i64 (kb : Int), .int .i64 (kc : Int)] 40) = wb at *
            clear D0 D1 D2 bx
            generalize wr.heap.size = PX at *
            have HX0 : Hid True := hide trivial
            go_region_held3 (fun w' => w'.cell? ⟨PX, 0, none⟩ = some (.int .i64 (ka : Int)) ∧ w'.cell? ⟨PX, 1, none⟩ = some (.int .i64 (kb : Int)) ∧ w'.cell? ⟨PX, 2, none⟩ = some (.int .i64 (kc : Int)) ∧ w'.cell? ⟨q, off + ka * 2, none⟩ = some (.int .i64 pa.1) ∧ w'.cell? ⟨q, off + ka * 2 + 1, none⟩ = some (.int .i64 pa.2) ∧ w'.cell? ⟨q, off + kb * 2, none⟩ = some (.int .i64 pb.1) ∧ w'.cell? ⟨q, off + kb * 2 + 1, none⟩ = some (.int .i64 pb.2) ∧ w'.cell? ⟨q, off + kc * 2, none⟩ = some (.int .i64 pc.1) ∧ w'.cell? ⟨q, off + kc * 2 + 1, none⟩ = some (.int .i64 pc.2))
              (with_reducible (first | exact ⟨X0, X1, X2, A0, A1, B0, B1, C0, C1⟩ | exact ⟨cdP X0, cdP X1, cdP X2, cdP A0, cdP A1, cdP B0, cdP B1, cdP C0, cdP C1⟩ | fail))
              (first
              | (have chk := HX0; go_at_call 41; refine (unhide C0x _).mono ?_; rintro e w2 ⟨rfl, hb1⟩; have hbx := below_of_drew hb1; replace X0 := cell_later hbx X0; replace X1 := cell_later hbx X1; replace X2 := cell_later hbx X2; replace A0 := cell_later hbx A0; replace A1 := cell_later hbx A1; replace B0 := cell_later hbx B0; replace B1 := cell_later hbx B1; replace C0 := cell_later hbx C0; replace C1 := cell_later hbx C1; replace HSr := hide ((unhide HSr).later hbx); replace HB := hide (below_on (unhide HB) hbx); clear hb1 hbx; clear HX0 chk; have HX1 : Hid True := hide trivial)
              | (have chk := HX1; go_at_call 42; refine (unhide COx _).mono ?_; rintro e w3 ⟨rfl, hb1⟩; have hbx := hb1; replace X0 := cell_later hbx X0; replace X1 := cell_later hbx X1; replace X2 := cell_later hbx X2; replace A0 := cell_later hbx A0; replace A1 := cell_later hbx A1; replace B0 := cell_later hbx B0; replace B1 := cell_later hbx B1; replace C0 := cell_later hbx C0; replace C1 := cell_later hbx C1; replace HSr := hide ((unhide HSr).later hbx); replace HB := hide (below_on (unhide HB) hbx); clear hb1 hbx; clear HX1 chk; have HX2 : Hid True := hide trivial)
              | (have chk := HX2; go_at_call 30; refine (unhide CA _ (unhide HSr)).mono ?_; rintro e w4 ⟨rfl, hb1⟩; have hbx := hb1; replace X0 := cell_later hbx X0; replace X1 := cell_later hbx X1; replace X2 := cell_later hbx X2; replace A0 := cell_later hbx A0; replace A1 := cell_later hbx A1; replace B0 := cell_later hbx B0; replace B1 := cell_later hbx B1; replace C0 := cell_later hbx C0; replace C1 := cell_later hbx C1; replace HSr := hide ((unhide HSr).later hbx); replace HB := hide (below_on (unhide HB) hbx); clear hb1 hbx; clear HX2 chk; have HX3 : Hid True := hide trivial)
              | (have chk := HX3; go_at_call 29; refine (signS8 A _).mono ?_; rintro e w5 ⟨rfl, rfl⟩; clear HX3 chk)
              | fail)
            by_cases hs : s = sgZ A
            · have ds : (s != sgZ A) = false := by simp [hs]
              have HT1 := hide (unhide HTn (by rw [unhide TBi]; simp [hs]))
              clear hs HTn TBi NOi COx C0x
              rw [ds]
              clear ds
              go_upto_region 11 with fail
              have HX0 : Hid True := hide trivial
              go_region_held3 (fun w' => w'.cell? ⟨PX, 0, none⟩ = some (.int .i64 (ka : Int)) ∧ w'.cell? ⟨PX, 1, none⟩ = some (.int .i64 (kb : Int)) ∧ w'.cell? ⟨PX, 2, none⟩ = some (.int .i64 (kc : Int)) ∧ w'.cell? ⟨q, off + ka * 2, none⟩ = some (.int .i64 pa.1) ∧ w'.cell? ⟨q, off + ka * 2 + 1, none⟩ = some (.int .i64 pa.2) ∧ w'.cell? ⟨q, off + kb * 2, none⟩ = some (.int .i64 pb.1) ∧ w'.cell? ⟨q, off + kb * 2 + 1, none⟩ = some (.int .i64 pb.2) ∧ w'.cell? ⟨q, off + kc * 2, none⟩ = some (.int .i64 pc.1) ∧ w'.cell? ⟨q, off + kc * 2 + 1, none⟩ = some (.int .i64 pc.2))
                (with_reducible (first | exact ⟨X0, X1, X2, A0, A1, B0, B1, C0, C1⟩ | exact ⟨cdP X0, cdP X1, cdP X2, cdP A0, cdP A1, cdP B0, cdP B1, cdP C0, cdP C1⟩ | fail))
                (first
                | (have chk := HX0; go_at_call 43; refine (unhide CXx _).mono ?_; rintro e w6 ⟨rfl, hb1⟩; have hbx := below_of_drew hb1; replace X0 := cell_later hbx X0; replace X1 := cell_later hbx X1; replace X2 := cell_later hbx X2; replace A0 := cell_later hbx A0; replace A1 := cell_later hbx A1; replace B0 := cell_later hbx B0; replace B1 := cell_later hbx B1; replace C0 := cell_later hbx C0; replace C1 := cell_later hbx C1; replace HSr := hide ((unhide HSr).later hbx); replace HB := hide (below_on (unhide HB) hbx); clear hb1 hbx; clear HX0 chk)
                | fail)
              go_wp2_with fail
              go_roundw
              case rel => exact ⟨i + 1, by omega, by go_num, by rw [unhide ES], HT1, HB⟩
              case measure => simp [intOf]; omega
            · have ds : (s != sgZ A) = true := by simp [hs]
              have NV := unhide NOi (by rw [unhide TBi]; simp [hs])
              subst NV
              rw [ds]
              clear ds hs HTn TBi NOi
              go_wp2_with fail
              go_ret2
              exact ⟨rfl, unhide HB⟩
        · obtain rfl : i = m := by omega
          have ta : T.take i = T := List.take_of_length_le (by rw [unhide HM]; omega)
          rw [ta] at HT
          have VY := unhide YES (unhide HT)
          rw [ta]
          generalize tsum l T = s0 at *
          have HSr := hide ((unhide HS).later (unhide HB))
          clear HT ta NO YES TB HD
          go_wp2_with fail
          refine (unhide CA _ (unhide HSr)).mono ?_
          rintro e w9 ⟨rfl, hb⟩
          replace HB := hide (below_on (unhide HB) hb)
          clear hb
          go_wp2_with fail
          go_ret2
          exact ⟨by rw [VY]; first | rfl | simp | (cases hz : (s0 == A) <;> simp_all), unhide HB⟩
end Go.Proofs.YtomekmhonfofkaaGreat
namespace Go.Proofs.YtomekmhonfofkaaGreat
open Go.RowKit
set_option linter.unusedVariables false
set_option maxRecDepth 100000
set_option linter.unusedSimpArgs false

theorem ar_three (a b c : Int × Int) : arS [a, b, c] 3 = crs a b c := by
  simp [arS, nxt, crs]
  grind
theorem area3 (pa pb pc : Int × Int) (W : World) (ha : Near pa) (hb : Near pb) (hc : Near pc) :
    Calls Tryz.prog 55 #[.slice (some ⟨W.heap.size, 0, none⟩) 3 3] (W.alloc (.cells #[.int .i64 pa.1, .int .i64 pa.2, .int .i64 pb.1, .int .i64 pb.2, .int .i64 pc.1, .int .i64 pc.2] 37)).drew fun e w' => e = .returned (.int .i64 (crs pa pb pc)) ∧ Below W.heap.size W w' := by
  have k : SlP (W.alloc (.cells #[.int .i64 pa.1, .int .i64 pa.2, .int .i64 pb.1, .int .i64 pb.2, .int .i64 pc.1, .int .i64 pc.2] 37)) (some ⟨W.heap.size, 0, none⟩) [pa, pb, pc] := by
    refine .inr ⟨W.heap.size, 0, rfl, by simp, fun i hi => ?_⟩
    rcases i with _ | _ | _ | i
    · exact ⟨by simp [go_sem], by simp [go_sem]⟩
    · exact ⟨by simp [go_sem], by simp [go_sem]⟩
    · exact ⟨by simp [go_sem], by simp [go_sem]⟩
    · simp at hi; omega
  refine (areaI _ 3 3 [pa, pb, pc] _ (k.later (Below.refl _ _).drew) rfl (by omega) (by omega) (fun p hp => ?_)).mono ?_
  · simp at hp
    rcases hp with rfl | rfl | rfl <;> assumption
  · rintro e w' ⟨rfl, hw⟩
    exact ⟨by rw [show [pa, pb, pc].length = 3 from rfl, ar_three], ((Below.refl _ _).alloc (Nat.le_refl _) _).trans ((below_of_drew hw).mono (by simp))⟩
set_option maxHeartbeats 8000000 in
theorem itI (a : Option Addr) (n c : Nat) (l : List (Int × Int)) (b : Option Addr) (m d : Nat) (T : List (Int × Int × Int)) (w : World) (h : ArP w a n c l) (h' : ArT w b m d T) (hp : ipB l = true) :
    Calls Tryz.prog 31 #[.slice a n c, .slice b m d] w fun e w' => e = .returned (.bool (itgV l T)) ∧ Below w.heap.size w w' := by
  have hn := h.len
  have hm := h'.len
  have HS := hide h.sl
  have wp := ipB_way hp
  have tn := ip_turn hp
  have n12 : n ≤ 12 := by omega
  have n3 : 3 ≤ n := by omega
  have ws : IntKind.i64.wrap ((n : Int) - 2) = (n : Int) - 2 := by rw [IntKind.wrap_i64]; omega
  have CG := hide (fun w (k : SlP w a l) => turnWI a n c l w k hn (by omega) n12 wp.2 tn.1)
  by_cases hk : m + 2 = n
  rotate_left
  · have EV : itgV l T = false := by unfold itgV; rw [hp, hm, hn, decide_eq_false hk]; rfl
    rw [EV]
    have dd : ((m : Int) != (n : Int) - 2) = true := by simp; omega
    clear hp h h' hn hm EV wp hk n12 n3 tn
    go_enter Tryz.func31, Tryz.ntmps31
    go_wp2_with fail
    go_ret
    exact ⟨rfl, Below.refl _ _⟩
  · have EV : Hid (itgV l T = (T.all (tgB l) && (tsum l T == arS l l.length))) := hide (by unfold itgV; rw [hp, hm, hn, decide_eq_true hk]; rfl)
    have dd : ((m : Int) != (n : Int) - 2) = false := by simp; omega
    have CA := hide (fun w (k : SlP w a l) => areaI a n c l w k hn (by omega) n12 wp.2)
    have SL := h.sl
    rcases SL with e | ⟨q, off, rfl, hq, hc⟩
    · subst e; simp at hn; omega
    have HC : Hid (∀ k, k < n → w.cell? ⟨q, off + k * 2, none⟩ = some (.int .i64 (l.getD k (0, 0)).1) ∧ w.cell? ⟨q, off + k * 2 + 1, none⟩ = some (.int .i64 (l.getD k (0, 0)).2)) := hide (fun k hk => by
      have := hc k (by omega)
      rw [List.getD_eq_getElem?_getD, List.getElem?_eq_getElem (by omega)]
      exact this)
    have ST := h'.sl
    rcases ST with e | ⟨r, of2, rfl, hr, hd⟩
    · subst e; simp at hm; omega
    have HD : Hid (∀ k (hk : k < T.length), w.cell? ⟨r, of2 + k * 3, none⟩ = some (.int .i64 T[k].1) ∧ w.cell? ⟨r, of2 + k * 3 + 1, none⟩ = some (.int .i64 T[k].2.1) ∧ w.cell? ⟨r, of2 + k * 3 + 2, none⟩ = some (.int .i64 T[k].2.2)) := hide hd
    have HG := hide wp.2
    have HN := hide hn
    have HM := hide hm
    have HK := hide hk
    have m10 : m ≤ 10 := by omega
    have C0 := hide (fun w x => triOfI (some ⟨q, off, none⟩) n c x w)
    have CO := hide (fun (x y z : Int × Int) w (hx : Near x) (hy : Near y) (hz : Near z) => turnI x y z w hx hy hz)
    have CX := hide (fun (x y z : Int × Int) w (hx : Near x) (hy : Near y) (hz : Near z) => area3 x y z w hx hy hz)
    have TB := hide (fun x => (by unfold tgB; rw [hn] : tgB l x = (trB n x && (sgZ (tcr l x) == sgZ (arS l l.length)))))
    have NO := hide (fun (x : Int × Int × Int) (hx : x ∈ T) (k : tgB l x = false) => (by rw [unhide EV]; rw [show T.all (tgB l) = false from List.all_eq_false.2 ⟨x, hx, by rw [k]; decide⟩]; rfl : itgV l T = false))
    have YES := hide (fun (k : ∀ x ∈ T, tgB l x = true) => (by rw [unhide EV, List.all_eq_true.2 k]; rfl : itgV l T = (tsum l T == arS l l.length)))
    clear hp h h' hn hm wp hk hc hd EV tn
    generalize arS l l.length = A at *
    generalize itgV l T = V at *
    go_enter Tryz.func31, Tryz.ntmps31
    go_wp2_with fail
    refine (unhide CG _ (unhide HS)).mono ?_
    rintro e w1 ⟨rfl, hb⟩
    have HB := hide hb
    clear hb CG
    go_wp2_with fail
    go_loopw [6, 19] (fun sv iv wr => ∃ i : Nat, i ≤ m ∧ iv = .int .i64 i ∧ sv = .int .i64 (tsum l (T.take i)) ∧ Hid (∀ x ∈ T.take i, tgB l x = true) ∧ Hid (Below w.heap.size w wr)) (fun _ iv _ => m - (intOf iv).toNat)
    case atStart => exact ⟨0, Nat.zero_le _, rfl, rfl, hide (by simp), HB⟩
    case round =>
      clear HB
      obtain ⟨i, hi, rfl, rfl, HT, HB⟩ := hrel
      by_cases hlt : i < m
      · have hlt' : (i : Int) < (m : Int) := by omega
        have iT : i < T.length := by rw [unhide HM]; exact hlt
        have hx := unhide HD i iT
        have bs := tsum_bd (unhide HG) _ (unhide HT)
        have bl : (T.take i).length ≤ 10 := by rw [List.length_take]; have := unhide HK; omega
        have NOi := hide (unhide NO T[i] (List.getElem_mem iT))
        have TBi := hide (unhide TB T[i])
        have ES := hide (by rw [takeT iT, tsum_app]; simp [tsum] : tsum l (T.take (i + 1)) = tsum l (T.take i) + tcr l T[i])
        have HTn : Hid (tgB l T[i] = true → ∀ x ∈ T.take (i + 1), tgB l x = true) := hide (fun k x hx => by
          rw [takeT iT, List.mem_append] at hx
          rcases hx with hx | hx
          · exact unhide HT x hx
          · simp at hx; subst hx; exact k)
        generalize tsum l (T.take i) = s0 at *
        generalize (T.take i).length = bi at *
        generalize T[i] = x at *
        have D0 : wr.cell? ⟨r, of2 + i * 3, none⟩ = some (.int .i64 x.1) := ((unhide HB).cell (p := ⟨r, of2 + i * 3, none⟩) hr).trans hx.1
        have D1 : wr.cell? ⟨r, of2 + i * 3 + 1, none⟩ = some (.int .i64 x.2.1) := ((unhide HB).cell (p := ⟨r, of2 + i * 3 + 1, none⟩) hr).trans hx.2.1
        have D2 : wr.cell? ⟨r, of2 + i * 3 + 2, none⟩ = some (.int .i64 x.2.2) := ((unhide HB).cell (p := ⟨r, of2 + i * 3 + 2, none⟩) hr).trans hx.2.2
        clear hx HT NO YES TB HD
        cases ht : trB n x
        · have NV := unhide NOi (by rw [unhide TBi, ht]; rfl)
          subst NV
          have C0x := hide (fun w => unhide C0 w x)
          rw [ht] at C0x
          clear NOi TBi ES HTn bs bl HC HG C0 CO CX CA
          have bx := (Below.refl wr.heap.size wr).alloc (Nat.le_refl _) (.cells #[.int .i64 x.1, .int .i64 x.2.1, .int .i64 x.2.2] 40)
          replace HB := hide (below_on (unhide HB) bx)
          have X0 : (wr.alloc (.cells #[.int .i64 x.1, .int .i64 x.2.1, .int .i64 x.2.2] 40)).cell? ⟨wr.heap.size, 0, none⟩ = some (.int .i64 x.1) := by simp [go_sem]
          have X1 : (wr.alloc (.cells #[.int .i64 x.1, .int .i64 x.2.1, .int .i64 x.2.2] 40)).cell? ⟨wr.heap.size, 1, none⟩ = some (.int .i64 x.2.1) := by simp [go_sem]
          have X2 : (wr.alloc (.cells #[.int .i64 x.1, .int .i64 x.2.1, .int .i64 x.2.2] 40)).cell? ⟨wr.heap.size, 2, none⟩ = some (.int .i64 x.2.2) := by simp [go_sem]
          go_upto_region 7 with fail
          generalize wr.alloc (.cells #[.int .i64 x.1, .int .i64 x.2.1, .int .i64 x.2.2] 40) = wb at *
          clear D0 D1 D2 bx
          generalize wr.heap.size = PX at *
          refine wp_region_held_drew (S := fun w' => w'.cell? ⟨PX, 0, none⟩ = some (.int .i64 x.1) ∧ w'.cell? ⟨PX, 1, none⟩ = some (.int .i64 x.2.1) ∧ w'.cell? ⟨PX, 2, none⟩ = some (.int .i64 x.2.2)) (by kernel_rfl) ⟨X0, X1, X2⟩ (fun hHeld => ?_)
          simp only [List.size_toArray, List.length_cons, List.length_nil, Nat.reduceAdd, Array.replicate_succ, Array.replicate_zero, List.push_toArray, List.nil_append, List.cons_append]
          refine wpAnyH_take (i := 0) (v := .agg #[.int .i64 x.1, .int .i64 x.2.1, .int .i64 x.2.2]) rfl (by kernel_rfl) (by kernel_rfl) (by kernel_rfl) (fun _ _ _ h => h) (Or.inl ⟨by rfl, by intro w hSw; (try dsimp only at hSw); go_simp⟩) hHeld ?_
          simp only [List.getElem_toArray, List.getElem_cons_zero, List.getElem_cons_succ, Act.put, List.setIfInBounds_toArray, List.set_cons_zero, List.set_cons_succ]
          refine wpAnyH_take (i := 1) (v := .slice (some ⟨q, off, none⟩) n c) rfl (by kernel_rfl) (by kernel_rfl) (by kernel_rfl) (fun _ _ _ h => h) (Or.inl ⟨by rfl, by intro w hSw; (try dsimp only at hSw); go_simp⟩) hHeld ?_
          simp only [List.getElem_toArray, List.getElem_cons_zero, List.getElem_cons_succ, Act.put, List.setIfInBounds_toArray, List.set_cons_zero, List.set_cons_succ]
          refine wpAnyH_ready (rs := [2]) (by kernel_rfl) (by simp) (AllReadyH.cons rfl (fun K hK => ?_) AllReadyH.nil)
          go_simp
          refine (unhide C0x _).mono ?_
          rintro e w2 ⟨rfl, hb1⟩
          have hbx := below_of_drew hb1
          replace X0 := cell_later hbx X0
          replace X1 := cell_later hbx X1
          replace X2 := cell_later hbx X2
          replace HB := hide (below_on (unhide HB) hbx)
          refine hK.out _ _ ⟨X0, X1, X2⟩ (fun hHeld2 => ?_)
          clear hK K hb1 hbx hHeld
          have hHeld := hHeld2
          clear hHeld2
          simp only [Act.put, List.setIfInBounds_toArray, List.set_cons_zero, List.set_cons_succ]
          refine wpAnyH_take (i := 3) (v := .bool true) rfl (by kernel_rfl) (by kernel_rfl) (by kernel_rfl) (fun _ _ _ h => h) (Or.inl ⟨by rfl, by intro w hSw; (try dsimp only at hSw); go_simp⟩) hHeld ?_
          simp only [List.getElem_toArray, List.getElem_cons_zero, List.getElem_cons_succ, Act.put, List.setIfInBounds_toArray, List.set_cons_zero, List.set_cons_succ]
          refine wpAnyH_take (i := 4) (v := .bool true) rfl (by kernel_rfl) (by kernel_rfl) (by kernel_rfl) (fun _ _ _ h => h) (Or.inl ⟨by rfl, by intro w hSw; (try dsimp only at hSw); go_simp⟩) hHeld ?_
          simp only [List.getElem_toArray, List.getElem_cons_zero, List.getElem_cons_succ, Act.put, List.setIfInBounds_toArray, List.set_cons_zero, List.set_cons_succ]
          refine wpAnyH_take (i := 5) (v := undef) rfl (by kernel_rfl) (by kernel_rfl) (by kernel_rfl) (fun _ _ _ h => h) (Or.inr ⟨by kernel_rfl, rfl⟩) hHeld ?_
          simp only [List.getElem_toArray, List.getElem_cons_zero, List.getElem_cons_succ, Act.put, List.setIfInBounds_toArray, List.set_cons_zero, List.set_cons_succ]
          refine wpAnyH_take (i := 6) (v := undef) rfl (by kernel_rfl) (by kernel_rfl) (by kernel_rfl) (fun _ _ _ h => h) (Or.inr ⟨by kernel_rfl, rfl⟩) hHeld ?_
          simp only [List.getElem_toArray, List.getElem_cons_zero, List.getElem_cons_succ, Act.put, List.setIfInBounds_toArray, List.set_cons_zero, List.set_cons_succ]
          refine wpAnyH_take (i := 7) (v := undef) rfl (by kernel_rfl) (by kernel_rfl) (by kernel_rfl) (fun _ _ _ h => h) (Or.inr ⟨by kernel_rfl, rfl⟩) hHeld ?_
          simp only [List.getElem_toArray, List.getElem_cons_zero, List.getElem_cons_succ, Act.put, List.setIfInBounds_toArray, List.set_cons_zero, List.set_cons_succ]
          refine wpAnyH_take (i := 8) (v := undef) rfl (by kernel_rfl) (by kernel_rfl) (by kernel_rfl) (fun _ _ _ h => h) (Or.inr ⟨by kernel_rfl, rfl⟩) hHeld ?_
          simp only [List.getElem_toArray, List.getElem_cons_zero, List.getElem_cons_succ, Act.put, List.setIfInBounds_toArray, List.set_cons_zero, List.set_cons_succ]
          refine wpAnyH_take (i := 9) (v := undef) rfl (by kernel_rfl) (by kernel_rfl) (by kernel_rfl) (fun _ _ _ h => h) (Or.inr ⟨by kernel_rfl, rfl⟩) hHeld ?_
          simp only [List.getElem_toArray, List.getElem_cons_zero, List.getElem_cons_succ, Act.put, List.setIfInBounds_toArray, List.set_cons_zero, List.set_cons_succ]
          refine wpAnyH_take (i := 10) (v := undef) rfl (by kernel_rfl) (by kernel_rfl) (by kernel_rfl) (fun _ _ _ h => h) (Or.inr ⟨by kernel_rfl, rfl⟩) hHeld ?_
          simp only [List.getElem_toArray, List.getElem_cons_zero, List.getElem_cons_succ, Act.put, List.setIfInBounds_toArray, List.set_cons_zero, List.set_cons_succ]
          refine wpAnyH_take (i := 11) (v := undef) rfl (by kernel_rfl) (by kernel_rfl) (by kernel_rfl) (fun _ _ _ h => h) (Or.inr ⟨by kernel_rfl, rfl⟩) hHeld ?_
          simp only [List.getElem_toArray, List.getElem_cons_zero, List.getElem_cons_succ, Act.put, List.setIfInBounds_toArray, List.set_cons_zero, List.set_cons_succ]
          refine wpAnyH_take (i := 12) (v := undef) rfl (by kernel_rfl) (by kernel_rfl) (by kernel_rfl) (fun _ _ _ h => h) (Or.inr ⟨by kernel_rfl, rfl⟩) hHeld ?_
          simp only [List.getElem_toArray, List.getElem_cons_zero, List.getElem_cons_succ, Act.put, List.setIfInBounds_toArray, List.set_cons_zero, List.set_cons_succ]
          refine wpAnyH_take (i := 13) (v := undef) rfl (by kernel_rfl) (by kernel_rfl) (by kernel_rfl) (fun _ _ _ h => h) (Or.inr ⟨by kernel_rfl, rfl⟩) hHeld ?_
          simp only [List.getElem_toArray, List.getElem_cons_zero, List.getElem_cons_succ, Act.put, List.setIfInBounds_toArray, List.set_cons_zero, List.set_cons_succ]
          refine wpAnyH_take (i := 14) (v := undef) rfl (by kernel_rfl) (by kernel_rfl) (by kernel_rfl) (fun _ _ _ h => h) (Or.inr ⟨by kernel_rfl, rfl⟩) hHeld ?_
          simp only [List.getElem_toArray, List.getElem_cons_zero, List.getElem_cons_succ, Act.put, List.setIfInBounds_toArray, List.set_cons_zero, List.set_cons_succ]
          refine wpAnyH_take (i := 15) (v := undef) rfl (by kernel_rfl) (by kernel_rfl) (by kernel_rfl) (fun _ _ _ h => h) (Or.inr ⟨by kernel_rfl, rfl⟩) hHeld ?_
          simp only [List.getElem_toArray, List.getElem_cons_zero, List.getElem_cons_succ, Act.put, List.setIfInBounds_toArray, List.set_cons_zero, List.set_cons_succ]
          refine wpAnyH_take (i := 16) (v := undef) rfl (by kernel_rfl) (by kernel_rfl) (by kernel_rfl) (fun _ _ _ h => h) (Or.inr ⟨by kernel_rfl, rfl⟩) hHeld ?_
          simp only [List.getElem_toArray, List.getElem_cons_zero, List.getElem_cons_succ, Act.put, List.setIfInBounds_toArray, List.set_cons_zero, List.set_cons_succ]
          refine wpAnyH_take (i := 17) (v := undef) rfl (by kernel_rfl) (by kernel_rfl) (by kernel_rfl) (fun _ _ _ h => h) (Or.inr ⟨by kernel_rfl, rfl⟩) hHeld ?_
          simp only [List.getElem_toArray, List.getElem_cons_zero, List.getElem_cons_succ, Act.put, List.setIfInBounds_toArray, List.set_cons_zero, List.set_cons_succ]
          refine wpAnyH_take (i := 18) (v := undef) rfl (by kernel_rfl) (by kernel_rfl) (by kernel_rfl) (fun _ _ _ h => h) (Or.inr ⟨by kernel_rfl, rfl⟩) hHeld ?_
          simp only [List.getElem_toArray, List.getElem_cons_zero, List.getElem_cons_succ, Act.put, List.setIfInBounds_toArray, List.set_cons_zero, List.set_cons_succ]
          refine wpAnyH_take (i := 19) (v := undef) rfl (by kernel_rfl) (by kernel_rfl) (by kernel_rfl) (fun _ _ _ h => h) (Or.inr ⟨by kernel_rfl, rfl⟩) hHeld ?_
          simp only [List.getElem_toArray, List.getElem_cons_zero, List.getElem_cons_succ, Act.put, List.setIfInBounds_toArray, List.set_cons_zero, List.set_cons_succ]
          refine wpAnyH_take (i := 20) (v := undef) rfl (by kernel_rfl) (by kernel_rfl) (by kernel_rfl) (fun _ _ _ h => h) (Or.inr ⟨by kernel_rfl, rfl⟩) hHeld ?_
          simp only [List.getElem_toArray, List.getElem_cons_zero, List.getElem_cons_succ, Act.put, List.setIfInBounds_toArray, List.set_cons_zero, List.set_cons_succ]
          refine wpAnyH_take (i := 21) (v := undef) rfl (by kernel_rfl) (by kernel_rfl) (by kernel_rfl) (fun _ _ _ h => h) (Or.inr ⟨by kernel_rfl, rfl⟩) hHeld ?_
          simp only [List.getElem_toArray, List.getElem_cons_zero, List.getElem_cons_succ, Act.put, List.setIfInBounds_toArray, List.set_cons_zero, List.set_cons_succ]
          refine wpAnyH_take (i := 22) (v := undef) rfl (by kernel_rfl) (by kernel_rfl) (by kernel_rfl) (fun _ _ _ h => h) (Or.inr ⟨by kernel_rfl, rfl⟩) hHeld ?_
          simp only [List.getElem_toArray, List.getElem_cons_zero, List.getElem_cons_succ, Act.put, List.setIfInBounds_toArray, List.set_cons_zero, List.set_cons_succ]
          refine wpAnyH_take (i := 23) (v := .bool true) rfl (by kernel_rfl) (by kernel_rfl) (by kernel_rfl) (fun _ _ _ h => h) (Or.inl ⟨by rfl, by intro w hSw; (try dsimp only at hSw); go_simp⟩) hHeld ?_
          simp only [List.getElem_toArray, List.getElem_cons_zero, List.getElem_cons_succ, Act.put, List.setIfInBounds_toArray, List.set_cons_zero, List.set_cons_succ]
          refine wpAnyH_done (by kernel_rfl) ?_ _
          clear hHeld
          go_wp2_with fail
          go_ret
          exact ⟨rfl, unhide HB⟩
        · obtain ⟨ka, kb, kc, rfl, ja, jb, jc⟩ := tr_nat ht
          have NA := near_at (unhide HG) (show ka < l.length by rw [unhide HN]; exact ja)
          have NB := near_at (unhide HG) (show kb < l.length by rw [unhide HN]; exact jb)
          have NC := near_at (unhide HG) (show kc < l.length by rw [unhide HN]; exact jc)
          have cb := crs_bd NA NB NC
          have A_ := unhide HC _ ja
          have B_ := unhide HC _ jb
          have C_ := unhide HC _ jc
          have C0x : Hid (∀ w, Calls Tryz.prog 57 #[.agg #[.int .i64 (ka : Int), .int .i64 (kb : Int), .int .i64 (kc : Int)], .slice (some ⟨q, off, none⟩) n c] w fun e w' => e = .returned (.bool true) ∧ Below w.heap.size w w') := hide (fun w => by have := unhide C0 w ((ka : Int), (kb : Int), (kc : Int)); rw [ht] at this; exact this)
          have COx := hide (fun w => unhide CO _ _ _ w NA NB NC)
          have CXx := hide (fun w => unhide CX _ _ _ w NA NB NC)
          replace TBi : Hid (tgB l ((ka : Int), (kb : Int), (kc : Int)) = (sgZ (crs (l.getD ka (0, 0)) (l.getD kb (0, 0)) (l.getD kc (0, 0))) == sgZ A)) := hide (by rw [unhide TBi, ht, tcr_nat]; rfl)
          rw [tcr_nat] at ES
          replace ES := hide ES
          generalize l.getD ka (0, 0) = pa at *
          generalize l.getD kb (0, 0) = pb at *
          generalize l.getD kc (0, 0) = pc at *
          generalize sgZ (crs pa pb pc) = s at *
          generalize crs pa pb pc = C at *
          have iw : IntKind.i64.wrap (s0 + C) = s0 + C := by rw [IntKind.wrap_i64]; omega
          dsimp only at D0 D1 D2
          have ja' : (ka : Int) < (n : Int) := by omega
          have jb' : (kb : Int) < (n : Int) := by omega
          have jc' : (kc : Int) < (n : Int) := by omega
          clear cb bs NA NB NC C0 CO CX HG ht
          have A0 : wr.cell? ⟨q, off + ka * 2, none⟩ = some (.int .i64 pa.1) := ((unhide HB).cell (p := ⟨q, off + ka * 2, none⟩) hq).trans A_.1
          have A1 : wr.cell? ⟨q, off + ka * 2 + 1, none⟩ = some (.int .i64 pa.2) := ((unhide HB).cell (p := ⟨q, off + ka * 2 + 1, none⟩) hq).trans A_.2
          have B0 : wr.cell? ⟨q, off + kb * 2, none⟩ = some (.int .i64 pb.1) := ((unhide HB).cell (p := ⟨q, off + kb * 2, none⟩) hq).trans B_.1
          have B1 : wr.cell? ⟨q, off + kb * 2 + 1, none⟩ = some (.int .i64 pb.2) := ((unhide HB).cell (p := ⟨q, off + kb * 2 + 1, none⟩) hq).trans B_.2
          have C0 : wr.cell? ⟨q, off + kc * 2, none⟩ = some (.int .i64 pc.1) := ((unhide HB).cell (p := ⟨q, off + kc * 2, none⟩) hq).trans C_.1
          have C1 : wr.cell? ⟨q, off + kc * 2 + 1, none⟩ = some (.int .i64 pc.2) := ((unhide HB).cell (p := ⟨q, off + kc * 2 + 1, none⟩) hq).trans C_.2
          have HSr := hide ((unhide HS).later (unhide HB))
          clear A_ B_ C_ HC
          have bx := (Below.refl wr.heap.size wr).alloc (Nat.le_refl _) (.cells #[.int .i64 (ka : Int), .int .i64 (kb : Int), .int .i64 (kc : Int)] 40)
          replace HB := hide (below_on (unhide HB) bx)
          have X0 : (wr.alloc (.cells #[.int .i64 (ka : Int), .int .i64 (kb : Int), .int .i64 (kc : Int)] 40)).cell? ⟨wr.heap.size, 0, none⟩ = some (.int .i64 (ka : Int)) := by simp [go_sem]
          have X1 : (wr.alloc (.cells #[.int .i64 (ka : Int), .int .i64 (kb : Int), .int .i64 (kc : Int)] 40)).cell? ⟨wr.heap.size, 1, none⟩ = some (.int .i64 (kb : Int)) := by simp [go_sem]
          have X2 : (wr.alloc (.cells #[.int .i64 (ka : Int), .int .i64 (kb : Int), .int .i64 (kc : Int)] 40)).cell? ⟨wr.heap.size, 2, none⟩ = some (.int .i64 (kc : Int)) := by simp [go_sem]
          replace HSr := hide ((unhide HSr).later bx)
          replace A0 := cell_later bx A0
          replace A1 := cell_later bx A1
          replace B0 := cell_later bx B0
          replace B1 := cell_later bx B1
          replace C0 := cell_later bx C0
          replace C1 := cell_later bx C1
          go_upto_region 7 with fail
          generalize wr.alloc (.cells #[.int .i64 (ka : Int), .int .i64 (kb : Int), .int .i64 (kc : Int)] 40) = wb at *
          clear D0 D1 D2 bx
          generalize wr.heap.size = PX at *
          have HX0 : Hid True := hide trivial
          go_region_held3 (fun w' => w'.cell? ⟨PX, 0, none⟩ = some (.int .i64 (ka : Int)) ∧ w'.cell? ⟨PX, 1, none⟩ = some (.int .i64 (kb : Int)) ∧ w'.cell? ⟨PX, 2, none⟩ = some (.int .i64 (kc : Int)) ∧ w'.cell? ⟨q, off + ka * 2, none⟩ = some (.int .i64 pa.1) ∧ w'.cell? ⟨q, off + ka * 2 + 1, none⟩ = some (.int .i64 pa.2) ∧ w'.cell? ⟨q, off + kb * 2, none⟩ = some (.int .i64 pb.1) ∧ w'.cell? ⟨q, off + kb * 2 + 1, none⟩ = some (.int .i64 pb.2) ∧ w'.cell? ⟨q, off + kc * 2, none⟩ = some (.int .i64 pc.1) ∧ w'.cell? ⟨q, off + kc * 2 + 1, none⟩ = some (.int .i64 pc.2))
            (with_reducible (first | exact ⟨X0, X1, X2, A0, A1, B0, B1, C0, C1⟩ | exact ⟨cdP X0, cdP X1, cdP X2, cdP A0, cdP A1, cdP B0, cdP B1, cdP C0, cdP C1⟩ | fail))
            (first
            | (have chk := HX0; go_at_call 57; refine (unhide C0x _).mono ?_; rintro e w2 ⟨rfl, hb1⟩; have hbx := below_of_drew hb1; replace X0 := cell_later hbx X0; replace X1 := cell_later hbx X1; replace X2 := cell_later hbx X2; replace A0 := cell_later hbx A0; replace A1 := cell_later hbx A1; replace B0 := cell_later hbx B0; replace B1 := cell_later hbx B1; replace C0 := cell_later hbx C0; replace C1 := cell_later hbx C1; replace HSr := hide ((unhide HSr).later hbx); replace HB := hide (below_on (unhide HB) hbx); clear hb1 hbx; clear HX0 chk; have HX1 : Hid True := hide trivial)
            | (have chk := HX1; go_at_call 36; refine (unhide COx _).mono ?_; rintro e w3 ⟨rfl, hb1⟩; have hbx := hb1; replace X0 := cell_later hbx X0; replace X1 := cell_later hbx X1; replace X2 := cell_later hbx X2; replace A0 := cell_later hbx A0; replace A1 := cell_later hbx A1; replace B0 := cell_later hbx B0; replace B1 := cell_later hbx B1; replace C0 := cell_later hbx C0; replace C1 := cell_later hbx C1; replace HSr := hide ((unhide HSr).later hbx); replace HB := hide (below_on (unhide HB) hbx); clear hb1 hbx; clear HX1 chk)
            | fail)
          by_cases hs : s = sgZ A
          · have ds : (s != sgZ A) = false := by simp [hs]
            have HT1 := hide (unhide HTn (by rw [unhide TBi]; simp [hs]))
            clear hs HTn TBi NOi COx C0x
            rw [ds]
            clear ds
            go_upto_region 9 with fail
            go_region_held3 (fun w' => w'.cell? ⟨PX, 0, none⟩ = some (.int .i64 (ka : Int)) ∧ w'.cell? ⟨PX, 1, none⟩ = some (.int .i64 (kb : Int)) ∧ w'.cell? ⟨PX, 2, none⟩ = some (.int .i64 (kc : Int)) ∧ w'.cell? ⟨q, off + ka * 2, none⟩ = some (.int .i64 pa.1) ∧ w'.cell? ⟨q, off + ka * 2 + 1, none⟩ = some (.int .i64 pa.2) ∧ w'.cell? ⟨q, off + kb * 2, none⟩ = some (.int .i64 pb.1) ∧ w'.cell? ⟨q, off + kb * 2 + 1, none⟩ = some (.int .i64 pb.2) ∧ w'.cell? ⟨q, off + kc * 2, none⟩ = some (.int .i64 pc.1) ∧ w'.cell? ⟨q, off + kc * 2 + 1, none⟩ = some (.int .i64 pc.2))
              (with_reducible (first | exact ⟨X0, X1, X2, A0, A1, B0, B1, C0, C1⟩ | exact ⟨cdP X0, cdP X1, cdP X2, cdP A0, cdP A1, cdP B0, cdP B1, cdP C0, cdP C1⟩ | exact ⟨cdP (ca_other X0), cdP (ca_other X1), cdP (ca_other X2), cdP (ca_other A0), cdP (ca_other A1), cdP (ca_other B0), cdP (ca_other B1), cdP (ca_other C0), cdP (ca_other C1)⟩ | fail))
              (first
              | (go_at_call 55; refine (unhide CXx _).mono ?_; rintro e w6 ⟨rfl, hb1⟩; have hbx := hb1; replace X0 := cell_later hbx X0; replace X1 := cell_later hbx X1; replace X2 := cell_later hbx X2; replace A0 := cell_later hbx A0; replace A1 := cell_later hbx A1; replace B0 := cell_later hbx B0; replace B1 := cell_later hbx B1; replace C0 := cell_later hbx C0; replace C1 := cell_later hbx C1; replace HB := hide (below_on (unhide HB) hbx); clear hb1 hbx)
              | fail)
            go_wp2_with fail
            go_roundw
            case rel => exact ⟨i + 1, by omega, by go_num, by rw [unhide ES], HT1, HB⟩
            case measure => simp [intOf]; omega
          · have ds : (s != sgZ A) = true := by simp [hs]
            have NV := unhide NOi (by rw [unhide TBi]; simp [hs])
            subst NV
            rw [ds]
            clear ds hs HTn TBi NOi
            go_wp2_with fail
            go_ret
            exact ⟨rfl, unhide HB⟩
      · obtain rfl : i = m := by omega
        have ta : T.take i = T := List.take_of_length_le (by rw [unhide HM]; omega)
        rw [ta] at HT
        have VY := unhide YES (unhide HT)
        rw [ta]
        generalize tsum l T = s0 at *
        have HSr := hide ((unhide HS).later (unhide HB))
        clear HT ta NO YES TB HD
        go_wp2_with fail
        refine (unhide CA _ (unhide HSr)).mono ?_
        rintro e w9 ⟨rfl, hb⟩
        replace HB := hide (below_on (unhide HB) hb)
        clear hb
        go_wp2_with fail
        go_ret
        exact ⟨by rw [VY]; first | rfl | simp | (cases hz : (s0 == A) <;> simp_all), unhide HB⟩
set_option maxHeartbeats 2000000 in
theorem IsTriangulationI (a : Option Addr) (n c : Nat) (l : List (Int × Int)) (b : Option Addr) (m d : Nat) (T : List (Int × Int × Int)) (w : World) (h : ArP w a n c l) (h' : ArT w b m d T) (h1 : n ≤ 1048576) (h2 : m ≤ 1048576) :
    Calls Tryz.prog 11 #[.slice a n c, .slice b m d] w fun e w' => e = .returned (.tuple #[.bool (itgV l T), .bool (ipB l)]) ∧ Below w.heap.size w w' := by
  have hn := h.len
  have CG := hide (fun w (k : SlP w a l) => gswI a n c l w k hn h1)
  have HS := hide h
  have HT := hide h'
  cases hp : ipB l
  · rw [hp] at CG
    have EV : itgV l T = false := by unfold itgV; rw [hp]; rfl
    rw [EV]
    clear hp h h' hn EV
    go_enter Tryz.func11, Tryz.ntmps11
    go_wp2_with fail
    refine (unhide CG _ (unhide HS).sl).mono ?_
    rintro e w1 ⟨rfl, hb⟩
    go_wp2_with fail
    go_ret2
    exact ⟨rfl, hb⟩
  · rw [hp] at CG
    have CT := hide (fun w (k : ArP w a n c l) (k' : ArT w b m d T) => itI a n c l b m d T w k k' hp)
    clear hp h h' hn
    generalize itgV l T = V at *
    go_enter Tryz.func11, Tryz.ntmps11
    go_wp2_with fail
    refine (unhide CG _ (unhide HS).sl).mono ?_
    rintro e w1 ⟨rfl, hb⟩
    replace HS := hide ((unhide HS).later hb)
    replace HT := hide ((unhide HT).later hb)
    have HB := hide hb
    clear hb
    go_wp2_with fail
    refine (unhide CT _ (unhide HS) (unhide HT)).mono ?_
    rintro e w2 ⟨rfl, hb⟩
    replace HB := hide (below_on (unhide HB) hb)
    clear hb
    go_wp2_with fail
    go_ret2
    exact ⟨rfl, unhide HB⟩
end Go.Proofs.YtomekmhonfofkaaGreat
