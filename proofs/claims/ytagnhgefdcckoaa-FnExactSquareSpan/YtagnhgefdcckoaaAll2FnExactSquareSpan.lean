/- The law FnExactSquareSpan returns true for every argument and leaves it as it was: the given statement FnExactSquareSpanSaid. No condition. -/
import Derived.Deep.RegionHeld3
import Derived.Test.YtagnhgefdcckoaaTwo
import Derived.Test.YtagnhgefdcckoaaAll1FnExactSquareSpan
import Derived.Test.YtagnhgefdcckoaaOpenQ
import Derived.Test.YtagnhgefdcckoaaIo
namespace Go.Proofs.Ytagnhgefdcckoaa
open Go.RowKit
set_option linter.unusedVariables false
set_option maxRecDepth 100000
set_option linter.unusedSimpArgs false

def pt (G : Nat) : Value := .pointer (some ⟨G, 0, none⟩)
theorem pt_ne {G H : Nat} (h : pt G ≠ pt H) : G ≠ H := fun e => h (by rw [e])
theorem ne_pt {G H : Nat} (h : G ≠ H) : pt G ≠ pt H := fun e => h (by unfold pt at e; injection e with e; injection e with e; injection e)
theorem mem_not {i k : Nat} {b : Bool} (h : i ∈ (if b = true then [] else [k])) : b = false ∧ i = k := by
  cases b
  · simp at h; exact ⟨rfl, h⟩
  · simp at h
theorem mem_yes {i k : Nat} {b : Bool} (h : i ∈ (if b = true then [k] else [])) : b = true ∧ i = k := by
  cases b
  · simp at h
  · simp at h; exact ⟨rfl, h⟩
/-- Which calls are done, which boxes are there. -/
structure TwSt (w0 : World) (RA RB : World → Value → Prop) (Bx : World → Nat → Prop) (c1 c2 a1 a2 : Bool) (x3 x4 x9 x14 : Value) (w : World) : Prop where
  bel : Below w0.heap.size w0 w
  r1 : c1 = true → RA w x9
  r2 : c2 = true → RB w x14
  b1 : a1 = true → ∃ G, x3 = pt G ∧ w0.heap.size ≤ G ∧ Bx w G
  b2 : a2 = true → ∃ H, x4 = pt H ∧ w0.heap.size ≤ H ∧ Bx w H
  ne : a1 = true → a2 = true → x3 ≠ x4
section
variable {P : Program} {md : Region.Mode} {ops : Array Oper} {Q : Exit → Act → World → Prop} {S : World → Prop} {w0 : World} {RA RB : World → Value → Prop} {Bx : World → Nat → Prop}
theorem TwSt.later (pA : ∀ w w' v, RA w v → Below w.heap.size w w' → RA w' v) (pB : ∀ w w' v, RB w v → Below w.heap.size w w' → RB w' v) (pX : ∀ w w' G, Bx w G → Below w.heap.size w w' → Bx w' G) {c1 c2 a1 a2 : Bool} {x3 x4 x9 x14 : Value} {w w' : World} (h : TwSt w0 RA RB Bx c1 c2 a1 a2 x3 x4 x9 x14 w) (hb : Below w.heap.size w w') : TwSt w0 RA RB Bx c1 c2 a1 a2 x3 x4 x9 x14 w' :=
  ⟨below_on h.bel hb, fun e => pA _ _ _ (h.r1 e) hb, fun e => pB _ _ _ (h.r2 e) hb, fun e => by obtain ⟨G, k1, k2, k3⟩ := h.b1 e; exact ⟨G, k1, k2, pX _ _ _ k3 hb⟩, fun e => by obtain ⟨G, k1, k2, k3⟩ := h.b2 e; exact ⟨G, k1, k2, pX _ _ _ k3 hb⟩, h.ne⟩
theorem two_boxes (A : Value → Value → Value → Value → Act) (L : Bool → Bool → Bool → Bool → Array Bool) (iA iB i3 i4 : Nat) (ob : Obj)
    (hS : ∀ w, Below w0.heap.size w0 w → S w)
    (pA : ∀ w w' v, RA w v → Below w.heap.size w w' → RA w' v) (pB : ∀ w w' v, RB w v → Below w.heap.size w w' → RB w' v) (pX : ∀ w w' G, Bx w G → Below w.heap.size w w' → Bx w' G)
    (nX : ∀ w : World, Bx (w.alloc ob) w.heap.size) (lX : ∀ w G, Bx w G → G < w.heap.size)
    (hr : ∀ c1 c2 a1 a2, (c2 = true → c1 = true) → (c1 && c2 && a1 && a2) = false → Region.ready md ops (L c1 c2 a1 a2) = ((if c1 = true then [] else [iA]) ++ ((if (c1 && !c2) = true then [iB] else []) ++ ((if a1 = true then [] else [i3]) ++ (if a2 = true then [] else [i4])))))
    (lA : ∀ c1 c2 a1 a2, (L c1 c2 a1 a2).setIfInBounds iA true = L true c2 a1 a2) (lB : ∀ c1 c2 a1 a2, (L c1 c2 a1 a2).setIfInBounds iB true = L c1 true a1 a2)
    (l3 : ∀ c1 c2 a1 a2, (L c1 c2 a1 a2).setIfInBounds i3 true = L c1 c2 true a2) (l4 : ∀ c1 c2 a1 a2, (L c1 c2 a1 a2).setIfInBounds i4 true = L c1 c2 a1 true)
    (hA : ∀ x3 x4 x9 x14 w (K : Act → World → Prop), Below w0.heap.size w0 w → (∀ v w', Below w.heap.size w w' → RA w' v → K (A x3 x4 v x14) w') → wpOp P ops Q iA K (A x3 x4 x9 x14) w)
    (hB : ∀ x3 x4 x9 x14 w (K : Act → World → Prop), Below w0.heap.size w0 w → (∀ v w', Below w.heap.size w w' → RB w' v → K (A x3 x4 x9 v) w') → wpOp P ops Q iB K (A x3 x4 x9 x14) w)
    (h3 : ∀ x3 x4 x9 x14 w (K : Act → World → Prop), K (A (pt w.heap.size) x4 x9 x14) (w.alloc ob) → wpOp P ops Q i3 K (A x3 x4 x9 x14) w)
    (h4 : ∀ x3 x4 x9 x14 w (K : Act → World → Prop), K (A x3 (pt w.heap.size) x9 x14) (w.alloc ob) → wpOp P ops Q i4 K (A x3 x4 x9 x14) w)
    (fin : ∀ G H u v w, Below w0.heap.size w0 w → w0.heap.size ≤ G → w0.heap.size ≤ H → G ≠ H → Bx w G → Bx w H → RA w u → RB w v → wpAnyH P md ops Q S 2 (L true true true true) (A (pt G) (pt H) u v) w) :
    ∀ x3 x4 x9 x14, wpAnyH P md ops Q S 6 (L false false false false) (A x3 x4 x9 x14) w0 := by
  have key : ∀ n c1 c2 a1 a2 x3 x4 x9 x14 w, (c2 = true → c1 = true) → n = (!c1).toNat + (!c2).toNat + (!a1).toNat + (!a2).toNat → TwSt w0 RA RB Bx c1 c2 a1 a2 x3 x4 x9 x14 w → wpAnyH P md ops Q S (n + 2) (L c1 c2 a1 a2) (A x3 x4 x9 x14) w := by
    intro n
    induction n with
    | zero =>
      intro c1 c2 a1 a2 x3 x4 x9 x14 w hc hn h
      cases c1 <;> cases c2 <;> cases a1 <;> cases a2 <;> first | (simp at hn; done) | skip
      obtain ⟨G, rfl, g1, g2⟩ := h.b1 rfl
      obtain ⟨H, rfl, k1, k2⟩ := h.b2 rfl
      exact fin G H x9 x14 w h.bel g1 k1 (pt_ne (h.ne rfl rfl)) g2 k2 (h.r1 rfl) (h.r2 rfl)
    | succ n ih =>
      intro c1 c2 a1 a2 x3 x4 x9 x14 w hc hn h
      have hf : (c1 && c2 && a1 && a2) = false := by cases c1 <;> cases c2 <;> cases a1 <;> cases a2 <;> first | rfl | (simp at hn)
      rw [show n + 1 + 2 = (n + 2) + 1 by omega]
      refine wpAnyH_all (hr c1 c2 a1 a2 hc hf) ?_ ?_
      · cases c1 <;> cases c2 <;> cases a1 <;> cases a2 <;> first | (simp; done) | (simp at hf; done) | (simp at hc; done)
      intro i hi
      rcases List.mem_append.1 hi with hi | hi
      · obtain ⟨e, rfl⟩ := mem_not hi
        subst e
        refine hA _ _ _ _ _ _ h.bel fun v w' hb hv => ?_
        have h' := h.later pA pB pX hb
        refine ⟨hS _ h'.bel, ?_⟩
        rw [lA]
        refine ih _ _ _ _ _ _ _ _ _ (fun _ => rfl) (by simp at hn ⊢; omega) ⟨h'.bel, fun _ => hv, h'.r2, h'.b1, h'.b2, h'.ne⟩
      rcases List.mem_append.1 hi with hi | hi
      · obtain ⟨e, rfl⟩ := mem_yes hi
        have e1 : c1 = true ∧ c2 = false := by simpa using e
        obtain ⟨e1, e2⟩ := e1
        subst e1 e2
        refine hB _ _ _ _ _ _ h.bel fun v w' hb hv => ?_
        have h' := h.later pA pB pX hb
        refine ⟨hS _ h'.bel, ?_⟩
        rw [lB]
        refine ih _ _ _ _ _ _ _ _ _ (fun _ => rfl) (by simp at hn ⊢; omega) ⟨h'.bel, h'.r1, fun _ => hv, h'.b1, h'.b2, h'.ne⟩
      have hal : Below w.heap.size w (w.alloc ob) := (Below.refl _ _).alloc (Nat.le_refl _) _
      have h' := h.later pA pB pX hal
      rcases List.mem_append.1 hi with hi | hi
      · obtain ⟨e, rfl⟩ := mem_not hi
        subst e
        refine h3 _ _ _ _ _ _ ?_
        refine ⟨hS _ h'.bel, ?_⟩
        rw [l3]
        refine ih _ _ _ _ _ _ _ _ _ hc (by simp at hn ⊢; omega) ⟨h'.bel, h'.r1, h'.r2, fun _ => ⟨_, rfl, h.bel.size, nX _⟩, h'.b2, fun _ e => ?_⟩
        obtain ⟨H, rfl, k1, k2⟩ := h.b2 e
        exact ne_pt (Nat.ne_of_gt (lX _ _ k2))
      · obtain ⟨e, rfl⟩ := mem_not hi
        subst e
        refine h4 _ _ _ _ _ _ ?_
        refine ⟨hS _ h'.bel, ?_⟩
        rw [l4]
        refine ih _ _ _ _ _ _ _ _ _ hc (by simp at hn ⊢; omega) ⟨h'.bel, h'.r1, h'.r2, h'.b1, fun _ => ⟨_, rfl, h.bel.size, nX _⟩, fun e _ => ?_⟩
        obtain ⟨H, rfl, k1, k2⟩ := h.b1 e
        exact ne_pt (Nat.ne_of_lt (lX _ _ k2))
  intro x3 x4 x9 x14
  exact key 4 false false false false x3 x4 x9 x14 w0 (fun e => (by cases e)) rfl ⟨Below.refl _ _, fun e => (by cases e), fun e => (by cases e), fun e => (by cases e), fun e => (by cases e), fun e => (by cases e)⟩
end
end Go.Proofs.Ytagnhgefdcckoaa
namespace Go.Proofs.Ytagnhgefdcckoaa
open Go.RowKit
set_option linter.unusedVariables false
set_option maxRecDepth 100000
set_option linter.unusedSimpArgs false

/-- The least and the greatest square. -/
def sqL (d : SD) : Int × Int := if hN d = true then (0, 1) else pLo (lowN (nQ d.lo * nQ d.lo) (dQ d.lo * dQ d.lo), lowD (nQ d.lo * nQ d.lo) (dQ d.lo * dQ d.lo)) (lowN (nQ d.hi * nQ d.hi) (dQ d.hi * dQ d.hi), lowD (nQ d.hi * nQ d.hi) (dQ d.hi * dQ d.hi))
def sqH (d : SD) : Int × Int := pHi (lowN (nQ d.lo * nQ d.lo) (dQ d.lo * dQ d.lo), lowD (nQ d.lo * nQ d.lo) (dQ d.lo * dQ d.lo)) (lowN (nQ d.hi * nQ d.hi) (dQ d.hi * dQ d.hi), lowD (nQ d.hi * nQ d.hi) (dQ d.hi * dQ d.hi))
theorem sqL_yes {d : SD} (h : hN d = true) : sqL d = (0, 1) := if_pos h
theorem sqL_no {d : SD} (h : hN d = false) : sqL d = pLo (lowN (nQ d.lo * nQ d.lo) (dQ d.lo * dQ d.lo), lowD (nQ d.lo * nQ d.lo) (dQ d.lo * dQ d.lo)) (lowN (nQ d.hi * nQ d.hi) (dQ d.hi * dQ d.hi), lowD (nQ d.hi * nQ d.hi) (dQ d.hi * dQ d.hi)) := if_neg (by rw [h]; decide)
structure Sqr (p : Int × Int) : Prop where
  low : Low p.1 p.2
  nn : 0 ≤ p.1
theorem sqr_of {n e : Int} (h : 0 < e) : Sqr (lowN (n * n) (e * e), lowD (n * n) (e * e)) := by
  have he := Int.mul_pos h h
  refine ⟨low_low (Int.ne_of_gt he), ?_⟩
  have h1 := low_cross (N := n * n) he
  have h2 := lowD_pos (N := n * n) (Int.ne_of_gt he)
  have h3 : 0 ≤ n * n := by
    rcases Int.le_total 0 n with h | h
    · exact Int.mul_nonneg h h
    · exact Int.mul_nonneg_of_nonpos_of_nonpos h h
  show 0 ≤ lowN (n * n) (e * e)
  refine Int.not_lt.1 fun hc => ?_
  have h4 := Int.mul_neg_of_neg_of_pos hc he
  have h5 := Int.mul_nonneg h3 (Int.le_of_lt h2)
  omega
theorem sqr_zero {p : Int × Int} (h : Sqr p) (hz : p.1 = 0) : p = (0, 1) := by
  have h1 := h.low.co
  rw [hz] at h1
  have h2 := h.low.pos
  have h3 : p.2 = 1 := by simp at h1; omega
  exact Prod.ext hz h3
theorem pLo_mem (x y : Int × Int) : pLo x y = x ∨ pLo x y = y := by unfold pLo; split; exact .inr rfl; exact .inl rfl
theorem pHi_mem (x y : Int × Int) : pHi x y = x ∨ pHi x y = y := by unfold pHi; split; exact .inr rfl; exact .inl rfl
theorem sq_fold {x y : Int × Int} (hx : Sqr x) (hy : Sqr y) : ([x, y].foldl pLo (0, 1) = (0, 1) ∧ [x, y].foldl pHi (0, 1) = pHi x y) ∧ ([x, y, (0, 1)].foldl pLo x = (0, 1) ∧ [x, y, (0, 1)].foldl pHi x = pHi x y) := by
  have h1 : ∀ {p : Int × Int}, Sqr p → pLo (0, 1) p = (0, 1) := fun {p} h => by unfold pLo; rw [if_neg]; have := h.nn; simp; omega
  have h2 : ∀ {p : Int × Int}, Sqr p → pLo p (0, 1) = (0, 1) := fun {p} h => by
    unfold pLo
    split
    · rfl
    · rename_i hc
      have := h.nn
      exact sqr_zero h (by simp at hc; omega)
  have h3 : ∀ {p : Int × Int}, Sqr p → pHi (0, 1) p = p := fun {p} h => by
    unfold pHi
    split
    · rfl
    · rename_i hc
      have := h.nn
      exact (sqr_zero h (by simp at hc; omega)).symm
  have h4 : ∀ {p : Int × Int}, Sqr p → pHi p (0, 1) = p := fun {p} h => by unfold pHi; rw [if_neg]; have := h.nn; simp; omega
  have m1 : Sqr (pLo x y) := by rcases pLo_mem x y with e | e <;> rw [e] <;> assumption
  have m2 : Sqr (pHi x y) := by rcases pHi_mem x y with e | e <;> rw [e] <;> assumption
  refine ⟨⟨?_, ?_⟩, ⟨?_, ?_⟩⟩
  · show pLo (pLo (0, 1) x) y = _; rw [h1 hx, h1 hy]
  · show pHi (pHi (0, 1) x) y = _; rw [h3 hx]
  · show pLo (pLo (pLo x x) y) (0, 1) = _; rw [pLo_self, h2 m1]
  · show pHi (pHi (pHi x x) y) (0, 1) = _; rw [pHi_self, h4 m2]
theorem sq_pos {w : World} {v : SV} {d : SD} (h : IsGoodS w v d) : 0 < (sqL d).2 ∧ 0 < (sqH d).2 := by
  have hx := sqr_of (n := nQ d.lo) h.lo.pos
  have hy := sqr_of (n := nQ d.hi) h.hi.pos
  unfold sqL sqH
  constructor
  · split
    · decide
    · rcases pLo_mem (lowN (nQ d.lo * nQ d.lo) (dQ d.lo * dQ d.lo), lowD (nQ d.lo * nQ d.lo) (dQ d.lo * dQ d.lo)) (lowN (nQ d.hi * nQ d.hi) (dQ d.hi * dQ d.hi), lowD (nQ d.hi * nQ d.hi) (dQ d.hi * dQ d.hi)) with e | e <;> rw [e]
      · exact hx.low.pos
      · exact hy.low.pos
  · rcases pHi_mem (lowN (nQ d.lo * nQ d.lo) (dQ d.lo * dQ d.lo), lowD (nQ d.lo * nQ d.lo) (dQ d.lo * dQ d.lo)) (lowN (nQ d.hi * nQ d.hi) (dQ d.hi * dQ d.hi), lowD (nQ d.hi * nQ d.hi) (dQ d.hi * dQ d.hi)) with e | e <;> rw [e]
    · exact hx.low.pos
    · exact hy.low.pos
theorem sqBd {w : World} {q : QV} {d : QD} (h : IsGood w q d) : Bd (lowN (nQ d * nQ d) (dQ d * dQ d)) 200000 ∧ Bd (lowD (nQ d * nQ d) (dQ d * dQ d)) 200000 := ⟨(lowN_bd (h.kn.mul h.kn)).mono (by omega), (lowD_bd (h.kd.mul h.kd)).mono (by omega)⟩
/-- A box's first cell is a bool. -/
def Boxy (w : World) (G : Nat) : Prop := ∃ g, w.cell? ⟨G, 0, none⟩ = some (.bool g)
theorem Boxy.of {w : World} {G : Nat} {g : Bool} (h : w.cell? ⟨G, 0, none⟩ = some (.bool g)) : Boxy w G := ⟨g, h⟩
theorem Boxy.alloc {w : World} {G : Nat} {o : Obj} (h : Boxy w G) : Boxy (w.alloc o) G := by obtain ⟨g, h⟩ := h; exact ⟨g, ca_other h⟩
theorem Boxy.new {w : World} {g : Bool} {a b c : Value} {t : TypeId} : Boxy (w.alloc (.cells #[.bool g, a, b, c] t)) w.heap.size := ⟨g, by simp [go_sem]⟩
theorem Boxy.set0 {w : World} {G F : Nat} {g : Bool} (h : Boxy w G) : Boxy (w.setCell ⟨F, 0, none⟩ (.bool g)) G := by
  obtain ⟨b, h⟩ := h
  by_cases e : G = F
  · subst e; exact ⟨g, by simp [go_sem, h]⟩
  · exact ⟨b, cs_other h e⟩
theorem Boxy.set1 {w : World} {G F i : Nat} {x : Value} (hi : i ≠ 0) (h : Boxy w G) : Boxy (w.setCell ⟨F, i, none⟩ x) G := by
  obtain ⟨b, h⟩ := h
  by_cases e : G = F
  · subst e; exact ⟨b, by rw [← h]; simp [go_sem, h, hi, Ne.symm hi]⟩
  · exact ⟨b, cs_other h e⟩
theorem Ow.al {lo hi : Nat} {w : World} {b : BV} {V : Int} {o : Obj} (h : Ow lo hi w b V) : Ow lo hi (w.alloc o) b V := h.later ((Below.refl _ _).alloc (Nat.le_refl _) _)
theorem Ow.st {lo hi : Nat} {w : World} {b : BV} {V : Int} {G i : Nat} {x : Value} (k : Boxy w G) (h : Ow lo hi w b V) : Ow lo hi (w.setCell ⟨G, i, none⟩ x) b V := by
  obtain ⟨g, k⟩ := k
  exact h.bx ((But.refl _ _ _).set (p := ⟨G, i, none⟩) (Nat.le_refl _) (Nat.lt_succ_self _) _) k
/-- Two variables' boxes. -/
structure TwQ (wk wx : World) (G H : Nat) (x y : QV) (N D N' D' : Int) : Prop where
  a0 : wx.cell? ⟨G, 0, none⟩ = some (.bool x.num.g)
  a1 : wx.cell? ⟨G, 1, none⟩ = some (.slice x.num.a x.num.n x.num.c)
  a2 : wx.cell? ⟨G, 2, none⟩ = some (.bool x.den.g)
  a3 : wx.cell? ⟨G, 3, none⟩ = some (.slice x.den.a x.den.n x.den.c)
  b0 : wx.cell? ⟨H, 0, none⟩ = some (.bool y.num.g)
  b1 : wx.cell? ⟨H, 1, none⟩ = some (.slice y.num.a y.num.n y.num.c)
  b2 : wx.cell? ⟨H, 2, none⟩ = some (.bool y.den.g)
  b3 : wx.cell? ⟨H, 3, none⟩ = some (.slice y.den.a y.den.n y.den.c)
  i1 : IsQ wx x N D
  i2 : IsQ wx y N' D'
  bel : Below wk.heap.size wk wx
  lo : wk.heap.size ≤ G ∧ wk.heap.size ≤ H
theorem outQ_ows {w w' : World} {q : QV} {N D : Int} {xs us : List Int} {lo hi : Nat} (ho : AllOwn lo hi w' [(q.num, ⟨decide (N < 0), xs⟩), (q.den, ⟨decide (D < 0), us⟩)]) (ha : AllAr w' [(q.num, ⟨decide (N < 0), xs⟩), (q.den, ⟨decide (D < 0), us⟩)]) (h1 : Nm xs N.natAbs) (h2 : Nm us D.natAbs) : Ow lo hi w' q.num N ∧ Ow lo hi w' q.den D :=
  ⟨⟨xs, AllOwn.one (ho.own _ List.mem_cons_self), AllAr.cons ha.head (AllAr.nil _), h1⟩, ⟨us, AllOwn.one (ho.own (q.den, ⟨decide (D < 0), us⟩) (List.mem_cons_of_mem _ List.mem_cons_self)), AllAr.cons ha.tail.head (AllAr.nil _), h2⟩⟩
theorem cs_hit4 {w : World} {b o : Nat} {v : Value} (h : ∃ z, w.cell? ⟨b, o, none⟩ = some z) : (w.setCell ⟨b, o, none⟩ v).cell? ⟨b, o, none⟩ = some v := by
  obtain ⟨z, hz⟩ := h
  simp [go_sem, hz]
theorem cs_skip4 {w : World} {G i b o : Nat} {v x : Value} (h : w.cell? ⟨b, o, none⟩ = some x) (hne : b ≠ G ∨ (b = G ∧ o ≠ i)) : (w.setCell ⟨G, i, none⟩ v).cell? ⟨b, o, none⟩ = some x := by
  rcases hne with hne | ⟨rfl, hne⟩
  · exact cs_other h hne
  · rw [← h]
    simp [go_sem, h, Ne.symm hne, hne]
theorem Hs.set {w : World} {G i b o : Nat} {v : Value} (h : ∃ z, w.cell? ⟨b, o, none⟩ = some z) : ∃ z, (w.setCell ⟨G, i, none⟩ v).cell? ⟨b, o, none⟩ = some z := by
  obtain ⟨z, hz⟩ := h
  by_cases e : b = G
  · subst e
    by_cases e' : o = i
    · subst e'; exact ⟨v, cs_hit4 ⟨z, hz⟩⟩
    · exact ⟨z, cs_skip4 hz (.inr ⟨rfl, e'⟩)⟩
  · exact ⟨z, cs_other hz e⟩
theorem Hs.al {w : World} {b o : Nat} {ob : Obj} (h : ∃ z, w.cell? ⟨b, o, none⟩ = some z) : ∃ z, (w.alloc ob).cell? ⟨b, o, none⟩ = some z := by
  obtain ⟨z, hz⟩ := h
  exact ⟨z, ca_other hz⟩
theorem ca_n4 {w : World} {a b c d : Value} {t : TypeId} : (w.alloc (.cells #[a, b, c, d] t)).cell? ⟨w.heap.size, 0, none⟩ = some a ∧ (w.alloc (.cells #[a, b, c, d] t)).cell? ⟨w.heap.size, 1, none⟩ = some b ∧ (w.alloc (.cells #[a, b, c, d] t)).cell? ⟨w.heap.size, 2, none⟩ = some c ∧ (w.alloc (.cells #[a, b, c, d] t)).cell? ⟨w.heap.size, 3, none⟩ = some d := by simp [go_sem]
theorem Below.al {B : Nat} {w w' : World} {o : Obj} (h : Below B w w') (hs : B ≤ w'.heap.size) : Below B w (w'.alloc o) := h.alloc hs _
theorem keep4 {w : World} {B G : Nat} {y0 y1 y2 y3 y4 y5 y6 y7 v0 v1 v2 v3 : Value} (hne : B ≠ G) (h : w.cell? ⟨B, 0, none⟩ = some y0 ∧ w.cell? ⟨B, 1, none⟩ = some y1 ∧ w.cell? ⟨B, 2, none⟩ = some y2 ∧ w.cell? ⟨B, 3, none⟩ = some y3 ∧ w.cell? ⟨B, 4, none⟩ = some y4 ∧ w.cell? ⟨B, 5, none⟩ = some y5 ∧ w.cell? ⟨B, 6, none⟩ = some y6 ∧ w.cell? ⟨B, 7, none⟩ = some y7) : ((((w.setCell ⟨G, 0, none⟩ v0).setCell ⟨G, 1, none⟩ v1).setCell ⟨G, 2, none⟩ v2).setCell ⟨G, 3, none⟩ v3).cell? ⟨B, 0, none⟩ = some y0 ∧ ((((w.setCell ⟨G, 0, none⟩ v0).setCell ⟨G, 1, none⟩ v1).setCell ⟨G, 2, none⟩ v2).setCell ⟨G, 3, none⟩ v3).cell? ⟨B, 1, none⟩ = some y1 ∧ ((((w.setCell ⟨G, 0, none⟩ v0).setCell ⟨G, 1, none⟩ v1).setCell ⟨G, 2, none⟩ v2).setCell ⟨G, 3, none⟩ v3).cell? ⟨B, 2, none⟩ = some y2 ∧ ((((w.setCell ⟨G, 0, none⟩ v0).setCell ⟨G, 1, none⟩ v1).setCell ⟨G, 2, none⟩ v2).setCell ⟨G, 3, none⟩ v3).cell? ⟨B, 3, none⟩ = some y3 ∧ ((((w.setCell ⟨G, 0, none⟩ v0).setCell ⟨G, 1, none⟩ v1).setCell ⟨G, 2, none⟩ v2).setCell ⟨G, 3, none⟩ v3).cell? ⟨B, 4, none⟩ = some y4 ∧ ((((w.setCell ⟨G, 0, none⟩ v0).setCell ⟨G, 1, none⟩ v1).setCell ⟨G, 2, none⟩ v2).setCell ⟨G, 3, none⟩ v3).cell? ⟨B, 5, none⟩ = some y5 ∧ ((((w.setCell ⟨G, 0, none⟩ v0).setCell ⟨G, 1, none⟩ v1).setCell ⟨G, 2, none⟩ v2).setCell ⟨G, 3, none⟩ v3).cell? ⟨B, 6, none⟩ = some y6 ∧ ((((w.setCell ⟨G, 0, none⟩ v0).setCell ⟨G, 1, none⟩ v1).setCell ⟨G, 2, none⟩ v2).setCell ⟨G, 3, none⟩ v3).cell? ⟨B, 7, none⟩ = some y7 :=
  ⟨cs_other (cs_other (cs_other (cs_other h.1 hne) hne) hne) hne, cs_other (cs_other (cs_other (cs_other h.2.1 hne) hne) hne) hne, cs_other (cs_other (cs_other (cs_other h.2.2.1 hne) hne) hne) hne, cs_other (cs_other (cs_other (cs_other h.2.2.2.1 hne) hne) hne) hne, cs_other (cs_other (cs_other (cs_other h.2.2.2.2.1 hne) hne) hne) hne, cs_other (cs_other (cs_other (cs_other h.2.2.2.2.2.1 hne) hne) hne) hne, cs_other (cs_other (cs_other (cs_other h.2.2.2.2.2.2.1 hne) hne) hne) hne, cs_other (cs_other (cs_other (cs_other h.2.2.2.2.2.2.2 hne) hne) hne) hne⟩
/-- A fraction's own numbers, in memory that is younger than B. -/
def RAq (B : Nat) (N D : Int) (w : World) (u : Value) : Prop := ∃ x : QV, u = Value.agg #[Value.bool x.num.g, Value.slice x.num.a x.num.n x.num.c, Value.bool x.den.g, Value.slice x.den.a x.den.n x.den.c] ∧ Ow B w.heap.size w x.num N ∧ Ow B w.heap.size w x.den D
theorem RAq.later {B : Nat} {N D : Int} (w w' : World) (u : Value) (h : RAq B N D w u) (hb : Below w.heap.size w w') : RAq B N D w' u := by
  obtain ⟨x, e, h1, h2⟩ := h
  exact ⟨x, e, (h1.later hb).wide (Nat.le_refl _) hb.size, (h2.later hb).wide (Nat.le_refl _) hb.size⟩
theorem RAq.of {B : Nat} {N D : Int} {w' w1 : World} {x : QV} {xs us : List Int} (hB : B ≤ w'.heap.size) (o1 : AllOwn w'.heap.size w1.heap.size w1 [(x.num, ⟨decide (N < 0), xs⟩), (x.den, ⟨decide (D < 0), us⟩)]) (a1 : AllAr w1 [(x.num, ⟨decide (N < 0), xs⟩), (x.den, ⟨decide (D < 0), us⟩)]) (n1 : Nm xs N.natAbs) (m1 : Nm us D.natAbs) : RAq B N D w1 (Value.agg #[Value.bool x.num.g, Value.slice x.num.a x.num.n x.num.c, Value.bool x.den.g, Value.slice x.den.a x.den.n x.den.c]) :=
  ⟨x, rfl, (outQ_ows (w := w') o1 a1 n1 m1).1.wide hB (Nat.le_refl _), (outQ_ows (w := w') o1 a1 n1 m1).2.wide hB (Nat.le_refl _)⟩
/-- A new box. -/
structure ZBx (w : World) (G : Nat) : Prop where
  c0 : w.cell? ⟨G, 0, none⟩ = some (.bool false)
  c1 : w.cell? ⟨G, 1, none⟩ = some (.slice none 0 0)
  c2 : w.cell? ⟨G, 2, none⟩ = some (.bool false)
  c3 : w.cell? ⟨G, 3, none⟩ = some (.slice none 0 0)
  fz : ∀ o, w.frozen? ⟨G, o, none⟩ = false
theorem ZBx.later (w w' : World) (G : Nat) (h : ZBx w G) (hb : Below w.heap.size w w') : ZBx w' G :=
  ⟨cell_later hb h.c0, cell_later hb h.c1, cell_later hb h.c2, cell_later hb h.c3, fun o => frozen_later hb (World.block_lt_of_cell? _ _ h.c0) (h.fz o)⟩
theorem ZBx.new {t : TypeId} (w : World) : ZBx (w.alloc (.cells #[.bool false, .slice none 0 0, .bool false, .slice none 0 0] t)) w.heap.size :=
  ⟨ca_n4.1, ca_n4.2.1, ca_n4.2.2.1, ca_n4.2.2.2, fun o => by simp [go_sem]⟩
theorem ZBx.lt (w : World) (G : Nat) (h : ZBx w G) : G < w.heap.size := World.block_lt_of_cell? _ _ h.c0
def st4 (w : World) (G : Nat) (x : QV) : World := ((((w.setCell ⟨G, 0, none⟩ (.bool x.num.g)).setCell ⟨G, 1, none⟩ (.slice x.num.a x.num.n x.num.c)).setCell ⟨G, 2, none⟩ (.bool x.den.g)).setCell ⟨G, 3, none⟩ (.slice x.den.a x.den.n x.den.c))
theorem st4_at {w : World} {G : Nat} {x : QV} (z : ZBx w G) : (st4 w G x).cell? ⟨G, 0, none⟩ = some (.bool x.num.g) ∧ (st4 w G x).cell? ⟨G, 1, none⟩ = some (.slice x.num.a x.num.n x.num.c) ∧ (st4 w G x).cell? ⟨G, 2, none⟩ = some (.bool x.den.g) ∧ (st4 w G x).cell? ⟨G, 3, none⟩ = some (.slice x.den.a x.den.n x.den.c) := by
  unfold st4
  refine ⟨?_, ?_, ?_, ?_⟩ <;> simp [go_sem, z.c0, z.c1, z.c2, z.c3]
theorem st4_far {w : World} {G b o : Nat} {x : QV} {y : Value} (h : w.cell? ⟨b, o, none⟩ = some y) (hne : b ≠ G) : (st4 w G x).cell? ⟨b, o, none⟩ = some y := cs_other (cs_other (cs_other (cs_other h hne) hne) hne) hne
theorem st4_fz {w : World} {G b o : Nat} {x : QV} : (st4 w G x).frozen? ⟨b, o, none⟩ = w.frozen? ⟨b, o, none⟩ := by unfold st4; simp only [World.frozen?_setCell]
theorem st4_bel {w0 w : World} {B G : Nat} {x : QV} (h : Below B w0 w) (hB : B ≤ G) : Below B w0 (st4 w G x) := (((h.setCell (p := ⟨G, 0, none⟩) hB _).setCell (p := ⟨G, 1, none⟩) hB _).setCell (p := ⟨G, 2, none⟩) hB _).setCell (p := ⟨G, 3, none⟩) hB _
theorem st4_ow {lo hi : Nat} {w : World} {G : Nat} {x : QV} {b : BV} {V : Int} (z : Boxy w G) (h : Ow lo hi w b V) : Ow lo hi (st4 w G x) b V :=
  Ow.st ((z.set0.set1 (by decide)).set1 (by decide)) (Ow.st (z.set0.set1 (by decide)) (Ow.st z.set0 (Ow.st z h)))
theorem twQ_of {w0 w : World} {G H lo hi lo' hi' : Nat} {x y : QV} {N D N' D' : Int} (hb : Below w0.heap.size w0 w) (g : w0.heap.size ≤ G) (k : w0.heap.size ≤ H) (hne : G ≠ H) (zG : ZBx w G) (zH : ZBx w H) (h1 : Ow lo hi w x.num N) (h2 : Ow lo hi w x.den D) (h3 : Ow lo' hi' w y.num N') (h4 : Ow lo' hi' w y.den D') : TwQ w0 (st4 (st4 w G x) H y) G H x y N D N' D' := by
  have zH' : ZBx (st4 w G x) H := ⟨st4_far zH.c0 (Ne.symm hne), st4_far zH.c1 (Ne.symm hne), st4_far zH.c2 (Ne.symm hne), st4_far zH.c3 (Ne.symm hne), fun o => st4_fz.trans (zH.fz o)⟩
  have bG : Boxy w G := Boxy.of zG.c0
  have bH : Boxy (st4 w G x) H := Boxy.of zH'.c0
  have cG := st4_at (x := x) zG
  have cH := st4_at (x := y) zH'
  exact ⟨st4_far cG.1 hne, st4_far cG.2.1 hne, st4_far cG.2.2.1 hne, st4_far cG.2.2.2 hne, cH.1, cH.2.1, cH.2.2.1, cH.2.2.2, ⟨(st4_ow bH (st4_ow bG h1)).is, (st4_ow bH (st4_ow bG h2)).is⟩, ⟨(st4_ow bH (st4_ow bG h3)).is, (st4_ow bH (st4_ow bG h4)).is⟩, st4_bel (st4_bel hb g) k, ⟨g, k⟩⟩
theorem stoA {OPS : Array Oper} {Q : Exit → Act → World → Prop} {K : Act → World → Prop} {t0 t1 t2 t4 t5 t6 t7 t8 t10 t11 t12 t13 t14 t15 t16 t17 t18 t19 t20 t21 t22 t23 t24 t25 : Value} {G : Nat} {x : QV} {w : World} (z : ZBx w G) (hK : K { tmps := #[t0, t1, t2, Value.pointer (some ⟨G, 0, none⟩), t4, t5, t6, t7, t8, Value.agg #[Value.bool x.num.g, Value.slice x.num.a x.num.n x.num.c, Value.bool x.den.g, Value.slice x.den.a x.den.n x.den.c], t10, t11, t12, t13, t14, t15, t16, t17, t18, t19, t20, t21, t22, t23, t24, t25], defers := [] } (st4 w G x)) :
    if Region.wanted { dst := none, op := Op.store 50 (Operand.tmp 3) (Operand.tmp 9), type := 0, pos := "l3_bounds.go:162", after := #[{ on := 10, ground := Ground.data }, { on := 4, ground := Ground.data }, { on := 9, ground := Ground.chain }, { on := 0, ground := Ground.phase }, { on := 1, ground := Ground.phase }, { on := 2, ground := Ground.phase }, { on := 3, ground := Ground.phase }, { on := 4, ground := Ground.phase }, { on := 5, ground := Ground.textOnly Departure.lateStores }, { on := 6, ground := Ground.textOnly Departure.lateStores }, { on := 7, ground := Ground.textOnly Departure.lateStores }, { on := 8, ground := Ground.textOnly Departure.lateStores }, { on := 9, ground := Ground.textOnly Departure.lateStoresUnsure }, { on := 10, ground := Ground.phase }, { on := 11, ground := Ground.phase }], guard := none } (yielded OPS (Act.tmps { tmps := #[t0, t1, t2, Value.pointer (some ⟨G, 0, none⟩), t4, t5, t6, t7, t8, Value.agg #[Value.bool x.num.g, Value.slice x.num.a x.num.n x.num.c, Value.bool x.den.g, Value.slice x.den.a x.den.n x.den.c], t10, t11, t12, t13, t14, t15, t16, t17, t18, t19, t20, t21, t22, t23, t24, t25], defers := [] })) = true then Oper.wp Try.prog { dst := none, op := Op.store 50 (Operand.tmp 3) (Operand.tmp 9), type := 0, pos := "l3_bounds.go:162", after := #[{ on := 10, ground := Ground.data }, { on := 4, ground := Ground.data }, { on := 9, ground := Ground.chain }, { on := 0, ground := Ground.phase }, { on := 1, ground := Ground.phase }, { on := 2, ground := Ground.phase }, { on := 3, ground := Ground.phase }, { on := 4, ground := Ground.phase }, { on := 5, ground := Ground.textOnly Departure.lateStores }, { on := 6, ground := Ground.textOnly Departure.lateStores }, { on := 7, ground := Ground.textOnly Departure.lateStores }, { on := 8, ground := Ground.textOnly Departure.lateStores }, { on := 9, ground := Ground.textOnly Departure.lateStoresUnsure }, { on := 10, ground := Ground.phase }, { on := 11, ground := Ground.phase }], guard := none } { tmps := #[t0, t1, t2, Value.pointer (some ⟨G, 0, none⟩), t4, t5, t6, t7, t8, Value.agg #[Value.bool x.num.g, Value.slice x.num.a x.num.n x.num.c, Value.bool x.den.g, Value.slice x.den.a x.den.n x.den.c], t10, t11, t12, t13, t14, t15, t16, t17, t18, t19, t20, t21, t22, t23, t24, t25], defers := [] } w K Q else K (Act.put { tmps := #[t0, t1, t2, Value.pointer (some ⟨G, 0, none⟩), t4, t5, t6, t7, t8, Value.agg #[Value.bool x.num.g, Value.slice x.num.a x.num.n x.num.c, Value.bool x.den.g, Value.slice x.den.a x.den.n x.den.c], t10, t11, t12, t13, t14, t15, t16, t17, t18, t19, t20, t21, t22, t23, t24, t25], defers := [] } (Oper.dst { dst := none, op := Op.store 50 (Operand.tmp 3) (Operand.tmp 9), type := 0, pos := "l3_bounds.go:162", after := #[{ on := 10, ground := Ground.data }, { on := 4, ground := Ground.data }, { on := 9, ground := Ground.chain }, { on := 0, ground := Ground.phase }, { on := 1, ground := Ground.phase }, { on := 2, ground := Ground.phase }, { on := 3, ground := Ground.phase }, { on := 4, ground := Ground.phase }, { on := 5, ground := Ground.textOnly Departure.lateStores }, { on := 6, ground := Ground.textOnly Departure.lateStores }, { on := 7, ground := Ground.textOnly Departure.lateStores }, { on := 8, ground := Ground.textOnly Departure.lateStores }, { on := 9, ground := Ground.textOnly Departure.lateStoresUnsure }, { on := 10, ground := Ground.phase }, { on := 11, ground := Ground.phase }], guard := none }) undef) w := by
  have c0 := z.c0
  have c1 := z.c1
  have c2 := z.c2
  have c3 := z.c3
  have cf := z.fz
  have HK := hide hK
  unfold st4 at HK
  clear hK z
  rw [if_pos (by rfl)]
  go_simp
  exact unhide HK
theorem stoB {OPS : Array Oper} {Q : Exit → Act → World → Prop} {K : Act → World → Prop} {t0 t1 t2 t3 t5 t6 t7 t8 t9 t10 t11 t12 t13 t15 t16 t17 t18 t19 t20 t21 t22 t23 t24 t25 : Value} {G : Nat} {x : QV} {w : World} (z : ZBx w G) (hK : K { tmps := #[t0, t1, t2, t3, Value.pointer (some ⟨G, 0, none⟩), t5, t6, t7, t8, t9, t10, t11, t12, t13, Value.agg #[Value.bool x.num.g, Value.slice x.num.a x.num.n x.num.c, Value.bool x.den.g, Value.slice x.den.a x.den.n x.den.c], t15, t16, t17, t18, t19, t20, t21, t22, t23, t24, t25], defers := [] } (st4 w G x)) :
    if Region.wanted { dst := none, op := Op.store 50 (Operand.tmp 4) (Operand.tmp 14), type := 0, pos := "l3_bounds.go:162", after := #[{ on := 11, ground := Ground.data }, { on := 9, ground := Ground.data }, { on := 12, ground := Ground.chain }, { on := 0, ground := Ground.phase }, { on := 1, ground := Ground.phase }, { on := 2, ground := Ground.phase }, { on := 3, ground := Ground.phase }, { on := 4, ground := Ground.phase }, { on := 5, ground := Ground.phase }, { on := 6, ground := Ground.phase }, { on := 7, ground := Ground.phase }, { on := 8, ground := Ground.phase }, { on := 9, ground := Ground.phase }, { on := 10, ground := Ground.phase }, { on := 11, ground := Ground.phase }, { on := 12, ground := Ground.phase }], guard := none } (yielded OPS (Act.tmps { tmps := #[t0, t1, t2, t3, Value.pointer (some ⟨G, 0, none⟩), t5, t6, t7, t8, t9, t10, t11, t12, t13, Value.agg #[Value.bool x.num.g, Value.slice x.num.a x.num.n x.num.c, Value.bool x.den.g, Value.slice x.den.a x.den.n x.den.c], t15, t16, t17, t18, t19, t20, t21, t22, t23, t24, t25], defers := [] })) = true then Oper.wp Try.prog { dst := none, op := Op.store 50 (Operand.tmp 4) (Operand.tmp 14), type := 0, pos := "l3_bounds.go:162", after := #[{ on := 11, ground := Ground.data }, { on := 9, ground := Ground.data }, { on := 12, ground := Ground.chain }, { on := 0, ground := Ground.phase }, { on := 1, ground := Ground.phase }, { on := 2, ground := Ground.phase }, { on := 3, ground := Ground.phase }, { on := 4, ground := Ground.phase }, { on := 5, ground := Ground.phase }, { on := 6, ground := Ground.phase }, { on := 7, ground := Ground.phase }, { on := 8, ground := Ground.phase }, { on := 9, ground := Ground.phase }, { on := 10, ground := Ground.phase }, { on := 11, ground := Ground.phase }, { on := 12, ground := Ground.phase }], guard := none } { tmps := #[t0, t1, t2, t3, Value.pointer (some ⟨G, 0, none⟩), t5, t6, t7, t8, t9, t10, t11, t12, t13, Value.agg #[Value.bool x.num.g, Value.slice x.num.a x.num.n x.num.c, Value.bool x.den.g, Value.slice x.den.a x.den.n x.den.c], t15, t16, t17, t18, t19, t20, t21, t22, t23, t24, t25], defers := [] } w K Q else K (Act.put { tmps := #[t0, t1, t2, t3, Value.pointer (some ⟨G, 0, none⟩), t5, t6, t7, t8, t9, t10, t11, t12, t13, Value.agg #[Value.bool x.num.g, Value.slice x.num.a x.num.n x.num.c, Value.bool x.den.g, Value.slice x.den.a x.den.n x.den.c], t15, t16, t17, t18, t19, t20, t21, t22, t23, t24, t25], defers := [] } (Oper.dst { dst := none, op := Op.store 50 (Operand.tmp 4) (Operand.tmp 14), type := 0, pos := "l3_bounds.go:162", after := #[{ on := 11, ground := Ground.data }, { on := 9, ground := Ground.data }, { on := 12, ground := Ground.chain }, { on := 0, ground := Ground.phase }, { on := 1, ground := Ground.phase }, { on := 2, ground := Ground.phase }, { on := 3, ground := Ground.phase }, { on := 4, ground := Ground.phase }, { on := 5, ground := Ground.phase }, { on := 6, ground := Ground.phase }, { on := 7, ground := Ground.phase }, { on := 8, ground := Ground.phase }, { on := 9, ground := Ground.phase }, { on := 10, ground := Ground.phase }, { on := 11, ground := Ground.phase }, { on := 12, ground := Ground.phase }], guard := none }) undef) w := by
  have c0 := z.c0
  have c1 := z.c1
  have c2 := z.c2
  have c3 := z.c3
  have cf := z.fz
  have HK := hide hK
  unfold st4 at HK
  clear hK z
  rw [if_pos (by rfl)]
  go_simp
  exact unhide HK
theorem rats_2 {w : World} {r1 r2 : RQ} {t : TypeId} (h1 : RQ.Is w r1) (h2 : RQ.Is w r2) : Rats (w.alloc (.cells #[.bool r1.q.num.g, .slice r1.q.num.a r1.q.num.n r1.q.num.c, .bool r1.q.den.g, .slice r1.q.den.a r1.q.den.n r1.q.den.c, .bool r2.q.num.g, .slice r2.q.num.a r2.q.num.n r2.q.num.c, .bool r2.q.den.g, .slice r2.q.den.a r2.q.den.n r2.q.den.c] t)) w.heap.size 0 [r1, r2] := by
  have al : Below w.heap.size w (w.alloc (.cells #[.bool r1.q.num.g, .slice r1.q.num.a r1.q.num.n r1.q.num.c, .bool r1.q.den.g, .slice r1.q.den.a r1.q.den.n r1.q.den.c, .bool r2.q.num.g, .slice r2.q.num.a r2.q.num.n r2.q.num.c, .bool r2.q.den.g, .slice r2.q.den.a r2.q.den.n r2.q.den.c] t)) := (Below.refl _ _).alloc (Nat.le_refl _) _
  refine ⟨fun i hi => ?_, fun i hi => ?_, by simp⟩
  · have hi' : i < 2 := by simpa using hi
    match i, hi' with
    | 0, _ => simp [go_sem]
    | 1, _ => simp [go_sem]
  · have hi' : i < 2 := by simpa using hi
    match i, hi' with
    | 0, _ => exact ⟨h1.is.later al, h1.kn, h1.kd⟩
    | 1, _ => exact ⟨h2.is.later al, h2.kn, h2.kd⟩
theorem rats_2c {w : World} {r1 r2 : RQ} {b : Nat} (g0 : w.cell? ⟨b, 0, none⟩ = some (.bool r1.q.num.g)) (g1 : w.cell? ⟨b, 1, none⟩ = some (.slice r1.q.num.a r1.q.num.n r1.q.num.c)) (g2 : w.cell? ⟨b, 2, none⟩ = some (.bool r1.q.den.g)) (g3 : w.cell? ⟨b, 3, none⟩ = some (.slice r1.q.den.a r1.q.den.n r1.q.den.c)) (g4 : w.cell? ⟨b, 4, none⟩ = some (.bool r2.q.num.g)) (g5 : w.cell? ⟨b, 5, none⟩ = some (.slice r2.q.num.a r2.q.num.n r2.q.num.c)) (g6 : w.cell? ⟨b, 6, none⟩ = some (.bool r2.q.den.g)) (g7 : w.cell? ⟨b, 7, none⟩ = some (.slice r2.q.den.a r2.q.den.n r2.q.den.c)) (h1 : RQ.Is w r1) (h2 : RQ.Is w r2) : Rats w b 0 [r1, r2] := by
  refine ⟨fun i hi => ?_, fun i hi => ?_, World.block_lt_of_cell? _ _ g0⟩
  · have hi' : i < 2 := by simpa using hi
    match i, hi' with
    | 0, _ => exact ⟨g0, g1, g2, g3⟩
    | 1, _ => exact ⟨g4, g5, g6, g7⟩
  · have hi' : i < 2 := by simpa using hi
    match i, hi' with
    | 0, _ => exact h1
    | 1, _ => exact h2

set_option maxHeartbeats 16000000 in
theorem sqSpan_v (v : SV) (d : SD) (w : World) (j1 : IsGoodS w v d) (ha : AllAr w [(v.lo.num, d.lo.num), (v.lo.den, d.lo.den), (v.hi.num, d.hi.num), (v.hi.den, d.hi.den)]) :
    Calls Try.prog 95 #[.agg #[.bool v.lo.num.g, .slice v.lo.num.a v.lo.num.n v.lo.num.c, .bool v.lo.den.g, .slice v.lo.den.a v.lo.den.n v.lo.den.c, .bool v.hi.num.g, .slice v.hi.num.a v.hi.num.n v.hi.num.c, .bool v.hi.den.g, .slice v.hi.den.a v.hi.den.n v.hi.den.c]] w (OutS w (sqL d).1 (sqL d).2 (sqH d).1 (sqH d).2) := by
  have PD : Hid ((dQ d.lo * dQ d.lo) ≠ 0 ∧ (dQ d.hi * dQ d.hi) ≠ 0) := hide ⟨Int.ne_of_gt (Int.mul_pos j1.lo.pos j1.lo.pos), Int.ne_of_gt (Int.mul_pos j1.hi.pos j1.hi.pos)⟩
  have SR := hide (And.intro (sqr_of (n := nQ d.lo) j1.lo.pos) (sqr_of (n := nQ d.hi) j1.hi.pos))
  have BX := hide (And.intro (sqBd j1.lo) (sqBd j1.hi))
  have J1 := hide j1
  have HA := hide ha
  clear j1 ha
  go_enter Try.func95, Try.ntmps95
  go_upto_region 1 with fail
  have hb : Below w.heap.size w ((w.alloc (.cells #[.bool v.lo.num.g, .slice v.lo.num.a v.lo.num.n v.lo.num.c, .bool v.lo.den.g, .slice v.lo.den.a v.lo.den.n v.lo.den.c, .bool v.hi.num.g, .slice v.hi.num.a v.hi.num.n v.hi.num.c, .bool v.hi.den.g, .slice v.hi.den.a v.hi.den.n v.hi.den.c] 61)).alloc (.cells #[.bool false, .slice none 0 0, .bool false, .slice none 0 0, .bool false, .slice none 0 0, .bool false, .slice none 0 0] 61)) := (((Below.refl _ _).alloc (by simp) _).alloc (by simp) _)
  have k0_0 : ((w.alloc (.cells #[.bool v.lo.num.g, .slice v.lo.num.a v.lo.num.n v.lo.num.c, .bool v.lo.den.g, .slice v.lo.den.a v.lo.den.n v.lo.den.c, .bool v.hi.num.g, .slice v.hi.num.a v.hi.num.n v.hi.num.c, .bool v.hi.den.g, .slice v.hi.den.a v.hi.den.n v.hi.den.c] 61)).alloc (.cells #[.bool false, .slice none 0 0, .bool false, .slice none 0 0, .bool false, .slice none 0 0, .bool false, .slice none 0 0] 61)).cell? ⟨w.heap.size, 0, none⟩ = some (.bool v.lo.num.g) := by simp [go_sem]
  have k0_1 : ((w.alloc (.cells #[.bool v.lo.num.g, .slice v.lo.num.a v.lo.num.n v.lo.num.c, .bool v.lo.den.g, .slice v.lo.den.a v.lo.den.n v.lo.den.c, .bool v.hi.num.g, .slice v.hi.num.a v.hi.num.n v.hi.num.c, .bool v.hi.den.g, .slice v.hi.den.a v.hi.den.n v.hi.den.c] 61)).alloc (.cells #[.bool false, .slice none 0 0, .bool false, .slice none 0 0, .bool false, .slice none 0 0, .bool false, .slice none 0 0] 61)).cell? ⟨w.heap.size, 1, none⟩ = some (.slice v.lo.num.a v.lo.num.n v.lo.num.c) := by simp [go_sem]
  have k0_2 : ((w.alloc (.cells #[.bool v.lo.num.g, .slice v.lo.num.a v.lo.num.n v.lo.num.c, .bool v.lo.den.g, .slice v.lo.den.a v.lo.den.n v.lo.den.c, .bool v.hi.num.g, .slice v.hi.num.a v.hi.num.n v.hi.num.c, .bool v.hi.den.g, .slice v.hi.den.a v.hi.den.n v.hi.den.c] 61)).alloc (.cells #[.bool false, .slice none 0 0, .bool false, .slice none 0 0, .bool false, .slice none 0 0, .bool false, .slice none 0 0] 61)).cell? ⟨w.heap.size, 2, none⟩ = some (.bool v.lo.den.g) := by simp [go_sem]
  have k0_3 : ((w.alloc (.cells #[.bool v.lo.num.g, .slice v.lo.num.a v.lo.num.n v.lo.num.c, .bool v.lo.den.g, .slice v.lo.den.a v.lo.den.n v.lo.den.c, .bool v.hi.num.g, .slice v.hi.num.a v.hi.num.n v.hi.num.c, .bool v.hi.den.g, .slice v.hi.den.a v.hi.den.n v.hi.den.c] 61)).alloc (.cells #[.bool false, .slice none 0 0, .bool false, .slice none 0 0, .bool false, .slice none 0 0, .bool false, .slice none 0 0] 61)).cell? ⟨w.heap.size, 3, none⟩ = some (.slice v.lo.den.a v.lo.den.n v.lo.den.c) := by simp [go_sem]
  have k0_4 : ((w.alloc (.cells #[.bool v.lo.num.g, .slice v.lo.num.a v.lo.num.n v.lo.num.c, .bool v.lo.den.g, .slice v.lo.den.a v.lo.den.n v.lo.den.c, .bool v.hi.num.g, .slice v.hi.num.a v.hi.num.n v.hi.num.c, .bool v.hi.den.g, .slice v.hi.den.a v.hi.den.n v.hi.den.c] 61)).alloc (.cells #[.bool false, .slice none 0 0, .bool false, .slice none 0 0, .bool false, .slice none 0 0, .bool false, .slice none 0 0] 61)).cell? ⟨w.heap.size, 4, none⟩ = some (.bool v.hi.num.g) := by simp [go_sem]
  have k0_5 : ((w.alloc (.cells #[.bool v.lo.num.g, .slice v.lo.num.a v.lo.num.n v.lo.num.c, .bool v.lo.den.g, .slice v.lo.den.a v.lo.den.n v.lo.den.c, .bool v.hi.num.g, .slice v.hi.num.a v.hi.num.n v.hi.num.c, .bool v.hi.den.g, .slice v.hi.den.a v.hi.den.n v.hi.den.c] 61)).alloc (.cells #[.bool false, .slice none 0 0, .bool false, .slice none 0 0, .bool false, .slice none 0 0, .bool false, .slice none 0 0] 61)).cell? ⟨w.heap.size, 5, none⟩ = some (.slice v.hi.num.a v.hi.num.n v.hi.num.c) := by simp [go_sem]
  have k0_6 : ((w.alloc (.cells #[.bool v.lo.num.g, .slice v.lo.num.a v.lo.num.n v.lo.num.c, .bool v.lo.den.g, .slice v.lo.den.a v.lo.den.n v.lo.den.c, .bool v.hi.num.g, .slice v.hi.num.a v.hi.num.n v.hi.num.c, .bool v.hi.den.g, .slice v.hi.den.a v.hi.den.n v.hi.den.c] 61)).alloc (.cells #[.bool false, .slice none 0 0, .bool false, .slice none 0 0, .bool false, .slice none 0 0, .bool false, .slice none 0 0] 61)).cell? ⟨w.heap.size, 6, none⟩ = some (.bool v.hi.den.g) := by simp [go_sem]
  have k0_7 : ((w.alloc (.cells #[.bool v.lo.num.g, .slice v.lo.num.a v.lo.num.n v.lo.num.c, .bool v.lo.den.g, .slice v.lo.den.a v.lo.den.n v.lo.den.c, .bool v.hi.num.g, .slice v.hi.num.a v.hi.num.n v.hi.num.c, .bool v.hi.den.g, .slice v.hi.den.a v.hi.den.n v.hi.den.c] 61)).alloc (.cells #[.bool false, .slice none 0 0, .bool false, .slice none 0 0, .bool false, .slice none 0 0, .bool false, .slice none 0 0] 61)).cell? ⟨w.heap.size, 7, none⟩ = some (.slice v.hi.den.a v.hi.den.n v.hi.den.c) := by simp [go_sem]
  have k1_0 : ((w.alloc (.cells #[.bool v.lo.num.g, .slice v.lo.num.a v.lo.num.n v.lo.num.c, .bool v.lo.den.g, .slice v.lo.den.a v.lo.den.n v.lo.den.c, .bool v.hi.num.g, .slice v.hi.num.a v.hi.num.n v.hi.num.c, .bool v.hi.den.g, .slice v.hi.den.a v.hi.den.n v.hi.den.c] 61)).alloc (.cells #[.bool false, .slice none 0 0, .bool false, .slice none 0 0, .bool false, .slice none 0 0, .bool false, .slice none 0 0] 61)).cell? ⟨w.heap.size + 1, 0, none⟩ = some (.bool false) := by simp [go_sem]
  have k1_1 : ((w.alloc (.cells #[.bool v.lo.num.g, .slice v.lo.num.a v.lo.num.n v.lo.num.c, .bool v.lo.den.g, .slice v.lo.den.a v.lo.den.n v.lo.den.c, .bool v.hi.num.g, .slice v.hi.num.a v.hi.num.n v.hi.num.c, .bool v.hi.den.g, .slice v.hi.den.a v.hi.den.n v.hi.den.c] 61)).alloc (.cells #[.bool false, .slice none 0 0, .bool false, .slice none 0 0, .bool false, .slice none 0 0, .bool false, .slice none 0 0] 61)).cell? ⟨w.heap.size + 1, 1, none⟩ = some (.slice none 0 0) := by simp [go_sem]
  have k1_2 : ((w.alloc (.cells #[.bool v.lo.num.g, .slice v.lo.num.a v.lo.num.n v.lo.num.c, .bool v.lo.den.g, .slice v.lo.den.a v.lo.den.n v.lo.den.c, .bool v.hi.num.g, .slice v.hi.num.a v.hi.num.n v.hi.num.c, .bool v.hi.den.g, .slice v.hi.den.a v.hi.den.n v.hi.den.c] 61)).alloc (.cells #[.bool false, .slice none 0 0, .bool false, .slice none 0 0, .bool false, .slice none 0 0, .bool false, .slice none 0 0] 61)).cell? ⟨w.heap.size + 1, 2, none⟩ = some (.bool false) := by simp [go_sem]
  have k1_3 : ((w.alloc (.cells #[.bool v.lo.num.g, .slice v.lo.num.a v.lo.num.n v.lo.num.c, .bool v.lo.den.g, .slice v.lo.den.a v.lo.den.n v.lo.den.c, .bool v.hi.num.g, .slice v.hi.num.a v.hi.num.n v.hi.num.c, .bool v.hi.den.g, .slice v.hi.den.a v.hi.den.n v.hi.den.c] 61)).alloc (.cells #[.bool false, .slice none 0 0, .bool false, .slice none 0 0, .bool false, .slice none 0 0, .bool false, .slice none 0 0] 61)).cell? ⟨w.heap.size + 1, 3, none⟩ = some (.slice none 0 0) := by simp [go_sem]
  have k1_4 : ((w.alloc (.cells #[.bool v.lo.num.g, .slice v.lo.num.a v.lo.num.n v.lo.num.c, .bool v.lo.den.g, .slice v.lo.den.a v.lo.den.n v.lo.den.c, .bool v.hi.num.g, .slice v.hi.num.a v.hi.num.n v.hi.num.c, .bool v.hi.den.g, .slice v.hi.den.a v.hi.den.n v.hi.den.c] 61)).alloc (.cells #[.bool false, .slice none 0 0, .bool false, .slice none 0 0, .bool false, .slice none 0 0, .bool false, .slice none 0 0] 61)).cell? ⟨w.heap.size + 1, 4, none⟩ = some (.bool false) := by simp [go_sem]
  have k1_5 : ((w.alloc (.cells #[.bool v.lo.num.g, .slice v.lo.num.a v.lo.num.n v.lo.num.c, .bool v.lo.den.g, .slice v.lo.den.a v.lo.den.n v.lo.den.c, .bool v.hi.num.g, .slice v.hi.num.a v.hi.num.n v.hi.num.c, .bool v.hi.den.g, .slice v.hi.den.a v.hi.den.n v.hi.den.c] 61)).alloc (.cells #[.bool false, .slice none 0 0, .bool false, .slice none 0 0, .bool false, .slice none 0 0, .bool false, .slice none 0 0] 61)).cell? ⟨w.heap.size + 1, 5, none⟩ = some (.slice none 0 0) := by simp [go_sem]
  have k1_6 : ((w.alloc (.cells #[.bool v.lo.num.g, .slice v.lo.num.a v.lo.num.n v.lo.num.c, .bool v.lo.den.g, .slice v.lo.den.a v.lo.den.n v.lo.den.c, .bool v.hi.num.g, .slice v.hi.num.a v.hi.num.n v.hi.num.c, .bool v.hi.den.g, .slice v.hi.den.a v.hi.den.n v.hi.den.c] 61)).alloc (.cells #[.bool false, .slice none 0 0, .bool false, .slice none 0 0, .bool false, .slice none 0 0, .bool false, .slice none 0 0] 61)).cell? ⟨w.heap.size + 1, 6, none⟩ = some (.bool false) := by simp [go_sem]
  have k1_7 : ((w.alloc (.cells #[.bool v.lo.num.g, .slice v.lo.num.a v.lo.num.n v.lo.num.c, .bool v.lo.den.g, .slice v.lo.den.a v.lo.den.n v.lo.den.c, .bool v.hi.num.g, .slice v.hi.num.a v.hi.num.n v.hi.num.c, .bool v.hi.den.g, .slice v.hi.den.a v.hi.den.n v.hi.den.c] 61)).alloc (.cells #[.bool false, .slice none 0 0, .bool false, .slice none 0 0, .bool false, .slice none 0 0, .bool false, .slice none 0 0] 61)).cell? ⟨w.heap.size + 1, 7, none⟩ = some (.slice none 0 0) := by simp [go_sem]
  have z1 : ∀ o, ((w.alloc (.cells #[.bool v.lo.num.g, .slice v.lo.num.a v.lo.num.n v.lo.num.c, .bool v.lo.den.g, .slice v.lo.den.a v.lo.den.n v.lo.den.c, .bool v.hi.num.g, .slice v.hi.num.a v.hi.num.n v.hi.num.c, .bool v.hi.den.g, .slice v.hi.den.a v.hi.den.n v.hi.den.c] 61)).alloc (.cells #[.bool false, .slice none 0 0, .bool false, .slice none 0 0, .bool false, .slice none 0 0, .bool false, .slice none 0 0] 61)).frozen? ⟨w.heap.size + 1, o, none⟩ = false := fun o => by simp [go_sem]
  have S1 := hide ((unhide J1).later hb)
  have szw0 : w.heap.size + 2 ≤ ((w.alloc (.cells #[.bool v.lo.num.g, .slice v.lo.num.a v.lo.num.n v.lo.num.c, .bool v.lo.den.g, .slice v.lo.den.a v.lo.den.n v.lo.den.c, .bool v.hi.num.g, .slice v.hi.num.a v.hi.num.n v.hi.num.c, .bool v.hi.den.g, .slice v.hi.den.a v.hi.den.n v.hi.den.c] 61)).alloc (.cells #[.bool false, .slice none 0 0, .bool false, .slice none 0 0, .bool false, .slice none 0 0, .bool false, .slice none 0 0] 61)).heap.size := by simp
  have HB := hide hb
  clear hb
  generalize ((w.alloc (.cells #[.bool v.lo.num.g, .slice v.lo.num.a v.lo.num.n v.lo.num.c, .bool v.lo.den.g, .slice v.lo.den.a v.lo.den.n v.lo.den.c, .bool v.hi.num.g, .slice v.hi.num.a v.hi.num.n v.hi.num.c, .bool v.hi.den.g, .slice v.hi.den.a v.hi.den.n v.hi.den.c] 61)).alloc (.cells #[.bool false, .slice none 0 0, .bool false, .slice none 0 0, .bool false, .slice none 0 0, .bool false, .slice none 0 0] 61)) = w0 at *
  go_cut [3, 4] (fun p q wx => ∃ (G H : Nat) (x y : QV), p = .pointer (some ⟨G, 0, none⟩) ∧ q = .pointer (some ⟨H, 0, none⟩) ∧ Hid (TwQ w0 wx G H x y (lowN (nQ d.lo * nQ d.lo) (dQ d.lo * dQ d.lo)) (lowD (nQ d.lo * nQ d.lo) (dQ d.lo * dQ d.lo)) (lowN (nQ d.hi * nQ d.hi) (dQ d.hi * dQ d.hi)) (lowD (nQ d.hi * nQ d.hi) (dQ d.hi * dQ d.hi))))
  case first =>
    as_aux_lemma =>
      refine wp_region_held_drew (S := fun w' => w'.cell? ⟨w.heap.size, 0, none⟩ = some (.bool v.lo.num.g) ∧ w'.cell? ⟨w.heap.size, 1, none⟩ = some (.slice v.lo.num.a v.lo.num.n v.lo.num.c) ∧ w'.cell? ⟨w.heap.size, 2, none⟩ = some (.bool v.lo.den.g) ∧ w'.cell? ⟨w.heap.size, 3, none⟩ = some (.slice v.lo.den.a v.lo.den.n v.lo.den.c) ∧ w'.cell? ⟨w.heap.size, 4, none⟩ = some (.bool v.hi.num.g) ∧ w'.cell? ⟨w.heap.size, 5, none⟩ = some (.slice v.hi.num.a v.hi.num.n v.hi.num.c) ∧ w'.cell? ⟨w.heap.size, 6, none⟩ = some (.bool v.hi.den.g) ∧ w'.cell? ⟨w.heap.size, 7, none⟩ = some (.slice v.hi.den.a v.hi.den.n v.hi.den.c)) (by kernel_rfl) ⟨k0_0, k0_1, k0_2, k0_3, k0_4, k0_5, k0_6, k0_7⟩ (fun hHeld => ?_)
      change wpAnyH _ _ _ _ _ 14 #[false, false, false, false, false, false, false, false, false, false, false, false, false, false] _ _
      refine wpAnyH_take (i := 0) (oi := { dst := some 5, op := Op.fieldAddr 61 (Operand.tmp 1) 0, type := 0, pos := "l3_bounds.go:162", after := #[], guard := none }) (v := ?_) rfl (by kernel_rfl) (by kernel_rfl) (by kernel_rfl) (fun _ _ _ h => h) (Or.inl ⟨by rfl, ?hy0⟩) (by assumption) ?tl0
      case hy0 => intro w hSw; (try dsimp only at hSw); go_simp; (try with_reducible rfl)
      simp only [Act.put, List.setIfInBounds_toArray, List.set_cons_zero, List.set_cons_succ]
      refine wpAnyH_take (i := 1) (oi := { dst := some 6, op := Op.load 50 (Operand.tmp 5), type := 50, pos := "l3_bounds.go:162", after := #[{ on := 0, ground := Ground.data }], guard := none }) (v := ?_) rfl (by kernel_rfl) (by kernel_rfl) (by kernel_rfl) (fun _ _ _ h => h) (Or.inl ⟨by rfl, ?hy1⟩) (by assumption) ?tl1
      case hy1 => intro w hSw; (try dsimp only at hSw); go_simp; (try with_reducible rfl)
      simp only [Act.put, List.setIfInBounds_toArray, List.set_cons_zero, List.set_cons_succ]
      refine wpAnyH_take (i := 2) (oi := { dst := some 7, op := Op.fieldAddr 61 (Operand.tmp 1) 0, type := 0, pos := "l3_bounds.go:162", after := #[], guard := none }) (v := ?_) rfl (by kernel_rfl) (by kernel_rfl) (by kernel_rfl) (fun _ _ _ h => h) (Or.inl ⟨by rfl, ?hy2⟩) (by assumption) ?tl2
      case hy2 => intro w hSw; (try dsimp only at hSw); go_simp; (try with_reducible rfl)
      simp only [Act.put, List.setIfInBounds_toArray, List.set_cons_zero, List.set_cons_succ]
      refine wpAnyH_take (i := 3) (oi := { dst := some 8, op := Op.load 50 (Operand.tmp 7), type := 50, pos := "l3_bounds.go:162", after := #[{ on := 2, ground := Ground.data }], guard := none }) (v := ?_) rfl (by kernel_rfl) (by kernel_rfl) (by kernel_rfl) (fun _ _ _ h => h) (Or.inl ⟨by rfl, ?hy3⟩) (by assumption) ?tl3
      case hy3 => intro w hSw; (try dsimp only at hSw); go_simp; (try with_reducible rfl)
      simp only [Act.put, List.setIfInBounds_toArray, List.set_cons_zero, List.set_cons_succ]
      refine wpAnyH_take (i := 5) (oi := { dst := some 10, op := Op.fieldAddr 61 (Operand.tmp 1) 1, type := 0, pos := "l3_bounds.go:162", after := #[], guard := none }) (v := ?_) rfl (by kernel_rfl) (by kernel_rfl) (by kernel_rfl) (fun _ _ _ h => h) (Or.inl ⟨by rfl, ?hy5⟩) (by assumption) ?tl5
      case hy5 => intro w hSw; (try dsimp only at hSw); go_simp; (try with_reducible rfl)
      simp only [Act.put, List.setIfInBounds_toArray, List.set_cons_zero, List.set_cons_succ]
      refine wpAnyH_take (i := 6) (oi := { dst := some 11, op := Op.load 50 (Operand.tmp 10), type := 50, pos := "l3_bounds.go:162", after := #[{ on := 5, ground := Ground.data }], guard := none }) (v := ?_) rfl (by kernel_rfl) (by kernel_rfl) (by kernel_rfl) (fun _ _ _ h => h) (Or.inl ⟨by rfl, ?hy6⟩) (by assumption) ?tl6
      case hy6 => intro w hSw; (try dsimp only at hSw); go_simp; (try with_reducible rfl)
      simp only [Act.put, List.setIfInBounds_toArray, List.set_cons_zero, List.set_cons_succ]
      refine wpAnyH_take (i := 7) (oi := { dst := some 12, op := Op.fieldAddr 61 (Operand.tmp 1) 1, type := 0, pos := "l3_bounds.go:162", after := #[], guard := none }) (v := ?_) rfl (by kernel_rfl) (by kernel_rfl) (by kernel_rfl) (fun _ _ _ h => h) (Or.inl ⟨by rfl, ?hy7⟩) (by assumption) ?tl7
      case hy7 => intro w hSw; (try dsimp only at hSw); go_simp; (try with_reducible rfl)
      simp only [Act.put, List.setIfInBounds_toArray, List.set_cons_zero, List.set_cons_succ]
      refine wpAnyH_take (i := 8) (oi := { dst := some 13, op := Op.load 50 (Operand.tmp 12), type := 50, pos := "l3_bounds.go:162", after := #[{ on := 7, ground := Ground.data }], guard := none }) (v := ?_) rfl (by kernel_rfl) (by kernel_rfl) (by kernel_rfl) (fun _ _ _ h => h) (Or.inl ⟨by rfl, ?hy8⟩) (by assumption) ?tl8
      case hy8 => intro w hSw; (try dsimp only at hSw); go_simp; (try with_reducible rfl)
      simp only [Act.put, List.setIfInBounds_toArray, List.set_cons_zero, List.set_cons_succ]
      have ZS : Hid (∀ w', Below w0.drew.heap.size w0.drew w' → w'.cell? ⟨w.heap.size, 0, none⟩ = some (.bool v.lo.num.g) ∧ w'.cell? ⟨w.heap.size, 1, none⟩ = some (.slice v.lo.num.a v.lo.num.n v.lo.num.c) ∧ w'.cell? ⟨w.heap.size, 2, none⟩ = some (.bool v.lo.den.g) ∧ w'.cell? ⟨w.heap.size, 3, none⟩ = some (.slice v.lo.den.a v.lo.den.n v.lo.den.c) ∧ w'.cell? ⟨w.heap.size, 4, none⟩ = some (.bool v.hi.num.g) ∧ w'.cell? ⟨w.heap.size, 5, none⟩ = some (.slice v.hi.num.a v.hi.num.n v.hi.num.c) ∧ w'.cell? ⟨w.heap.size, 6, none⟩ = some (.bool v.hi.den.g) ∧ w'.cell? ⟨w.heap.size, 7, none⟩ = some (.slice v.hi.den.a v.hi.den.n v.hi.den.c)) := hide (fun w' hb => ⟨cell_later (below_of_drew hb) k0_0, cell_later (below_of_drew hb) k0_1, cell_later (below_of_drew hb) k0_2, cell_later (below_of_drew hb) k0_3, cell_later (below_of_drew hb) k0_4, cell_later (below_of_drew hb) k0_5, cell_later (below_of_drew hb) k0_6, cell_later (below_of_drew hb) k0_7⟩)
      refine two_boxes (RA := RAq w0.heap.size (lowN (nQ d.lo * nQ d.lo) (dQ d.lo * dQ d.lo)) (lowD (nQ d.lo * nQ d.lo) (dQ d.lo * dQ d.lo))) (RB := RAq w0.heap.size (lowN (nQ d.hi * nQ d.hi) (dQ d.hi * dQ d.hi)) (lowD (nQ d.hi * nQ d.hi) (dQ d.hi * dQ d.hi))) (Bx := ZBx) (fun x3 x4 x9 x14 => { tmps := #[Value.agg #[Value.bool v.lo.num.g, Value.slice v.lo.num.a v.lo.num.n v.lo.num.c, Value.bool v.lo.den.g, Value.slice v.lo.den.a v.lo.den.n v.lo.den.c, Value.bool v.hi.num.g, Value.slice v.hi.num.a v.hi.num.n v.hi.num.c, Value.bool v.hi.den.g, Value.slice v.hi.den.a v.hi.den.n v.hi.den.c], Value.pointer (some ⟨w.heap.size, 0, none⟩), Value.pointer (some ⟨w.heap.size + 1, 0, none⟩), x3, x4, Value.pointer (some ⟨w.heap.size, 0, none⟩), Value.agg #[Value.bool v.lo.num.g, Value.slice v.lo.num.a v.lo.num.n v.lo.num.c, Value.bool v.lo.den.g, Value.slice v.lo.den.a v.lo.den.n v.lo.den.c], Value.pointer (some ⟨w.heap.size, 0, none⟩), Value.agg #[Value.bool v.lo.num.g, Value.slice v.lo.num.a v.lo.num.n v.lo.num.c, Value.bool v.lo.den.g, Value.slice v.lo.den.a v.lo.den.n v.lo.den.c], x9, Value.pointer (some ⟨w.heap.size, 4, none⟩), Value.agg #[Value.bool v.hi.num.g, Value.slice v.hi.num.a v.hi.num.n v.hi.num.c, Value.bool v.hi.den.g, Value.slice v.hi.den.a v.hi.den.n v.hi.den.c], Value.pointer (some ⟨w.heap.size, 4, none⟩), Value.agg #[Value.bool v.hi.num.g, Value.slice v.hi.num.a v.hi.num.n v.hi.num.c, Value.bool v.hi.den.g, Value.slice v.hi.den.a v.hi.den.n v.hi.den.c], x14, undef, undef, undef, undef, undef, undef, undef, undef, undef, undef, undef], defers := [] }) (fun c1 c2 a1 a2 => #[true, true, true, true, c1, true, true, true, true, c2, a1, a2, false, false]) 4 9 10 11 (.cells #[.bool false, .slice none 0 0, .bool false, .slice none 0 0] 50) (unhide ZS) RAq.later RAq.later ZBx.later ZBx.new ZBx.lt ?hr (fun _ _ _ _ => rfl) (fun _ _ _ _ => rfl) (fun _ _ _ _ => rfl) (fun _ _ _ _ => rfl) ?hA ?hB ?h3 ?h4 ?fin undef undef undef undef
      case hr =>
        intro c1 c2 a1 a2 hc hf
        cases c1 <;> cases c2 <;> cases a1 <;> cases a2 <;> first | (simp at hc; done) | (simp at hf; done) | kernel_rfl
      case hA =>
        intro x3 x4 x9 x14 w' K hb hK
        refine wpOp_step (o := { dst := some 9, op := Op.call { callee := Callee.value (Operand.func 132), args := #[Operand.tmp 6, Operand.tmp 8], argTypes := #[50, 50] }, type := 50, pos := "l3_bounds.go:162", after := #[{ on := 1, ground := Ground.data }, { on := 3, ground := Ground.data }], guard := none }) rfl (fun K' hK' => ?_)
        have HK : Shut (∀ u w1, Below w'.heap.size w' w1 → RAq w0.heap.size (lowN (nQ d.lo * nQ d.lo) (dQ d.lo * dQ d.lo)) (lowD (nQ d.lo * nQ d.lo) (dQ d.lo * dQ d.lo)) w1 u → K' ({ tmps := #[Value.agg #[Value.bool v.lo.num.g, Value.slice v.lo.num.a v.lo.num.n v.lo.num.c, Value.bool v.lo.den.g, Value.slice v.lo.den.a v.lo.den.n v.lo.den.c, Value.bool v.hi.num.g, Value.slice v.hi.num.a v.hi.num.n v.hi.num.c, Value.bool v.hi.den.g, Value.slice v.hi.den.a v.hi.den.n v.hi.den.c], Value.pointer (some ⟨w.heap.size, 0, none⟩), Value.pointer (some ⟨w.heap.size + 1, 0, none⟩), x3, x4, Value.pointer (some ⟨w.heap.size, 0, none⟩), Value.agg #[Value.bool v.lo.num.g, Value.slice v.lo.num.a v.lo.num.n v.lo.num.c, Value.bool v.lo.den.g, Value.slice v.lo.den.a v.lo.den.n v.lo.den.c], Value.pointer (some ⟨w.heap.size, 0, none⟩), Value.agg #[Value.bool v.lo.num.g, Value.slice v.lo.num.a v.lo.num.n v.lo.num.c, Value.bool v.lo.den.g, Value.slice v.lo.den.a v.lo.den.n v.lo.den.c], u, Value.pointer (some ⟨w.heap.size, 4, none⟩), Value.agg #[Value.bool v.hi.num.g, Value.slice v.hi.num.a v.hi.num.n v.hi.num.c, Value.bool v.hi.den.g, Value.slice v.hi.den.a v.hi.den.n v.hi.den.c], Value.pointer (some ⟨w.heap.size, 4, none⟩), Value.agg #[Value.bool v.hi.num.g, Value.slice v.hi.num.a v.hi.num.n v.hi.num.c, Value.bool v.hi.den.g, Value.slice v.hi.den.a v.hi.den.n v.hi.den.c], x14, undef, undef, undef, undef, undef, undef, undef, undef, undef, undef, undef], defers := [] }) w1) := fun u w1 h1 h2 => hK' _ _ (hK u w1 h1 h2)
        have IS := hide ((unhide S1).lo.is.later (below_of_drew hb))
        have sz : w0.heap.size ≤ w'.heap.size := hb.size
        clear hK hK' hb
        go_simp
        refine (mulQI v.lo v.lo (nQ d.lo) (dQ d.lo) (nQ d.lo) (dQ d.lo) w' (unhide IS) (unhide IS) ((unhide PD).1) ((unhide J1).lo.kn.mono (by omega)) ((unhide J1).lo.kd.mono (by omega)) ((unhide J1).lo.kn.mono (by omega)) ((unhide J1).lo.kd.mono (by omega))).mono ?_
        rintro e w1 ⟨x, lx, mx, rfl, hb1, o1, a1, n1, m1⟩
        exact HK.out _ _ hb1 (RAq.of (x := x) sz o1 a1 n1 m1)
      case hB =>
        intro x3 x4 x9 x14 w' K hb hK
        refine wpOp_step (o := { dst := some 14, op := Op.call { callee := Callee.value (Operand.func 132), args := #[Operand.tmp 11, Operand.tmp 13], argTypes := #[50, 50] }, type := 50, pos := "l3_bounds.go:162", after := #[{ on := 6, ground := Ground.data }, { on := 8, ground := Ground.data }, { on := 4, ground := Ground.chain }], guard := none }) rfl (fun K' hK' => ?_)
        have HK : Shut (∀ u w1, Below w'.heap.size w' w1 → RAq w0.heap.size (lowN (nQ d.hi * nQ d.hi) (dQ d.hi * dQ d.hi)) (lowD (nQ d.hi * nQ d.hi) (dQ d.hi * dQ d.hi)) w1 u → K' ({ tmps := #[Value.agg #[Value.bool v.lo.num.g, Value.slice v.lo.num.a v.lo.num.n v.lo.num.c, Value.bool v.lo.den.g, Value.slice v.lo.den.a v.lo.den.n v.lo.den.c, Value.bool v.hi.num.g, Value.slice v.hi.num.a v.hi.num.n v.hi.num.c, Value.bool v.hi.den.g, Value.slice v.hi.den.a v.hi.den.n v.hi.den.c], Value.pointer (some ⟨w.heap.size, 0, none⟩), Value.pointer (some ⟨w.heap.size + 1, 0, none⟩), x3, x4, Value.pointer (some ⟨w.heap.size, 0, none⟩), Value.agg #[Value.bool v.lo.num.g, Value.slice v.lo.num.a v.lo.num.n v.lo.num.c, Value.bool v.lo.den.g, Value.slice v.lo.den.a v.lo.den.n v.lo.den.c], Value.pointer (some ⟨w.heap.size, 0, none⟩), Value.agg #[Value.bool v.lo.num.g, Value.slice v.lo.num.a v.lo.num.n v.lo.num.c, Value.bool v.lo.den.g, Value.slice v.lo.den.a v.lo.den.n v.lo.den.c], x9, Value.pointer (some ⟨w.heap.size, 4, none⟩), Value.agg #[Value.bool v.hi.num.g, Value.slice v.hi.num.a v.hi.num.n v.hi.num.c, Value.bool v.hi.den.g, Value.slice v.hi.den.a v.hi.den.n v.hi.den.c], Value.pointer (some ⟨w.heap.size, 4, none⟩), Value.agg #[Value.bool v.hi.num.g, Value.slice v.hi.num.a v.hi.num.n v.hi.num.c, Value.bool v.hi.den.g, Value.slice v.hi.den.a v.hi.den.n v.hi.den.c], u, undef, undef, undef, undef, undef, undef, undef, undef, undef, undef, undef], defers := [] }) w1) := fun u w1 h1 h2 => hK' _ _ (hK u w1 h1 h2)
        have IS := hide ((unhide S1).hi.is.later (below_of_drew hb))
        have sz : w0.heap.size ≤ w'.heap.size := hb.size
        clear hK hK' hb
        go_simp
        refine (mulQI v.hi v.hi (nQ d.hi) (dQ d.hi) (nQ d.hi) (dQ d.hi) w' (unhide IS) (unhide IS) ((unhide PD).2) ((unhide J1).hi.kn.mono (by omega)) ((unhide J1).hi.kd.mono (by omega)) ((unhide J1).hi.kn.mono (by omega)) ((unhide J1).hi.kd.mono (by omega))).mono ?_
        rintro e w1 ⟨x, lx, mx, rfl, hb1, o1, a1, n1, m1⟩
        exact HK.out _ _ hb1 (RAq.of (x := x) sz o1 a1 n1 m1)
      case h3 =>
        intro x3 x4 x9 x14 w' K hK
        refine wpOp_step (o := { dst := some 3, op := Op.alloc 50, type := 0, pos := "l3_bounds.go:162", after := #[], guard := none }) rfl (fun K' hK' => ?_)
        have HK := hide (hK' _ _ hK)
        clear hK hK'
        go_simp
        exact unhide HK
      case h4 =>
        intro x3 x4 x9 x14 w' K hK
        refine wpOp_step (o := { dst := some 4, op := Op.alloc 50, type := 0, pos := "l3_bounds.go:162", after := #[], guard := none }) rfl (fun K' hK' => ?_)
        have HK := hide (hK' _ _ hK)
        clear hK hK'
        go_simp
        exact unhide HK
      case fin =>
        intro G H u1 u2 w' hb g1 k1 hne zG zH rA rB
        obtain ⟨x1, rfl, p1, p2⟩ := rA
        obtain ⟨x2, rfl, p3, p4⟩ := rB
        have FT := hide (twQ_of (w0 := w0) (below_of_drew hb) g1 k1 hne zG zH p1 p2 p3 p4)
        have neG : w.heap.size ≠ G := by have h1 : w0.heap.size ≤ G := g1; omega
        have neH : w.heap.size ≠ H := by have h1 : w0.heap.size ≤ H := k1; omega
        have ks := unhide ZS w' hb
        have KS2 : Hid ((fun w' => w'.cell? ⟨w.heap.size, 0, none⟩ = some (.bool v.lo.num.g) ∧ w'.cell? ⟨w.heap.size, 1, none⟩ = some (.slice v.lo.num.a v.lo.num.n v.lo.num.c) ∧ w'.cell? ⟨w.heap.size, 2, none⟩ = some (.bool v.lo.den.g) ∧ w'.cell? ⟨w.heap.size, 3, none⟩ = some (.slice v.lo.den.a v.lo.den.n v.lo.den.c) ∧ w'.cell? ⟨w.heap.size, 4, none⟩ = some (.bool v.hi.num.g) ∧ w'.cell? ⟨w.heap.size, 5, none⟩ = some (.slice v.hi.num.a v.hi.num.n v.hi.num.c) ∧ w'.cell? ⟨w.heap.size, 6, none⟩ = some (.bool v.hi.den.g) ∧ w'.cell? ⟨w.heap.size, 7, none⟩ = some (.slice v.hi.den.a v.hi.den.n v.hi.den.c)) ((((w'.setCell ⟨G, 0, none⟩ (.bool x1.num.g)).setCell ⟨G, 1, none⟩ (.slice x1.num.a x1.num.n x1.num.c)).setCell ⟨G, 2, none⟩ (.bool x1.den.g)).setCell ⟨G, 3, none⟩ (.slice x1.den.a x1.den.n x1.den.c))) := hide (keep4 neG ks)
        have KS3 : Hid ((fun w' => w'.cell? ⟨w.heap.size, 0, none⟩ = some (.bool v.lo.num.g) ∧ w'.cell? ⟨w.heap.size, 1, none⟩ = some (.slice v.lo.num.a v.lo.num.n v.lo.num.c) ∧ w'.cell? ⟨w.heap.size, 2, none⟩ = some (.bool v.lo.den.g) ∧ w'.cell? ⟨w.heap.size, 3, none⟩ = some (.slice v.lo.den.a v.lo.den.n v.lo.den.c) ∧ w'.cell? ⟨w.heap.size, 4, none⟩ = some (.bool v.hi.num.g) ∧ w'.cell? ⟨w.heap.size, 5, none⟩ = some (.slice v.hi.num.a v.hi.num.n v.hi.num.c) ∧ w'.cell? ⟨w.heap.size, 6, none⟩ = some (.bool v.hi.den.g) ∧ w'.cell? ⟨w.heap.size, 7, none⟩ = some (.slice v.hi.den.a v.hi.den.n v.hi.den.c)) ((((((((w'.setCell ⟨G, 0, none⟩ (.bool x1.num.g)).setCell ⟨G, 1, none⟩ (.slice x1.num.a x1.num.n x1.num.c)).setCell ⟨G, 2, none⟩ (.bool x1.den.g)).setCell ⟨G, 3, none⟩ (.slice x1.den.a x1.den.n x1.den.c)).setCell ⟨H, 0, none⟩ (.bool x2.num.g)).setCell ⟨H, 1, none⟩ (.slice x2.num.a x2.num.n x2.num.c)).setCell ⟨H, 2, none⟩ (.bool x2.den.g)).setCell ⟨H, 3, none⟩ (.slice x2.den.a x2.den.n x2.den.c))) := hide (keep4 neH (keep4 neG ks))
        have zH2 : ZBx (st4 w' G x1) H := ⟨st4_far zH.c0 (Ne.symm hne), st4_far zH.c1 (Ne.symm hne), st4_far zH.c2 (Ne.symm hne), st4_far zH.c3 (Ne.symm hne), fun o => st4_fz.trans (zH.fz o)⟩
        clear p1 p2 p3 p4 hb ZS ks
        unfold pt
        refine wpAnyH_ready (rs := [12]) (by kernel_rfl) (by simp) (AllReadyH.cons (o := { dst := none, op := Op.store 50 (Operand.tmp 3) (Operand.tmp 9), type := 0, pos := "l3_bounds.go:162", after := #[{ on := 10, ground := Ground.data }, { on := 4, ground := Ground.data }, { on := 9, ground := Ground.chain }, { on := 0, ground := Ground.phase }, { on := 1, ground := Ground.phase }, { on := 2, ground := Ground.phase }, { on := 3, ground := Ground.phase }, { on := 4, ground := Ground.phase }, { on := 5, ground := Ground.textOnly Departure.lateStores }, { on := 6, ground := Ground.textOnly Departure.lateStores }, { on := 7, ground := Ground.textOnly Departure.lateStores }, { on := 8, ground := Ground.textOnly Departure.lateStores }, { on := 9, ground := Ground.textOnly Departure.lateStoresUnsure }, { on := 10, ground := Ground.phase }, { on := 11, ground := Ground.phase }], guard := none }) rfl (fun K hK => stoA zG (hK.out _ _ (unhide KS2) (fun _ => ?_))) AllReadyH.nil)
        clear hK zG KS2
        simp only [List.setIfInBounds_toArray, List.set_cons_zero, List.set_cons_succ]
        refine wpAnyH_ready (rs := [13]) (by kernel_rfl) (by simp) (AllReadyH.cons (o := { dst := none, op := Op.store 50 (Operand.tmp 4) (Operand.tmp 14), type := 0, pos := "l3_bounds.go:162", after := #[{ on := 11, ground := Ground.data }, { on := 9, ground := Ground.data }, { on := 12, ground := Ground.chain }, { on := 0, ground := Ground.phase }, { on := 1, ground := Ground.phase }, { on := 2, ground := Ground.phase }, { on := 3, ground := Ground.phase }, { on := 4, ground := Ground.phase }, { on := 5, ground := Ground.phase }, { on := 6, ground := Ground.phase }, { on := 7, ground := Ground.phase }, { on := 8, ground := Ground.phase }, { on := 9, ground := Ground.phase }, { on := 10, ground := Ground.phase }, { on := 11, ground := Ground.phase }, { on := 12, ground := Ground.phase }], guard := none }) rfl (fun K hK => stoB zH2 (hK.out _ _ (unhide KS3) (fun _ => ?_))) AllReadyH.nil)
        clear hK zH2 KS3
        simp only [List.setIfInBounds_toArray, List.set_cons_zero, List.set_cons_succ]
        refine wpAnyH_done (by kernel_rfl) ?_ _
        go_wp2_with fail
        go_meet
        exact ⟨G, H, x1, x2, rfl, rfl, FT⟩
  case rest =>
    obtain ⟨G, H, x, y, rfl, rfl, HT⟩ := hcut
    have hb := (unhide HT).bel
    have loG := (unhide HT).lo.1
    have loH := (unhide HT).lo.2
    have szT := hb.size
    replace z1 := fun o => frozen_later hb (World.block_lt_of_cell? _ _ k1_0) (z1 o)
    replace k0_0 := cell_later hb k0_0
    replace k0_1 := cell_later hb k0_1
    replace k0_2 := cell_later hb k0_2
    replace k0_3 := cell_later hb k0_3
    replace k0_4 := cell_later hb k0_4
    replace k0_5 := cell_later hb k0_5
    replace k0_6 := cell_later hb k0_6
    replace k0_7 := cell_later hb k0_7
    replace k1_0 := cell_later hb k1_0
    replace k1_1 := cell_later hb k1_1
    replace k1_2 := cell_later hb k1_2
    replace k1_3 := cell_later hb k1_3
    replace k1_4 := cell_later hb k1_4
    replace k1_5 := cell_later hb k1_5
    replace k1_6 := cell_later hb k1_6
    replace k1_7 := cell_later hb k1_7
    replace S1 := hide ((unhide S1).later hb)
    have IX := hide ((unhide HT).i1)
    have IY := hide ((unhide HT).i2)
    replace HB := hide (below_on (unhide HB) hb)
    clear hb
    have k2_0 := (unhide HT).a0
    have k3_0 := (unhide HT).b0
    have k2_1 := (unhide HT).a1
    have k3_1 := (unhide HT).b1
    have k2_2 := (unhide HT).a2
    have k3_2 := (unhide HT).b2
    have k2_3 := (unhide HT).a3
    have k3_3 := (unhide HT).b3
    clear HT
    have AW := hide ((unhide HA).later (unhide HB))
    cases hn : hN d
    · have HNI := hide (fun w1 (k : AllAr w1 [(v.lo.num, d.lo.num), (v.lo.den, d.lo.den), (v.hi.num, d.hi.num), (v.hi.den, d.hi.den)]) => hasN_v v d w1 k)
      rw [hn] at HNI
      have HN := hide hn
      clear hn
      go_wp2_with fail
      refine (unhide HNI _ (unhide AW)).mono ?_
      rintro e w5 ⟨rfl, hb⟩
      have s5 := hb.size
      replace z1 := fun o => frozen_later hb (World.block_lt_of_cell? _ _ k1_0) (z1 o)
      replace k1_0 := cell_later hb k1_0
      replace k1_1 := cell_later hb k1_1
      replace k1_2 := cell_later hb k1_2
      replace k1_3 := cell_later hb k1_3
      replace k1_4 := cell_later hb k1_4
      replace k1_5 := cell_later hb k1_5
      replace k1_6 := cell_later hb k1_6
      replace k1_7 := cell_later hb k1_7
      replace k2_0 := cell_later hb k2_0
      replace k2_1 := cell_later hb k2_1
      replace k2_2 := cell_later hb k2_2
      replace k2_3 := cell_later hb k2_3
      replace k3_0 := cell_later hb k3_0
      replace k3_1 := cell_later hb k3_1
      replace k3_2 := cell_later hb k3_2
      replace k3_3 := cell_later hb k3_3
      clear k0_0 k0_1 k0_2 k0_3 k0_4 k0_5 k0_6 k0_7
      replace S1 := hide ((unhide S1).later hb)
      replace IX := hide ((unhide IX).later hb)
      replace IY := hide ((unhide IY).later hb)
      replace AW := hide ((unhide AW).later hb)
      replace HB := hide (below_on (unhide HB) hb)
      clear hb
      have k1_0u : (w5.alloc (.cells #[.bool y.num.g, .slice y.num.a y.num.n y.num.c, .bool y.den.g, .slice y.den.a y.den.n y.den.c] 50)).cell? ⟨w.heap.size + 1, 0, none⟩ = some (.bool false) := (ca_other k1_0)
      have k1_1u : (w5.alloc (.cells #[.bool y.num.g, .slice y.num.a y.num.n y.num.c, .bool y.den.g, .slice y.den.a y.den.n y.den.c] 50)).cell? ⟨w.heap.size + 1, 1, none⟩ = some (.slice none 0 0) := (ca_other k1_1)
      have k1_2u : (w5.alloc (.cells #[.bool y.num.g, .slice y.num.a y.num.n y.num.c, .bool y.den.g, .slice y.den.a y.den.n y.den.c] 50)).cell? ⟨w.heap.size + 1, 2, none⟩ = some (.bool false) := (ca_other k1_2)
      have k1_3u : (w5.alloc (.cells #[.bool y.num.g, .slice y.num.a y.num.n y.num.c, .bool y.den.g, .slice y.den.a y.den.n y.den.c] 50)).cell? ⟨w.heap.size + 1, 3, none⟩ = some (.slice none 0 0) := (ca_other k1_3)
      have k1_4u : (w5.alloc (.cells #[.bool y.num.g, .slice y.num.a y.num.n y.num.c, .bool y.den.g, .slice y.den.a y.den.n y.den.c] 50)).cell? ⟨w.heap.size + 1, 4, none⟩ = some (.bool false) := (ca_other k1_4)
      have k1_5u : (w5.alloc (.cells #[.bool y.num.g, .slice y.num.a y.num.n y.num.c, .bool y.den.g, .slice y.den.a y.den.n y.den.c] 50)).cell? ⟨w.heap.size + 1, 5, none⟩ = some (.slice none 0 0) := (ca_other k1_5)
      have k1_6u : (w5.alloc (.cells #[.bool y.num.g, .slice y.num.a y.num.n y.num.c, .bool y.den.g, .slice y.den.a y.den.n y.den.c] 50)).cell? ⟨w.heap.size + 1, 6, none⟩ = some (.bool false) := (ca_other k1_6)
      have k1_7u : (w5.alloc (.cells #[.bool y.num.g, .slice y.num.a y.num.n y.num.c, .bool y.den.g, .slice y.den.a y.den.n y.den.c] 50)).cell? ⟨w.heap.size + 1, 7, none⟩ = some (.slice none 0 0) := (ca_other k1_7)
      have k2_0u : (w5.alloc (.cells #[.bool y.num.g, .slice y.num.a y.num.n y.num.c, .bool y.den.g, .slice y.den.a y.den.n y.den.c] 50)).cell? ⟨G, 0, none⟩ = some (.bool x.num.g) := (ca_other k2_0)
      have k3_0u : (w5.alloc (.cells #[.bool y.num.g, .slice y.num.a y.num.n y.num.c, .bool y.den.g, .slice y.den.a y.den.n y.den.c] 50)).cell? ⟨H, 0, none⟩ = some (.bool y.num.g) := (ca_other k3_0)
      have k2_1u : (w5.alloc (.cells #[.bool y.num.g, .slice y.num.a y.num.n y.num.c, .bool y.den.g, .slice y.den.a y.den.n y.den.c] 50)).cell? ⟨G, 1, none⟩ = some (.slice x.num.a x.num.n x.num.c) := (ca_other k2_1)
      have k3_1u : (w5.alloc (.cells #[.bool y.num.g, .slice y.num.a y.num.n y.num.c, .bool y.den.g, .slice y.den.a y.den.n y.den.c] 50)).cell? ⟨H, 1, none⟩ = some (.slice y.num.a y.num.n y.num.c) := (ca_other k3_1)
      have k2_2u : (w5.alloc (.cells #[.bool y.num.g, .slice y.num.a y.num.n y.num.c, .bool y.den.g, .slice y.den.a y.den.n y.den.c] 50)).cell? ⟨G, 2, none⟩ = some (.bool x.den.g) := (ca_other k2_2)
      have k3_2u : (w5.alloc (.cells #[.bool y.num.g, .slice y.num.a y.num.n y.num.c, .bool y.den.g, .slice y.den.a y.den.n y.den.c] 50)).cell? ⟨H, 2, none⟩ = some (.bool y.den.g) := (ca_other k3_2)
      have k2_3u : (w5.alloc (.cells #[.bool y.num.g, .slice y.num.a y.num.n y.num.c, .bool y.den.g, .slice y.den.a y.den.n y.den.c] 50)).cell? ⟨G, 3, none⟩ = some (.slice x.den.a x.den.n x.den.c) := (ca_other k2_3)
      have k3_3u : (w5.alloc (.cells #[.bool y.num.g, .slice y.num.a y.num.n y.num.c, .bool y.den.g, .slice y.den.a y.den.n y.den.c] 50)).cell? ⟨H, 3, none⟩ = some (.slice y.den.a y.den.n y.den.c) := (ca_other k3_3)
      go_wp2_with fail
      refine (leastI ⟨x, (lowN (nQ d.lo * nQ d.lo) (dQ d.lo * dQ d.lo)), (lowD (nQ d.lo * nQ d.lo) (dQ d.lo * dQ d.lo))⟩ w5.heap.size 0 1 1 [⟨y, (lowN (nQ d.hi * nQ d.hi) (dQ d.hi * dQ d.hi)), (lowD (nQ d.hi * nQ d.hi) (dQ d.hi * dQ d.hi))⟩] _ ⟨(unhide IX).later ((Below.refl _ _).alloc (Nat.le_refl _) _), (unhide BX).1.1, (unhide BX).1.2⟩ (rats_one (r := ⟨y, (lowN (nQ d.hi * nQ d.hi) (dQ d.hi * dQ d.hi)), (lowD (nQ d.hi * nQ d.hi) (dQ d.hi * dQ d.hi))⟩) ⟨unhide IY, (unhide BX).2.1, (unhide BX).2.2⟩) rfl (by omega)).mono ?_
      rintro e w7 ⟨rs, xs1, us1, ys1, vs1, rfl, hb, or, ar, n1, n2, n3, n4⟩
      clear k1_0u k1_1u k1_2u k1_3u k1_4u k1_5u k1_6u k1_7u k2_0u k3_0u k2_1u k3_1u k2_2u k3_2u k2_3u k3_3u
      have OR := hide (And.intro or (And.intro ar (And.intro n1 (And.intro n2 (And.intro n3 n4)))))
      have s7 := hb.size; (try simp at s7)
      have hbx := ba (hb)
      replace z1 := fun o => frozen_later hbx (World.block_lt_of_cell? _ _ k1_0) (z1 o)
      replace k1_0 := cell_later hbx k1_0
      replace k1_1 := cell_later hbx k1_1
      replace k1_2 := cell_later hbx k1_2
      replace k1_3 := cell_later hbx k1_3
      replace k1_4 := cell_later hbx k1_4
      replace k1_5 := cell_later hbx k1_5
      replace k1_6 := cell_later hbx k1_6
      replace k1_7 := cell_later hbx k1_7
      clear k2_0 k3_0 k2_1 k3_1 k2_2 k3_2 k2_3 k3_3
      replace S1 := hide ((unhide S1).later hbx)
      replace IX := hide ((unhide IX).later hbx)
      replace IY := hide ((unhide IY).later hbx)
      replace AW := hide ((unhide AW).later hbx)
      replace HB := hide (below_on (unhide HB) hbx)
      clear hbx hb
      clear or ar n1 n2 n3 n4
      have LT : Hid ((List.foldl stLo (⟨x, (lowN (nQ d.lo * nQ d.lo) (dQ d.lo * dQ d.lo)), (lowD (nQ d.lo * nQ d.lo) (dQ d.lo * dQ d.lo))⟩ : RQ) [⟨y, (lowN (nQ d.hi * nQ d.hi) (dQ d.hi * dQ d.hi)), (lowD (nQ d.hi * nQ d.hi) (dQ d.hi * dQ d.hi))⟩]).N = (sqL d).1 ∧ (List.foldl stLo (⟨x, (lowN (nQ d.lo * nQ d.lo) (dQ d.lo * dQ d.lo)), (lowD (nQ d.lo * nQ d.lo) (dQ d.lo * dQ d.lo))⟩ : RQ) [⟨y, (lowN (nQ d.hi * nQ d.hi) (dQ d.hi * dQ d.hi)), (lowD (nQ d.hi * nQ d.hi) (dQ d.hi * dQ d.hi))⟩]).D = (sqL d).2 ∧ (List.foldl stHi (⟨x, (lowN (nQ d.lo * nQ d.lo) (dQ d.lo * dQ d.lo)), (lowD (nQ d.lo * nQ d.lo) (dQ d.lo * dQ d.lo))⟩ : RQ) [⟨y, (lowN (nQ d.hi * nQ d.hi) (dQ d.hi * dQ d.hi)), (lowD (nQ d.hi * nQ d.hi) (dQ d.hi * dQ d.hi))⟩]).N = (sqH d).1 ∧ (List.foldl stHi (⟨x, (lowN (nQ d.lo * nQ d.lo) (dQ d.lo * dQ d.lo)), (lowD (nQ d.lo * nQ d.lo) (dQ d.lo * dQ d.lo))⟩ : RQ) [⟨y, (lowN (nQ d.hi * nQ d.hi) (dQ d.hi * dQ d.hi)), (lowD (nQ d.hi * nQ d.hi) (dQ d.hi * dQ d.hi))⟩]).D = (sqH d).2) := hide (by
        have f1 : (List.foldl stLo (⟨x, (lowN (nQ d.lo * nQ d.lo) (dQ d.lo * dQ d.lo)), (lowD (nQ d.lo * nQ d.lo) (dQ d.lo * dQ d.lo))⟩ : RQ) [⟨y, (lowN (nQ d.hi * nQ d.hi) (dQ d.hi * dQ d.hi)), (lowD (nQ d.hi * nQ d.hi) (dQ d.hi * dQ d.hi))⟩]).p = sqL d := (fold_lo ([⟨y, (lowN (nQ d.hi * nQ d.hi) (dQ d.hi * dQ d.hi)), (lowD (nQ d.hi * nQ d.hi) (dQ d.hi * dQ d.hi))⟩] : List RQ) (⟨x, (lowN (nQ d.lo * nQ d.lo) (dQ d.lo * dQ d.lo)), (lowD (nQ d.lo * nQ d.lo) (dQ d.lo * dQ d.lo))⟩ : RQ)).trans ((sqL_no (unhide HN)).symm)
        have f2 : (List.foldl stHi (⟨x, (lowN (nQ d.lo * nQ d.lo) (dQ d.lo * dQ d.lo)), (lowD (nQ d.lo * nQ d.lo) (dQ d.lo * dQ d.lo))⟩ : RQ) [⟨y, (lowN (nQ d.hi * nQ d.hi) (dQ d.hi * dQ d.hi)), (lowD (nQ d.hi * nQ d.hi) (dQ d.hi * dQ d.hi))⟩]).p = sqH d := (fold_hi ([⟨y, (lowN (nQ d.hi * nQ d.hi) (dQ d.hi * dQ d.hi)), (lowD (nQ d.hi * nQ d.hi) (dQ d.hi * dQ d.hi))⟩] : List RQ) (⟨x, (lowN (nQ d.lo * nQ d.lo) (dQ d.lo * dQ d.lo)), (lowD (nQ d.lo * nQ d.lo) (dQ d.lo * dQ d.lo))⟩ : RQ)).trans (rfl)
        exact ⟨congrArg Prod.fst f1, congrArg Prod.snd f1, congrArg Prod.fst f2, congrArg Prod.snd f2⟩)
      go_wp2
      refine bodyPost_ret (v := .agg #[.bool rs.lo.num.g, .slice rs.lo.num.a rs.lo.num.n rs.lo.num.c, .bool rs.lo.den.g, .slice rs.lo.den.a rs.lo.den.n rs.lo.den.c, .bool rs.hi.num.g, .slice rs.hi.num.a rs.hi.num.n rs.hi.num.c, .bool rs.hi.den.g, .slice rs.hi.den.a rs.hi.den.n rs.hi.den.c]) (by simp [results, Try.results95, go_sem, k1_0, k1_1, k1_2, k1_3, k1_4, k1_5, k1_6, k1_7]) rfl ?_
      have oo := (unhide OR).1
      have aa := (unhide OR).2.1
      have nn := (unhide OR).2.2
      rw [(unhide LT).1, (unhide LT).2.1, (unhide LT).2.2.1, (unhide LT).2.2.2] at oo aa nn
      exact outS_fin (v := rs) (R := w.heap.size + 1) (by omega) (unhide HB) (metS_but (w5 := w7) (v := rs) (G := w.heap.size + 1)) (oo.wide (by first | omega | (simp; omega)) (Nat.le_refl _)) aa nn.1 nn.2.1 nn.2.2.1 nn.2.2.2
    · have HNI := hide (fun w1 (k : AllAr w1 [(v.lo.num, d.lo.num), (v.lo.den, d.lo.den), (v.hi.num, d.hi.num), (v.hi.den, d.hi.den)]) => hasN_v v d w1 k)
      rw [hn] at HNI
      have HN := hide hn
      clear hn
      go_wp2_with fail
      refine (unhide HNI _ (unhide AW)).mono ?_
      rintro e w5 ⟨rfl, hb⟩
      have s5 := hb.size
      replace z1 := fun o => frozen_later hb (World.block_lt_of_cell? _ _ k1_0) (z1 o)
      replace k1_0 := cell_later hb k1_0
      replace k1_1 := cell_later hb k1_1
      replace k1_2 := cell_later hb k1_2
      replace k1_3 := cell_later hb k1_3
      replace k1_4 := cell_later hb k1_4
      replace k1_5 := cell_later hb k1_5
      replace k1_6 := cell_later hb k1_6
      replace k1_7 := cell_later hb k1_7
      replace k2_0 := cell_later hb k2_0
      replace k2_1 := cell_later hb k2_1
      replace k2_2 := cell_later hb k2_2
      replace k2_3 := cell_later hb k2_3
      replace k3_0 := cell_later hb k3_0
      replace k3_1 := cell_later hb k3_1
      replace k3_2 := cell_later hb k3_2
      replace k3_3 := cell_later hb k3_3
      clear k0_0 k0_1 k0_2 k0_3 k0_4 k0_5 k0_6 k0_7
      replace S1 := hide ((unhide S1).later hb)
      replace IX := hide ((unhide IX).later hb)
      replace IY := hide ((unhide IY).later hb)
      replace AW := hide ((unhide AW).later hb)
      replace HB := hide (below_on (unhide HB) hb)
      clear hb
      go_upto_region 3 with fail
      have ne2_1 : G ≠ w.heap.size + 1 := by omega
      have ne3_1 : H ≠ w.heap.size + 1 := by omega
      go_region_held3 (fun w' => w'.cell? ⟨G, 0, none⟩ = some (.bool x.num.g) ∧ w'.cell? ⟨G, 1, none⟩ = some (.slice x.num.a x.num.n x.num.c) ∧ w'.cell? ⟨G, 2, none⟩ = some (.bool x.den.g) ∧ w'.cell? ⟨G, 3, none⟩ = some (.slice x.den.a x.den.n x.den.c) ∧ w'.cell? ⟨H, 0, none⟩ = some (.bool y.num.g) ∧ w'.cell? ⟨H, 1, none⟩ = some (.slice y.num.a y.num.n y.num.c) ∧ w'.cell? ⟨H, 2, none⟩ = some (.bool y.den.g) ∧ w'.cell? ⟨H, 3, none⟩ = some (.slice y.den.a y.den.n y.den.c)) (with_reducible (first | exact ⟨k2_0, k2_1, k2_2, k2_3, k3_0, k3_1, k3_2, k3_3⟩ | exact ⟨cd_other k2_0, cd_other k2_1, cd_other k2_2, cd_other k2_3, cd_other k3_0, cd_other k3_1, cd_other k3_2, cd_other k3_3⟩ | exact ⟨ca_other k2_0, ca_other k2_1, ca_other k2_2, ca_other k2_3, ca_other k3_0, ca_other k3_1, ca_other k3_2, ca_other k3_3⟩ | exact ⟨ca_other k2_0, ca_other k2_1, ca_other k2_2, ca_other k2_3, ca_other k3_0, ca_other k3_1, ca_other k3_2, ca_other k3_3⟩ | exact ⟨cd_other (ca_other k2_0), cd_other (ca_other k2_1), cd_other (ca_other k2_2), cd_other (ca_other k2_3), cd_other (ca_other k3_0), cd_other (ca_other k3_1), cd_other (ca_other k3_2), cd_other (ca_other k3_3)⟩ | exact ⟨cs_other (cs_other (cs_other (cs_other (cs_other (cs_other (cs_other (cs_other (k2_0) (by omega)) (by omega)) (by omega)) (by omega)) (by omega)) (by omega)) (by omega)) (by omega), cs_other (cs_other (cs_other (cs_other (cs_other (cs_other (cs_other (cs_other (k2_1) (by omega)) (by omega)) (by omega)) (by omega)) (by omega)) (by omega)) (by omega)) (by omega), cs_other (cs_other (cs_other (cs_other (cs_other (cs_other (cs_other (cs_other (k2_2) (by omega)) (by omega)) (by omega)) (by omega)) (by omega)) (by omega)) (by omega)) (by omega), cs_other (cs_other (cs_other (cs_other (cs_other (cs_other (cs_other (cs_other (k2_3) (by omega)) (by omega)) (by omega)) (by omega)) (by omega)) (by omega)) (by omega)) (by omega), cs_other (cs_other (cs_other (cs_other (cs_other (cs_other (cs_other (cs_other (k3_0) (by omega)) (by omega)) (by omega)) (by omega)) (by omega)) (by omega)) (by omega)) (by omega), cs_other (cs_other (cs_other (cs_other (cs_other (cs_other (cs_other (cs_other (k3_1) (by omega)) (by omega)) (by omega)) (by omega)) (by omega)) (by omega)) (by omega)) (by omega), cs_other (cs_other (cs_other (cs_other (cs_other (cs_other (cs_other (cs_other (k3_2) (by omega)) (by omega)) (by omega)) (by omega)) (by omega)) (by omega)) (by omega)) (by omega), cs_other (cs_other (cs_other (cs_other (cs_other (cs_other (cs_other (cs_other (k3_3) (by omega)) (by omega)) (by omega)) (by omega)) (by omega)) (by omega)) (by omega)) (by omega)⟩ | exact ⟨cs_other (cs_other (cs_other (cs_other (cs_other (cs_other (cs_other (cs_other (k2_0) ne2_1) ne2_1) ne2_1) ne2_1) ne2_1) ne2_1) ne2_1) ne2_1, cs_other (cs_other (cs_other (cs_other (cs_other (cs_other (cs_other (cs_other (k2_1) ne2_1) ne2_1) ne2_1) ne2_1) ne2_1) ne2_1) ne2_1) ne2_1, cs_other (cs_other (cs_other (cs_other (cs_other (cs_other (cs_other (cs_other (k2_2) ne2_1) ne2_1) ne2_1) ne2_1) ne2_1) ne2_1) ne2_1) ne2_1, cs_other (cs_other (cs_other (cs_other (cs_other (cs_other (cs_other (cs_other (k2_3) ne2_1) ne2_1) ne2_1) ne2_1) ne2_1) ne2_1) ne2_1) ne2_1, cs_other (cs_other (cs_other (cs_other (cs_other (cs_other (cs_other (cs_other (k3_0) ne3_1) ne3_1) ne3_1) ne3_1) ne3_1) ne3_1) ne3_1) ne3_1, cs_other (cs_other (cs_other (cs_other (cs_other (cs_other (cs_other (cs_other (k3_1) ne3_1) ne3_1) ne3_1) ne3_1) ne3_1) ne3_1) ne3_1) ne3_1, cs_other (cs_other (cs_other (cs_other (cs_other (cs_other (cs_other (cs_other (k3_2) ne3_1) ne3_1) ne3_1) ne3_1) ne3_1) ne3_1) ne3_1) ne3_1, cs_other (cs_other (cs_other (cs_other (cs_other (cs_other (cs_other (cs_other (k3_3) ne3_1) ne3_1) ne3_1) ne3_1) ne3_1) ne3_1) ne3_1) ne3_1⟩ | fail))
        (first
        | (go_at_call 135; refine (wholeI 0 _ (by omega) (by omega)).mono ?_; rintro e w6 ⟨z, lz1, lz2, rfl, hb, oz, az, m1, m2⟩; have hbx : Below w5.heap.size w5 w6 := (by first | exact below_of_drew hb | exact bad hb); have szw6 := hbx.size; replace z1 := fun o => frozen_later hbx (World.block_lt_of_cell? _ _ k1_0) (z1 o); replace k1_0 := cell_later hbx k1_0; replace k1_1 := cell_later hbx k1_1; replace k1_2 := cell_later hbx k1_2; replace k1_3 := cell_later hbx k1_3; replace k1_4 := cell_later hbx k1_4; replace k1_5 := cell_later hbx k1_5; replace k1_6 := cell_later hbx k1_6; replace k1_7 := cell_later hbx k1_7; replace k2_0 := cell_later hbx k2_0; replace k3_0 := cell_later hbx k3_0; replace k2_1 := cell_later hbx k2_1; replace k3_1 := cell_later hbx k3_1; replace k2_2 := cell_later hbx k2_2; replace k3_2 := cell_later hbx k3_2; replace k2_3 := cell_later hbx k2_3; replace k3_3 := cell_later hbx k3_3; replace S1 := hide ((unhide S1).later hbx); replace IX := hide ((unhide IX).later hbx); replace IY := hide ((unhide IY).later hbx); replace AW := hide ((unhide AW).later hbx); have IZ := hide (isQ_of az m1 m2); (try (replace gf := fun o => frozen_later hbx (World.block_lt_of_cell? _ _ g0) (gf o); replace g0 := cell_later hbx g0; replace g1 := cell_later hbx g1; replace g2 := cell_later hbx g2; replace g3 := cell_later hbx g3; replace g4 := cell_later hbx g4; replace g5 := cell_later hbx g5; replace g6 := cell_later hbx g6; replace g7 := cell_later hbx g7)); (try (refine cutP (p := w6.cell? ⟨w5.heap.size, 0, none⟩ = some (.bool x.num.g) ∧ w6.cell? ⟨w5.heap.size, 1, none⟩ = some (.slice x.num.a x.num.n x.num.c) ∧ w6.cell? ⟨w5.heap.size, 2, none⟩ = some (.bool x.den.g) ∧ w6.cell? ⟨w5.heap.size, 3, none⟩ = some (.slice x.den.a x.den.n x.den.c) ∧ w6.cell? ⟨w5.heap.size, 4, none⟩ = some (.bool y.num.g) ∧ w6.cell? ⟨w5.heap.size, 5, none⟩ = some (.slice y.num.a y.num.n y.num.c) ∧ w6.cell? ⟨w5.heap.size, 6, none⟩ = some (.bool y.den.g) ∧ w6.cell? ⟨w5.heap.size, 7, none⟩ = some (.slice y.den.a y.den.n y.den.c) ∧ ∀ o, w6.frozen? ⟨w5.heap.size, o, none⟩ = false) ?_ (fun dd => ?_); (focus (refine ⟨cell_later hb ?_, cell_later hb ?_, cell_later hb ?_, cell_later hb ?_, cell_later hb ?_, cell_later hb ?_, cell_later hb ?_, cell_later hb ?_, fun o => frozen_later hb ?_ ?_⟩ <;> (simp [go_sem]; done))); obtain ⟨g0, g1, g2, g3, g4, g5, g6, g7, gf⟩ := dd)); have zz := hb.size; (try simp at zz); have HBr := hide hbx; clear hbx hb oz az m1 m2)
        | (have chk := g0; clear chk; go_at_call 134; refine (leastI ⟨z, 0, 1⟩ w5.heap.size 0 2 2 [⟨x, (lowN (nQ d.lo * nQ d.lo) (dQ d.lo * dQ d.lo)), (lowD (nQ d.lo * nQ d.lo) (dQ d.lo * dQ d.lo))⟩, ⟨y, (lowN (nQ d.hi * nQ d.hi) (dQ d.hi * dQ d.hi)), (lowD (nQ d.hi * nQ d.hi) (dQ d.hi * dQ d.hi))⟩] _ ?_ ?_ rfl (by omega)).mono ?_; (exact ⟨(unhide IZ), (show Bd 0 1 from ⟨by decide⟩).mono (by omega), (show Bd 1 1 from ⟨by decide⟩).mono (by omega)⟩); (exact rats_2c (r1 := ⟨x, (lowN (nQ d.lo * nQ d.lo) (dQ d.lo * dQ d.lo)), (lowD (nQ d.lo * nQ d.lo) (dQ d.lo * dQ d.lo))⟩) (r2 := ⟨y, (lowN (nQ d.hi * nQ d.hi) (dQ d.hi * dQ d.hi)), (lowD (nQ d.hi * nQ d.hi) (dQ d.hi * dQ d.hi))⟩) g0 g1 g2 g3 g4 g5 g6 g7 ⟨unhide IX, (unhide BX).1.1, (unhide BX).1.2⟩ ⟨unhide IY, (unhide BX).2.1, (unhide BX).2.2⟩); rintro e w7 ⟨rs, xs1, us1, ys1, vs1, rfl, hb, or, ar, n1, n2, n3, n4⟩; have hbx : Below w6.heap.size w6 w7 := (by first | exact hb | exact ba hb); have szw7 := hbx.size; replace z1 := fun o => frozen_later hbx (World.block_lt_of_cell? _ _ k1_0) (z1 o); replace k1_0 := cell_later hbx k1_0; replace k1_1 := cell_later hbx k1_1; replace k1_2 := cell_later hbx k1_2; replace k1_3 := cell_later hbx k1_3; replace k1_4 := cell_later hbx k1_4; replace k1_5 := cell_later hbx k1_5; replace k1_6 := cell_later hbx k1_6; replace k1_7 := cell_later hbx k1_7; replace k2_0 := cell_later hbx k2_0; replace k3_0 := cell_later hbx k3_0; replace k2_1 := cell_later hbx k2_1; replace k3_1 := cell_later hbx k3_1; replace k2_2 := cell_later hbx k2_2; replace k3_2 := cell_later hbx k3_2; replace k2_3 := cell_later hbx k2_3; replace k3_3 := cell_later hbx k3_3; replace S1 := hide ((unhide S1).later hbx); replace IX := hide ((unhide IX).later hbx); replace IY := hide ((unhide IY).later hbx); replace AW := hide ((unhide AW).later hbx); replace IZ := hide ((unhide IZ).later hbx); have OR := hide (And.intro (or.wide (lo' := w6.heap.size) (by first | exact Nat.le_refl _ | (simp; done) | (simp; omega)) (Nat.le_refl _)) (And.intro ar (And.intro n1 (And.intro n2 (And.intro n3 n4))))); (try (replace gf := fun o => frozen_later hbx (World.block_lt_of_cell? _ _ g0) (gf o); replace g0 := cell_later hbx g0; replace g1 := cell_later hbx g1; replace g2 := cell_later hbx g2; replace g3 := cell_later hbx g3; replace g4 := cell_later hbx g4; replace g5 := cell_later hbx g5; replace g6 := cell_later hbx g6; replace g7 := cell_later hbx g7)); (try (refine cutP (p := w7.cell? ⟨w6.heap.size, 0, none⟩ = some (.bool x.num.g) ∧ w7.cell? ⟨w6.heap.size, 1, none⟩ = some (.slice x.num.a x.num.n x.num.c) ∧ w7.cell? ⟨w6.heap.size, 2, none⟩ = some (.bool x.den.g) ∧ w7.cell? ⟨w6.heap.size, 3, none⟩ = some (.slice x.den.a x.den.n x.den.c) ∧ w7.cell? ⟨w6.heap.size, 4, none⟩ = some (.bool y.num.g) ∧ w7.cell? ⟨w6.heap.size, 5, none⟩ = some (.slice y.num.a y.num.n y.num.c) ∧ w7.cell? ⟨w6.heap.size, 6, none⟩ = some (.bool y.den.g) ∧ w7.cell? ⟨w6.heap.size, 7, none⟩ = some (.slice y.den.a y.den.n y.den.c) ∧ ∀ o, w7.frozen? ⟨w6.heap.size, o, none⟩ = false) ?_ (fun dd => ?_); (focus (refine ⟨cell_later hb ?_, cell_later hb ?_, cell_later hb ?_, cell_later hb ?_, cell_later hb ?_, cell_later hb ?_, cell_later hb ?_, cell_later hb ?_, fun o => frozen_later hb ?_ ?_⟩ <;> (simp [go_sem]; done))); obtain ⟨g0, g1, g2, g3, g4, g5, g6, g7, gf⟩ := dd)); have zz := hb.size; (try simp at zz); have HBr := hide (below_on (unhide HBr) hbx); clear hbx hb or ar n1 n2 n3 n4)
        | (go_at_call 134; refine (leastI ⟨z, 0, 1⟩ w6.heap.size 0 2 2 [⟨x, (lowN (nQ d.lo * nQ d.lo) (dQ d.lo * dQ d.lo)), (lowD (nQ d.lo * nQ d.lo) (dQ d.lo * dQ d.lo))⟩, ⟨y, (lowN (nQ d.hi * nQ d.hi) (dQ d.hi * dQ d.hi)), (lowD (nQ d.hi * nQ d.hi) (dQ d.hi * dQ d.hi))⟩] _ ?_ ?_ rfl (by omega)).mono ?_; (exact ⟨(unhide IZ).later ((Below.refl _ _).alloc (Nat.le_refl _) _), (show Bd 0 1 from ⟨by decide⟩).mono (by omega), (show Bd 1 1 from ⟨by decide⟩).mono (by omega)⟩); (exact rats_2 (r1 := ⟨x, (lowN (nQ d.lo * nQ d.lo) (dQ d.lo * dQ d.lo)), (lowD (nQ d.lo * nQ d.lo) (dQ d.lo * dQ d.lo))⟩) (r2 := ⟨y, (lowN (nQ d.hi * nQ d.hi) (dQ d.hi * dQ d.hi)), (lowD (nQ d.hi * nQ d.hi) (dQ d.hi * dQ d.hi))⟩) ⟨unhide IX, (unhide BX).1.1, (unhide BX).1.2⟩ ⟨unhide IY, (unhide BX).2.1, (unhide BX).2.2⟩); rintro e w7 ⟨rs, xs1, us1, ys1, vs1, rfl, hb, or, ar, n1, n2, n3, n4⟩; have hbx : Below w6.heap.size w6 w7 := (by first | exact hb | exact ba hb); have szw7 := hbx.size; replace z1 := fun o => frozen_later hbx (World.block_lt_of_cell? _ _ k1_0) (z1 o); replace k1_0 := cell_later hbx k1_0; replace k1_1 := cell_later hbx k1_1; replace k1_2 := cell_later hbx k1_2; replace k1_3 := cell_later hbx k1_3; replace k1_4 := cell_later hbx k1_4; replace k1_5 := cell_later hbx k1_5; replace k1_6 := cell_later hbx k1_6; replace k1_7 := cell_later hbx k1_7; replace k2_0 := cell_later hbx k2_0; replace k3_0 := cell_later hbx k3_0; replace k2_1 := cell_later hbx k2_1; replace k3_1 := cell_later hbx k3_1; replace k2_2 := cell_later hbx k2_2; replace k3_2 := cell_later hbx k3_2; replace k2_3 := cell_later hbx k2_3; replace k3_3 := cell_later hbx k3_3; replace S1 := hide ((unhide S1).later hbx); replace IX := hide ((unhide IX).later hbx); replace IY := hide ((unhide IY).later hbx); replace AW := hide ((unhide AW).later hbx); replace IZ := hide ((unhide IZ).later hbx); have OR := hide (And.intro (or.wide (lo' := w6.heap.size) (by first | exact Nat.le_refl _ | (simp; done) | (simp; omega)) (Nat.le_refl _)) (And.intro ar (And.intro n1 (And.intro n2 (And.intro n3 n4))))); (try (replace gf := fun o => frozen_later hbx (World.block_lt_of_cell? _ _ g0) (gf o); replace g0 := cell_later hbx g0; replace g1 := cell_later hbx g1; replace g2 := cell_later hbx g2; replace g3 := cell_later hbx g3; replace g4 := cell_later hbx g4; replace g5 := cell_later hbx g5; replace g6 := cell_later hbx g6; replace g7 := cell_later hbx g7)); (try (refine cutP (p := w7.cell? ⟨w6.heap.size, 0, none⟩ = some (.bool x.num.g) ∧ w7.cell? ⟨w6.heap.size, 1, none⟩ = some (.slice x.num.a x.num.n x.num.c) ∧ w7.cell? ⟨w6.heap.size, 2, none⟩ = some (.bool x.den.g) ∧ w7.cell? ⟨w6.heap.size, 3, none⟩ = some (.slice x.den.a x.den.n x.den.c) ∧ w7.cell? ⟨w6.heap.size, 4, none⟩ = some (.bool y.num.g) ∧ w7.cell? ⟨w6.heap.size, 5, none⟩ = some (.slice y.num.a y.num.n y.num.c) ∧ w7.cell? ⟨w6.heap.size, 6, none⟩ = some (.bool y.den.g) ∧ w7.cell? ⟨w6.heap.size, 7, none⟩ = some (.slice y.den.a y.den.n y.den.c) ∧ ∀ o, w7.frozen? ⟨w6.heap.size, o, none⟩ = false) ?_ (fun dd => ?_); (focus (refine ⟨cell_later hb ?_, cell_later hb ?_, cell_later hb ?_, cell_later hb ?_, cell_later hb ?_, cell_later hb ?_, cell_later hb ?_, cell_later hb ?_, fun o => frozen_later hb ?_ ?_⟩ <;> (simp [go_sem]; done))); obtain ⟨g0, g1, g2, g3, g4, g5, g6, g7, gf⟩ := dd)); have zz := hb.size; (try simp at zz); have HBr := hide (below_on (unhide HBr) hbx); clear hbx hb or ar n1 n2 n3 n4))
      all_goals
        replace HB := hide (below_on (unhide HB) (unhide HBr))
        clear HBr
        have LT : Hid ((List.foldl stLo (⟨z, 0, 1⟩ : RQ) [⟨x, (lowN (nQ d.lo * nQ d.lo) (dQ d.lo * dQ d.lo)), (lowD (nQ d.lo * nQ d.lo) (dQ d.lo * dQ d.lo))⟩, ⟨y, (lowN (nQ d.hi * nQ d.hi) (dQ d.hi * dQ d.hi)), (lowD (nQ d.hi * nQ d.hi) (dQ d.hi * dQ d.hi))⟩]).N = (sqL d).1 ∧ (List.foldl stLo (⟨z, 0, 1⟩ : RQ) [⟨x, (lowN (nQ d.lo * nQ d.lo) (dQ d.lo * dQ d.lo)), (lowD (nQ d.lo * nQ d.lo) (dQ d.lo * dQ d.lo))⟩, ⟨y, (lowN (nQ d.hi * nQ d.hi) (dQ d.hi * dQ d.hi)), (lowD (nQ d.hi * nQ d.hi) (dQ d.hi * dQ d.hi))⟩]).D = (sqL d).2 ∧ (List.foldl stHi (⟨z, 0, 1⟩ : RQ) [⟨x, (lowN (nQ d.lo * nQ d.lo) (dQ d.lo * dQ d.lo)), (lowD (nQ d.lo * nQ d.lo) (dQ d.lo * dQ d.lo))⟩, ⟨y, (lowN (nQ d.hi * nQ d.hi) (dQ d.hi * dQ d.hi)), (lowD (nQ d.hi * nQ d.hi) (dQ d.hi * dQ d.hi))⟩]).N = (sqH d).1 ∧ (List.foldl stHi (⟨z, 0, 1⟩ : RQ) [⟨x, (lowN (nQ d.lo * nQ d.lo) (dQ d.lo * dQ d.lo)), (lowD (nQ d.lo * nQ d.lo) (dQ d.lo * dQ d.lo))⟩, ⟨y, (lowN (nQ d.hi * nQ d.hi) (dQ d.hi * dQ d.hi)), (lowD (nQ d.hi * nQ d.hi) (dQ d.hi * dQ d.hi))⟩]).D = (sqH d).2) := hide (by
          have f1 : (List.foldl stLo (⟨z, 0, 1⟩ : RQ) [⟨x, (lowN (nQ d.lo * nQ d.lo) (dQ d.lo * dQ d.lo)), (lowD (nQ d.lo * nQ d.lo) (dQ d.lo * dQ d.lo))⟩, ⟨y, (lowN (nQ d.hi * nQ d.hi) (dQ d.hi * dQ d.hi)), (lowD (nQ d.hi * nQ d.hi) (dQ d.hi * dQ d.hi))⟩]).p = sqL d := (fold_lo ([⟨x, (lowN (nQ d.lo * nQ d.lo) (dQ d.lo * dQ d.lo)), (lowD (nQ d.lo * nQ d.lo) (dQ d.lo * dQ d.lo))⟩, ⟨y, (lowN (nQ d.hi * nQ d.hi) (dQ d.hi * dQ d.hi)), (lowD (nQ d.hi * nQ d.hi) (dQ d.hi * dQ d.hi))⟩] : List RQ) (⟨z, 0, 1⟩ : RQ)).trans ((sq_fold (unhide SR).1 (unhide SR).2).1.1.trans (sqL_yes (unhide HN)).symm)
          have f2 : (List.foldl stHi (⟨z, 0, 1⟩ : RQ) [⟨x, (lowN (nQ d.lo * nQ d.lo) (dQ d.lo * dQ d.lo)), (lowD (nQ d.lo * nQ d.lo) (dQ d.lo * dQ d.lo))⟩, ⟨y, (lowN (nQ d.hi * nQ d.hi) (dQ d.hi * dQ d.hi)), (lowD (nQ d.hi * nQ d.hi) (dQ d.hi * dQ d.hi))⟩]).p = sqH d := (fold_hi ([⟨x, (lowN (nQ d.lo * nQ d.lo) (dQ d.lo * dQ d.lo)), (lowD (nQ d.lo * nQ d.lo) (dQ d.lo * dQ d.lo))⟩, ⟨y, (lowN (nQ d.hi * nQ d.hi) (dQ d.hi * dQ d.hi)), (lowD (nQ d.hi * nQ d.hi) (dQ d.hi * dQ d.hi))⟩] : List RQ) (⟨z, 0, 1⟩ : RQ)).trans ((sq_fold (unhide SR).1 (unhide SR).2).1.2)
          exact ⟨congrArg Prod.fst f1, congrArg Prod.snd f1, congrArg Prod.fst f2, congrArg Prod.snd f2⟩)
        go_wp2
        refine bodyPost_ret (v := .agg #[.bool rs.lo.num.g, .slice rs.lo.num.a rs.lo.num.n rs.lo.num.c, .bool rs.lo.den.g, .slice rs.lo.den.a rs.lo.den.n rs.lo.den.c, .bool rs.hi.num.g, .slice rs.hi.num.a rs.hi.num.n rs.hi.num.c, .bool rs.hi.den.g, .slice rs.hi.den.a rs.hi.den.n rs.hi.den.c]) (by simp [results, Try.results95, go_sem, k1_0, k1_1, k1_2, k1_3, k1_4, k1_5, k1_6, k1_7]) rfl ?_
        have oo := (unhide OR).1
        have aa := (unhide OR).2.1
        have nn := (unhide OR).2.2
        rw [(unhide LT).1, (unhide LT).2.1, (unhide LT).2.2.1, (unhide LT).2.2.2] at oo aa nn
        exact outS_fin (v := rs) (R := w.heap.size + 1) (by omega) (unhide HB) (metS_but (w5 := w7) (v := rs) (G := w.heap.size + 1)) (oo.wide (by first | omega | (simp; omega)) (Nat.le_refl _)) aa nn.1 nn.2.1 nn.2.2.1 nn.2.2.2
end Go.Proofs.Ytagnhgefdcckoaa
namespace Go.Proofs.Ytagnhgefdcckoaa
open Go.RowKit
set_option linter.unusedVariables false
set_option maxRecDepth 100000
set_option linter.unusedSimpArgs false

theorem row2_owns (w : World) (c0 c1 c2 c3 c4 c5 c6 c7 : Value) : (w.alloc (.cells #[c0, c1, c2, c3, c4, c5, c6, c7] 50)).ownsRow w.heap.size 50 4 (.slice (some ⟨w.heap.size, 0, none⟩) 2 2) 2 [c0, c1, c2, c3, c4, c5, c6, c7] :=
  ⟨by simp, .inr ⟨w.heap.size, 2, #[c0, c1, c2, c3, c4, c5, c6, c7], rfl, Nat.le_refl _, heap_alloc_new _ _, by omega, by unfold maxLen; omega, by simp, by simp⟩⟩
/-- A row of fractions of the call's own. -/
def Rw (w : World) (B : Nat) (v : Value) (n : Nat) (M : List Value) : Prop := w.ownsRow B 50 4 v n M
theorem Rw.later {w w' : World} {B n : Nat} {v : Value} {M : List Value} (h : Rw w B v n M) (hb : Below w.heap.size w w') : Rw w' B v n M := owns_later h hb
theorem Ow.grow {lo hi B n : Nat} {w w' : World} {b : BV} {V : Int} {v : Value} {M : List Value} (h : Ow lo hi w b V) (hg : w.grownBy w' v.ownBlock) (hr : w.ownsRow B 50 4 v n M) : Ow lo hi w' b V := by
  obtain ⟨xs, h1, h2, h3⟩ := h
  have o := h1.own (b, ⟨decide (V < 0), xs⟩) (by simp)
  have t := Typ.grown (l := [(b, ⟨decide (V < 0), xs⟩)]) (fun p hp => by rw [List.mem_singleton.1 hp]; exact ⟨lo, hi, o.own⟩) hg hr
  have o2 : Own2 lo hi w' b.a xs := by
    rcases o.own with e | ⟨b', cur, e, k1, k2, hb, hc⟩
    · exact .inl e
    · refine .inr ⟨b', cur, e, k1, k2, ?_, hc⟩
      rw [hg.block b' (Array.getElem?_eq_some_iff.1 hb).1 (fun eb => ?_)]
      · exact hb
      · rcases hr.2 with ⟨h', _⟩ | ⟨g', cap, cur', hv, _, hgt, _⟩
        · rw [h'] at eb; simp [Value.ownBlock] at eb
        · rw [hv] at eb
          simp only [Value.ownBlock, Option.some.injEq] at eb
          subst eb
          rw [hb] at hgt
          simp only [Option.some.injEq, Obj.cells.injEq] at hgt
          exact absurd hgt.2.1 (by decide)
  exact ⟨xs, AllOwn.one ⟨o.sg, o2, o.len⟩, AllAr.cons ⟨h2.head.sg, ⟨o2.sl, h2.head.ar.len, h2.head.ar.cap, h2.head.ar.top, h2.head.ar.addr⟩⟩ (AllAr.nil _), h3⟩
theorem rats_3o {w : World} {r1 r2 r3 : RQ} {g cap B : Nat} (h : w.ownsRow B 50 4 (.slice (some ⟨g, 0, none⟩) 3 cap) 3 [.bool r1.q.num.g, .slice r1.q.num.a r1.q.num.n r1.q.num.c, .bool r1.q.den.g, .slice r1.q.den.a r1.q.den.n r1.q.den.c, .bool r2.q.num.g, .slice r2.q.num.a r2.q.num.n r2.q.num.c, .bool r2.q.den.g, .slice r2.q.den.a r2.q.den.n r2.q.den.c, .bool r3.q.num.g, .slice r3.q.num.a r3.q.num.n r3.q.num.c, .bool r3.q.den.g, .slice r3.q.den.a r3.q.den.n r3.q.den.c]) (hg : g < w.heap.size) (h1 : RQ.Is w r1) (h2 : RQ.Is w r2) (h3 : RQ.Is w r3) : Rats w g 0 [r1, r2, r3] := by
  have hc : ∀ j, j < 12 → w.cell? ⟨g, j, none⟩ = [.bool r1.q.num.g, .slice r1.q.num.a r1.q.num.n r1.q.num.c, .bool r1.q.den.g, .slice r1.q.den.a r1.q.den.n r1.q.den.c, .bool r2.q.num.g, .slice r2.q.num.a r2.q.num.n r2.q.num.c, .bool r2.q.den.g, .slice r2.q.den.a r2.q.den.n r2.q.den.c, .bool r3.q.num.g, .slice r3.q.num.a r3.q.num.n r3.q.num.c, .bool r3.q.den.g, .slice r3.q.den.a r3.q.den.n r3.q.den.c][j]? := fun j hj => h.cellAt j (by omega)
  refine ⟨fun i hi => ?_, fun i hi => ?_, hg⟩
  · have hi' : i < 3 := by simpa using hi
    match i, hi' with
    | 0, _ => exact ⟨hc 0 (by omega), hc 1 (by omega), hc 2 (by omega), hc 3 (by omega)⟩
    | 1, _ => exact ⟨hc 4 (by omega), hc 5 (by omega), hc 6 (by omega), hc 7 (by omega)⟩
    | 2, _ => exact ⟨hc 8 (by omega), hc 9 (by omega), hc 10 (by omega), hc 11 (by omega)⟩
  · have hi' : i < 3 := by simpa using hi
    match i, hi' with
    | 0, _ => exact h1
    | 1, _ => exact h2
    | 2, _ => exact h3

set_option maxHeartbeats 4000000 in
theorem ofSqS (v : SV) (d : SD) (w : World) (h : AllAr w [(v.lo.num, d.lo.num), (v.lo.den, d.lo.den), (v.hi.num, d.hi.num), (v.hi.den, d.hi.den)])  :
    Calls Try.prog 94 #[.agg #[.bool v.lo.num.g, .slice v.lo.num.a v.lo.num.n v.lo.num.c, .bool v.lo.den.g, .slice v.lo.den.a v.lo.den.n v.lo.den.c, .bool v.hi.num.g, .slice v.hi.num.a v.hi.num.n v.hi.num.c, .bool v.hi.den.g, .slice v.hi.den.a v.hi.den.n v.hi.den.c], .func (Fn.func 95) #[] #[]] w (RetS w (AnsS (gS d) (sqL d).1 (sqL d).2 (sqH d).1 (sqH d).2)) := by
  have H1 := hide h
  clear h
  cases hg1 : gS d
  · have G1 := hide (fun w1 (k : AllAr w1 [(v.lo.num, d.lo.num), (v.lo.den, d.lo.den), (v.hi.num, d.hi.num), (v.hi.den, d.hi.den)]) => goodSI v d w1 k)
    rw [hg1] at G1
    clear hg1
    have B0 := hide (show Below w.heap.size w ((w.alloc (.cells #[.bool v.lo.num.g, .slice v.lo.num.a v.lo.num.n v.lo.num.c, .bool v.lo.den.g, .slice v.lo.den.a v.lo.den.n v.lo.den.c, .bool v.hi.num.g, .slice v.hi.num.a v.hi.num.n v.hi.num.c, .bool v.hi.den.g, .slice v.hi.den.a v.hi.den.n v.hi.den.c] 61)).alloc (.cells #[.bool false, .slice none 0 0, .bool false, .slice none 0 0, .bool false, .slice none 0 0, .bool false, .slice none 0 0] 61)) from (((Below.refl _ _).alloc (by simp) _).alloc (by simp) _))
    go_enter Try.func94, Try.ntmps94
    go_wp2_with fail
    refine (unhide G1 _ ((unhide H1).later (unhide B0))).mono ?_
    rintro e w1 ⟨rfl, hb⟩
    have s1 : w.heap.size + 1 < w1.heap.size := by have := hb.size; simp at this; omega
    have k1_0 : w1.cell? ⟨w.heap.size + 1, 0, none⟩ = some (.bool false) := cell_later hb (by simp [go_sem])
    have k1_1 : w1.cell? ⟨w.heap.size + 1, 1, none⟩ = some (.slice none 0 0) := cell_later hb (by simp [go_sem])
    have k1_2 : w1.cell? ⟨w.heap.size + 1, 2, none⟩ = some (.bool false) := cell_later hb (by simp [go_sem])
    have k1_3 : w1.cell? ⟨w.heap.size + 1, 3, none⟩ = some (.slice none 0 0) := cell_later hb (by simp [go_sem])
    have k1_4 : w1.cell? ⟨w.heap.size + 1, 4, none⟩ = some (.bool false) := cell_later hb (by simp [go_sem])
    have k1_5 : w1.cell? ⟨w.heap.size + 1, 5, none⟩ = some (.slice none 0 0) := cell_later hb (by simp [go_sem])
    have k1_6 : w1.cell? ⟨w.heap.size + 1, 6, none⟩ = some (.bool false) := cell_later hb (by simp [go_sem])
    have k1_7 : w1.cell? ⟨w.heap.size + 1, 7, none⟩ = some (.slice none 0 0) := cell_later hb (by simp [go_sem])
    have z1 : ∀ o, w1.frozen? ⟨w.heap.size + 1, o, none⟩ = false := fun o => frozen_later hb (by simp) (by simp [go_sem])
    have HB := hide (below_on (unhide B0) hb)
    clear hb
    go_wp2
    refine bodyPost_ret (v := .tuple #[.agg #[.bool false, .slice none 0 0, .bool false, .slice none 0 0, .bool false, .slice none 0 0, .bool false, .slice none 0 0], .bool false]) (by simp [results, Try.results94, go_sem, k1_0, k1_1, k1_2, k1_3, k1_4, k1_5, k1_6, k1_7]) rfl ?_
    exact retS_fin (v := (⟨⟨⟨false, none, 0, 0⟩, ⟨false, none, 0, 0⟩⟩, ⟨⟨false, none, 0, 0⟩, ⟨false, none, 0, 0⟩⟩⟩ : SV)) (d := (⟨⟨⟨false, []⟩, ⟨false, []⟩⟩, ⟨⟨false, []⟩, ⟨false, []⟩⟩⟩ : SD)) (R := w.heap.size + 1) (by omega) (unhide HB) (metS_but (w5 := w1) (v := (⟨⟨⟨false, none, 0, 0⟩, ⟨false, none, 0, 0⟩⟩, ⟨⟨false, none, 0, 0⟩, ⟨false, none, 0, 0⟩⟩⟩ : SV)) (G := w.heap.size + 1)) (zeroS _ _ _) (ansS_none _ _ _ _)
  · have G1 := hide (fun w1 (k : AllAr w1 [(v.lo.num, d.lo.num), (v.lo.den, d.lo.den), (v.hi.num, d.hi.num), (v.hi.den, d.hi.den)]) => goodSI v d w1 k)
    have j1 := isGoodS_of (unhide H1) hg1
    have NZ := hide ((show (sqL d).2 ≠ 0 ∧ (sqH d).2 ≠ 0 from ⟨Int.ne_of_gt (sq_pos j1).1, Int.ne_of_gt (sq_pos j1).2⟩))
    have HP := hide (unhide H1)
    rw [hg1] at G1
    have J1 := hide j1
    clear hg1 j1
    have B0 := hide (show Below w.heap.size w ((w.alloc (.cells #[.bool v.lo.num.g, .slice v.lo.num.a v.lo.num.n v.lo.num.c, .bool v.lo.den.g, .slice v.lo.den.a v.lo.den.n v.lo.den.c, .bool v.hi.num.g, .slice v.hi.num.a v.hi.num.n v.hi.num.c, .bool v.hi.den.g, .slice v.hi.den.a v.hi.den.n v.hi.den.c] 61)).alloc (.cells #[.bool false, .slice none 0 0, .bool false, .slice none 0 0, .bool false, .slice none 0 0, .bool false, .slice none 0 0] 61)) from (((Below.refl _ _).alloc (by simp) _).alloc (by simp) _))
    go_enter Try.func94, Try.ntmps94
    go_wp2_with fail
    refine (unhide G1 _ ((unhide H1).later (unhide B0))).mono ?_
    rintro e w1 ⟨rfl, hb⟩
    have s1 : w.heap.size + 1 < w1.heap.size := by have := hb.size; simp at this; omega
    have k0_0 : w1.cell? ⟨w.heap.size, 0, none⟩ = some (.bool v.lo.num.g) := cell_later hb (by simp [go_sem])
    have k0_1 : w1.cell? ⟨w.heap.size, 1, none⟩ = some (.slice v.lo.num.a v.lo.num.n v.lo.num.c) := cell_later hb (by simp [go_sem])
    have k0_2 : w1.cell? ⟨w.heap.size, 2, none⟩ = some (.bool v.lo.den.g) := cell_later hb (by simp [go_sem])
    have k0_3 : w1.cell? ⟨w.heap.size, 3, none⟩ = some (.slice v.lo.den.a v.lo.den.n v.lo.den.c) := cell_later hb (by simp [go_sem])
    have k0_4 : w1.cell? ⟨w.heap.size, 4, none⟩ = some (.bool v.hi.num.g) := cell_later hb (by simp [go_sem])
    have k0_5 : w1.cell? ⟨w.heap.size, 5, none⟩ = some (.slice v.hi.num.a v.hi.num.n v.hi.num.c) := cell_later hb (by simp [go_sem])
    have k0_6 : w1.cell? ⟨w.heap.size, 6, none⟩ = some (.bool v.hi.den.g) := cell_later hb (by simp [go_sem])
    have k0_7 : w1.cell? ⟨w.heap.size, 7, none⟩ = some (.slice v.hi.den.a v.hi.den.n v.hi.den.c) := cell_later hb (by simp [go_sem])
    have k1_0 : w1.cell? ⟨w.heap.size + 1, 0, none⟩ = some (.bool false) := cell_later hb (by simp [go_sem])
    have k1_1 : w1.cell? ⟨w.heap.size + 1, 1, none⟩ = some (.slice none 0 0) := cell_later hb (by simp [go_sem])
    have k1_2 : w1.cell? ⟨w.heap.size + 1, 2, none⟩ = some (.bool false) := cell_later hb (by simp [go_sem])
    have k1_3 : w1.cell? ⟨w.heap.size + 1, 3, none⟩ = some (.slice none 0 0) := cell_later hb (by simp [go_sem])
    have k1_4 : w1.cell? ⟨w.heap.size + 1, 4, none⟩ = some (.bool false) := cell_later hb (by simp [go_sem])
    have k1_5 : w1.cell? ⟨w.heap.size + 1, 5, none⟩ = some (.slice none 0 0) := cell_later hb (by simp [go_sem])
    have k1_6 : w1.cell? ⟨w.heap.size + 1, 6, none⟩ = some (.bool false) := cell_later hb (by simp [go_sem])
    have k1_7 : w1.cell? ⟨w.heap.size + 1, 7, none⟩ = some (.slice none 0 0) := cell_later hb (by simp [go_sem])
    have z1 : ∀ o, w1.frozen? ⟨w.heap.size + 1, o, none⟩ = false := fun o => frozen_later hb (by simp) (by simp [go_sem])
    have HB := hide (below_on (unhide B0) hb)
    clear hb
    go_wp2_with fail
    refine (sqSpan_v v d _ ((unhide J1).later (unhide HB)) ((unhide HP).later (unhide HB))).mono ?_
    rintro e w3 ⟨r, xs, us, ys, vs, rfl, hb, or, ar, n1, n2, n3, n4⟩
    have s3 := hb.size
    have M1 : r.lo.den.n ≤ maxLen := Nat.le_trans ar.tail.head.ar.cap ar.tail.head.ar.top
    have M2 : r.hi.den.n ≤ maxLen := Nat.le_trans ar.tail.tail.tail.head.ar.cap ar.tail.tail.tail.head.ar.top
    have NN := hide (And.intro n1 (And.intro n2 (And.intro n3 n4)))
    replace z1 := fun o => frozen_later hb (World.block_lt_of_cell? _ _ k1_0) (z1 o)
    replace k1_0 := cell_later hb k1_0
    replace k1_1 := cell_later hb k1_1
    replace k1_2 := cell_later hb k1_2
    replace k1_3 := cell_later hb k1_3
    replace k1_4 := cell_later hb k1_4
    replace k1_5 := cell_later hb k1_5
    replace k1_6 := cell_later hb k1_6
    replace k1_7 := cell_later hb k1_7
    clear k0_0 k0_1 k0_2 k0_3 k0_4 k0_5 k0_6 k0_7
    have OR := hide (or)
    replace HB := hide (below_on (unhide HB) hb)
    clear hb
    clear or ar n1 n2 n3 n4
    go_wp2_with fail
    refine (whereS r _ _ _ _ xs us ys vs w1.heap.size w3.heap.size _ (unhide OR) (Nat.le_refl _) M1 M2 (unhide NN).1 (unhide NN).2.1 (unhide NN).2.2.1 (unhide NN).2.2.2 (unhide NZ).1 (unhide NZ).2).mono ?_
    rintro e w4 ⟨r2, dr, ok, rfl, hb, ov, hu⟩
    have s4 := hb.size
    have UU := hide hu
    replace z1 := fun o => frozen_later hb (World.block_lt_of_cell? _ _ k1_0) (z1 o)
    replace k1_0 := cell_later hb k1_0
    replace k1_1 := cell_later hb k1_1
    replace k1_2 := cell_later hb k1_2
    replace k1_3 := cell_later hb k1_3
    replace k1_4 := cell_later hb k1_4
    replace k1_5 := cell_later hb k1_5
    replace k1_6 := cell_later hb k1_6
    replace k1_7 := cell_later hb k1_7
    replace OR := hide ((unhide OR).later hb)
    have OV := hide (ov)
    replace HB := hide (below_on (unhide HB) hb)
    clear hb
    clear ov hu
    go_wp2
    refine bodyPost_ret (v := .tuple #[.agg #[.bool r2.lo.num.g, .slice r2.lo.num.a r2.lo.num.n r2.lo.num.c, .bool r2.lo.den.g, .slice r2.lo.den.a r2.lo.den.n r2.lo.den.c, .bool r2.hi.num.g, .slice r2.hi.num.a r2.hi.num.n r2.hi.num.c, .bool r2.hi.den.g, .slice r2.hi.den.a r2.hi.den.n r2.hi.den.c], .bool ok]) (by simp [results, Try.results94, go_sem, k1_0, k1_1, k1_2, k1_3, k1_4, k1_5, k1_6, k1_7]) rfl ?_
    exact retS_fin (v := r2) (d := dr) (R := w.heap.size + 1) (by omega) (unhide HB) (metS_but (w5 := w4) (v := r2) (G := w.heap.size + 1)) ((unhide OV).wide (by omega) (by omega)) (unhide UU)

set_option maxHeartbeats 4000000 in
theorem SqSI (v : SV) (d : SD) (w : World) (h : AllAr w [(v.lo.num, d.lo.num), (v.lo.den, d.lo.den), (v.hi.num, d.hi.num), (v.hi.den, d.hi.den)]) : Calls Try.prog 40 #[.agg #[.bool v.lo.num.g, .slice v.lo.num.a v.lo.num.n v.lo.num.c, .bool v.lo.den.g, .slice v.lo.den.a v.lo.den.n v.lo.den.c, .bool v.hi.num.g, .slice v.hi.num.a v.hi.num.n v.hi.num.c, .bool v.hi.den.g, .slice v.hi.den.a v.hi.den.n v.hi.den.c]] w (RetS w (AnsS (gS d) (sqL d).1 (sqL d).2 (sqH d).1 (sqH d).2)) := by
  have H1 := hide h
  clear h
  have B0 := hide (show Below w.heap.size w ((w.alloc (.cells #[.bool v.lo.num.g, .slice v.lo.num.a v.lo.num.n v.lo.num.c, .bool v.lo.den.g, .slice v.lo.den.a v.lo.den.n v.lo.den.c, .bool v.hi.num.g, .slice v.hi.num.a v.hi.num.n v.hi.num.c, .bool v.hi.den.g, .slice v.hi.den.a v.hi.den.n v.hi.den.c] 61)).alloc (.cells #[.bool false, .slice none 0 0, .bool false, .slice none 0 0, .bool false, .slice none 0 0, .bool false, .slice none 0 0] 61)) from (((Below.refl _ _).alloc (by simp) _).alloc (by simp) _))
  go_enter Try.func40, Try.ntmps40
  go_wp2_with fail
  refine (ofSqS v d _ ((unhide H1).later (unhide B0))).mono ?_
  rintro e w2 ⟨r2, dr, ok, rfl, hb, ov, hu⟩
  have s2 : w.heap.size + 1 < w2.heap.size := by have := hb.size; simp at this; omega
  have UU := hide hu
  replace ov := ov.wide (lo' := w.heap.size + 1 + 1) (by simp) (Nat.le_refl _)
  have k1_0 : w2.cell? ⟨w.heap.size + 1, 0, none⟩ = some (.bool false) := cell_later hb (by simp [go_sem])
  have k1_1 : w2.cell? ⟨w.heap.size + 1, 1, none⟩ = some (.slice none 0 0) := cell_later hb (by simp [go_sem])
  have k1_2 : w2.cell? ⟨w.heap.size + 1, 2, none⟩ = some (.bool false) := cell_later hb (by simp [go_sem])
  have k1_3 : w2.cell? ⟨w.heap.size + 1, 3, none⟩ = some (.slice none 0 0) := cell_later hb (by simp [go_sem])
  have k1_4 : w2.cell? ⟨w.heap.size + 1, 4, none⟩ = some (.bool false) := cell_later hb (by simp [go_sem])
  have k1_5 : w2.cell? ⟨w.heap.size + 1, 5, none⟩ = some (.slice none 0 0) := cell_later hb (by simp [go_sem])
  have k1_6 : w2.cell? ⟨w.heap.size + 1, 6, none⟩ = some (.bool false) := cell_later hb (by simp [go_sem])
  have k1_7 : w2.cell? ⟨w.heap.size + 1, 7, none⟩ = some (.slice none 0 0) := cell_later hb (by simp [go_sem])
  have z1 : ∀ o, w2.frozen? ⟨w.heap.size + 1, o, none⟩ = false := fun o => frozen_later hb (by simp) (by simp [go_sem])
  have OV := hide (ov)
  have HB := hide (below_on (unhide B0) hb)
  clear hb
  clear ov hu
  go_wp2
  refine bodyPost_ret (v := .tuple #[.agg #[.bool r2.lo.num.g, .slice r2.lo.num.a r2.lo.num.n r2.lo.num.c, .bool r2.lo.den.g, .slice r2.lo.den.a r2.lo.den.n r2.lo.den.c, .bool r2.hi.num.g, .slice r2.hi.num.a r2.hi.num.n r2.hi.num.c, .bool r2.hi.den.g, .slice r2.hi.den.a r2.hi.den.n r2.hi.den.c], .bool ok]) (by simp [results, Try.results40, go_sem, k1_0, k1_1, k1_2, k1_3, k1_4, k1_5, k1_6, k1_7]) rfl ?_
  exact retS_fin (v := r2) (d := dr) (R := w.heap.size + 1) (by omega) (unhide HB) (metS_but (w5 := w2) (v := r2) (G := w.heap.size + 1)) ((unhide OV).wide (by omega) (by omega)) (unhide UU)

set_option maxHeartbeats 8000000 in
theorem SqSS (v : SV) (d : SD) (w : World) (h : AllAr w [(v.lo.num, d.lo.num), (v.lo.den, d.lo.den), (v.hi.num, d.hi.num), (v.hi.den, d.hi.den)]) : Calls Try.prog 38 #[.agg #[.bool v.lo.num.g, .slice v.lo.num.a v.lo.num.n v.lo.num.c, .bool v.lo.den.g, .slice v.lo.den.a v.lo.den.n v.lo.den.c, .bool v.hi.num.g, .slice v.hi.num.a v.hi.num.n v.hi.num.c, .bool v.hi.den.g, .slice v.hi.den.a v.hi.den.n v.hi.den.c]] w (RetS w (AnsS (gS d) (sqL d).1 (sqL d).2 (sqH d).1 (sqH d).2)) := by
  have H1 := hide h
  clear h
  cases hg1 : gS d
  · have G1 := hide (fun w1 (k : AllAr w1 [(v.lo.num, d.lo.num), (v.lo.den, d.lo.den), (v.hi.num, d.hi.num), (v.hi.den, d.hi.den)]) => goodSS v d w1 k)
    rw [hg1] at G1
    clear hg1
    have B0 := hide (show Below w.heap.size w ((w.alloc (.cells #[.bool v.lo.num.g, .slice v.lo.num.a v.lo.num.n v.lo.num.c, .bool v.lo.den.g, .slice v.lo.den.a v.lo.den.n v.lo.den.c, .bool v.hi.num.g, .slice v.hi.num.a v.hi.num.n v.hi.num.c, .bool v.hi.den.g, .slice v.hi.den.a v.hi.den.n v.hi.den.c] 61)).alloc (.cells #[.bool false, .slice none 0 0, .bool false, .slice none 0 0, .bool false, .slice none 0 0, .bool false, .slice none 0 0] 61)) from (((Below.refl _ _).alloc (by simp) _).alloc (by simp) _))
    go_enter Try.func38, Try.ntmps38
    go_wp2_with fail
    refine (unhide G1 _ ((unhide H1).later (unhide B0))).mono ?_
    rintro e w1 ⟨rfl, hb⟩
    have s1 : w.heap.size + 1 < w1.heap.size := by have := hb.size; simp at this; omega
    have k1_0 : w1.cell? ⟨w.heap.size + 1, 0, none⟩ = some (.bool false) := cell_later hb (by simp [go_sem])
    have k1_1 : w1.cell? ⟨w.heap.size + 1, 1, none⟩ = some (.slice none 0 0) := cell_later hb (by simp [go_sem])
    have k1_2 : w1.cell? ⟨w.heap.size + 1, 2, none⟩ = some (.bool false) := cell_later hb (by simp [go_sem])
    have k1_3 : w1.cell? ⟨w.heap.size + 1, 3, none⟩ = some (.slice none 0 0) := cell_later hb (by simp [go_sem])
    have k1_4 : w1.cell? ⟨w.heap.size + 1, 4, none⟩ = some (.bool false) := cell_later hb (by simp [go_sem])
    have k1_5 : w1.cell? ⟨w.heap.size + 1, 5, none⟩ = some (.slice none 0 0) := cell_later hb (by simp [go_sem])
    have k1_6 : w1.cell? ⟨w.heap.size + 1, 6, none⟩ = some (.bool false) := cell_later hb (by simp [go_sem])
    have k1_7 : w1.cell? ⟨w.heap.size + 1, 7, none⟩ = some (.slice none 0 0) := cell_later hb (by simp [go_sem])
    have z1 : ∀ o, w1.frozen? ⟨w.heap.size + 1, o, none⟩ = false := fun o => frozen_later hb (by simp) (by simp [go_sem])
    have HB := hide (below_on (unhide B0) hb)
    clear hb
    go_wp2
    refine bodyPost_ret (v := .tuple #[.agg #[.bool false, .slice none 0 0, .bool false, .slice none 0 0, .bool false, .slice none 0 0, .bool false, .slice none 0 0], .bool false]) (by simp [results, Try.results38, go_sem, k1_0, k1_1, k1_2, k1_3, k1_4, k1_5, k1_6, k1_7]) rfl ?_
    exact retS_fin (v := (⟨⟨⟨false, none, 0, 0⟩, ⟨false, none, 0, 0⟩⟩, ⟨⟨false, none, 0, 0⟩, ⟨false, none, 0, 0⟩⟩⟩ : SV)) (d := (⟨⟨⟨false, []⟩, ⟨false, []⟩⟩, ⟨⟨false, []⟩, ⟨false, []⟩⟩⟩ : SD)) (R := w.heap.size + 1) (by omega) (unhide HB) (metS_but (w5 := w1) (v := (⟨⟨⟨false, none, 0, 0⟩, ⟨false, none, 0, 0⟩⟩, ⟨⟨false, none, 0, 0⟩, ⟨false, none, 0, 0⟩⟩⟩ : SV)) (G := w.heap.size + 1)) (zeroS _ _ _) (ansS_none _ _ _ _)
  · have G1 := hide (fun w1 (k : AllAr w1 [(v.lo.num, d.lo.num), (v.lo.den, d.lo.den), (v.hi.num, d.hi.num), (v.hi.den, d.hi.den)]) => goodSS v d w1 k)
    rw [hg1] at G1
    obtain ⟨i0, hi, hz0, hz1, hz2⟩ := info_parts Try.info50
    have j1 := isGoodS_of (unhide H1) hg1
    have EI := hide (inQ_zero hg1)
    have PD : Hid ((dQ d.lo * dQ d.lo) ≠ 0 ∧ (dQ d.hi * dQ d.hi) ≠ 0) := hide ⟨Int.ne_of_gt (Int.mul_pos j1.lo.pos j1.lo.pos), Int.ne_of_gt (Int.mul_pos j1.hi.pos j1.hi.pos)⟩
    have SR := hide (And.intro (sqr_of (n := nQ d.lo) j1.lo.pos) (sqr_of (n := nQ d.hi) j1.hi.pos))
    have BX := hide (And.intro (sqBd j1.lo) (sqBd j1.hi))
    have PP := hide (sq_pos j1)
    have J1 := hide j1
    clear hg1 j1
    have B0 := hide (show Below w.heap.size w ((w.alloc (.cells #[.bool v.lo.num.g, .slice v.lo.num.a v.lo.num.n v.lo.num.c, .bool v.lo.den.g, .slice v.lo.den.a v.lo.den.n v.lo.den.c, .bool v.hi.num.g, .slice v.hi.num.a v.hi.num.n v.hi.num.c, .bool v.hi.den.g, .slice v.hi.den.a v.hi.den.n v.hi.den.c] 61)).alloc (.cells #[.bool false, .slice none 0 0, .bool false, .slice none 0 0, .bool false, .slice none 0 0, .bool false, .slice none 0 0] 61)) from (((Below.refl _ _).alloc (by simp) _).alloc (by simp) _))
    go_enter Try.func38, Try.ntmps38
    go_wp2_with fail
    refine (unhide G1 _ ((unhide H1).later (unhide B0))).mono ?_
    rintro e w1 ⟨rfl, hb⟩
    have s1 : w.heap.size + 1 < w1.heap.size := by have := hb.size; simp at this; omega
    have k0_0 : w1.cell? ⟨w.heap.size, 0, none⟩ = some (.bool v.lo.num.g) := cell_later hb (by simp [go_sem])
    have k0_1 : w1.cell? ⟨w.heap.size, 1, none⟩ = some (.slice v.lo.num.a v.lo.num.n v.lo.num.c) := cell_later hb (by simp [go_sem])
    have k0_2 : w1.cell? ⟨w.heap.size, 2, none⟩ = some (.bool v.lo.den.g) := cell_later hb (by simp [go_sem])
    have k0_3 : w1.cell? ⟨w.heap.size, 3, none⟩ = some (.slice v.lo.den.a v.lo.den.n v.lo.den.c) := cell_later hb (by simp [go_sem])
    have k0_4 : w1.cell? ⟨w.heap.size, 4, none⟩ = some (.bool v.hi.num.g) := cell_later hb (by simp [go_sem])
    have k0_5 : w1.cell? ⟨w.heap.size, 5, none⟩ = some (.slice v.hi.num.a v.hi.num.n v.hi.num.c) := cell_later hb (by simp [go_sem])
    have k0_6 : w1.cell? ⟨w.heap.size, 6, none⟩ = some (.bool v.hi.den.g) := cell_later hb (by simp [go_sem])
    have k0_7 : w1.cell? ⟨w.heap.size, 7, none⟩ = some (.slice v.hi.den.a v.hi.den.n v.hi.den.c) := cell_later hb (by simp [go_sem])
    have k1_0 : w1.cell? ⟨w.heap.size + 1, 0, none⟩ = some (.bool false) := cell_later hb (by simp [go_sem])
    have k1_1 : w1.cell? ⟨w.heap.size + 1, 1, none⟩ = some (.slice none 0 0) := cell_later hb (by simp [go_sem])
    have k1_2 : w1.cell? ⟨w.heap.size + 1, 2, none⟩ = some (.bool false) := cell_later hb (by simp [go_sem])
    have k1_3 : w1.cell? ⟨w.heap.size + 1, 3, none⟩ = some (.slice none 0 0) := cell_later hb (by simp [go_sem])
    have k1_4 : w1.cell? ⟨w.heap.size + 1, 4, none⟩ = some (.bool false) := cell_later hb (by simp [go_sem])
    have k1_5 : w1.cell? ⟨w.heap.size + 1, 5, none⟩ = some (.slice none 0 0) := cell_later hb (by simp [go_sem])
    have k1_6 : w1.cell? ⟨w.heap.size + 1, 6, none⟩ = some (.bool false) := cell_later hb (by simp [go_sem])
    have k1_7 : w1.cell? ⟨w.heap.size + 1, 7, none⟩ = some (.slice none 0 0) := cell_later hb (by simp [go_sem])
    have z1 : ∀ o, w1.frozen? ⟨w.heap.size + 1, o, none⟩ = false := fun o => frozen_later hb (by simp) (by simp [go_sem])
    have HB := hide (below_on (unhide B0) hb)
    clear hb
    have S1 := hide ((unhide J1).later (unhide HB))
    go_upto_region 3 with fail
    go_region_held3 (fun w' => w'.cell? ⟨w.heap.size, 0, none⟩ = some (.bool v.lo.num.g) ∧ w'.cell? ⟨w.heap.size, 1, none⟩ = some (.slice v.lo.num.a v.lo.num.n v.lo.num.c) ∧ w'.cell? ⟨w.heap.size, 2, none⟩ = some (.bool v.lo.den.g) ∧ w'.cell? ⟨w.heap.size, 3, none⟩ = some (.slice v.lo.den.a v.lo.den.n v.lo.den.c) ∧ w'.cell? ⟨w.heap.size, 4, none⟩ = some (.bool v.hi.num.g) ∧ w'.cell? ⟨w.heap.size, 5, none⟩ = some (.slice v.hi.num.a v.hi.num.n v.hi.num.c) ∧ w'.cell? ⟨w.heap.size, 6, none⟩ = some (.bool v.hi.den.g) ∧ w'.cell? ⟨w.heap.size, 7, none⟩ = some (.slice v.hi.den.a v.hi.den.n v.hi.den.c)) (with_reducible (first | exact ⟨k0_0, k0_1, k0_2, k0_3, k0_4, k0_5, k0_6, k0_7⟩ | exact ⟨cd_other k0_0, cd_other k0_1, cd_other k0_2, cd_other k0_3, cd_other k0_4, cd_other k0_5, cd_other k0_6, cd_other k0_7⟩ | exact ⟨ca_other k0_0, ca_other k0_1, ca_other k0_2, ca_other k0_3, ca_other k0_4, ca_other k0_5, ca_other k0_6, ca_other k0_7⟩ | fail))
      (first
      | (go_at_call_of 90 (Value.agg #[Value.bool v.lo.num.g, Value.slice v.lo.num.a v.lo.num.n v.lo.num.c, Value.bool v.lo.den.g, Value.slice v.lo.den.a v.lo.den.n v.lo.den.c]); refine (mulQS v.lo v.lo (nQ d.lo) (dQ d.lo) (nQ d.lo) (dQ d.lo) _ ?_ ?_ (unhide PD).1 ((unhide J1).lo.kn.mono (by omega)) ((unhide J1).lo.kd.mono (by omega)) ((unhide J1).lo.kn.mono (by omega)) ((unhide J1).lo.kd.mono (by omega))).mono ?_; exact (unhide S1).lo.is.later (Below.refl _ _).drew; exact (unhide S1).lo.is.later (Below.refl _ _).drew; rintro e w2 ⟨x1, rfl, hb, o1, p1⟩; have hbx : Below w1.heap.size w1 w2 := below_of_drew hb; have szw2 := hbx.size; replace z1 := fun o => frozen_later hbx (World.block_lt_of_cell? _ _ k1_0) (z1 o); replace k0_0 := cell_later hbx k0_0; replace k0_1 := cell_later hbx k0_1; replace k0_2 := cell_later hbx k0_2; replace k0_3 := cell_later hbx k0_3; replace k0_4 := cell_later hbx k0_4; replace k0_5 := cell_later hbx k0_5; replace k0_6 := cell_later hbx k0_6; replace k0_7 := cell_later hbx k0_7; replace k1_0 := cell_later hbx k1_0; replace k1_1 := cell_later hbx k1_1; replace k1_2 := cell_later hbx k1_2; replace k1_3 := cell_later hbx k1_3; replace k1_4 := cell_later hbx k1_4; replace k1_5 := cell_later hbx k1_5; replace k1_6 := cell_later hbx k1_6; replace k1_7 := cell_later hbx k1_7; replace S1 := hide ((unhide S1).later hbx); have A1 := hide (o1); have B1 := hide (p1); have HBr := hide hbx; clear hbx hb o1 p1)
      | (go_at_call_of 90 (Value.agg #[Value.bool v.hi.num.g, Value.slice v.hi.num.a v.hi.num.n v.hi.num.c, Value.bool v.hi.den.g, Value.slice v.hi.den.a v.hi.den.n v.hi.den.c]); refine (mulQS v.hi v.hi (nQ d.hi) (dQ d.hi) (nQ d.hi) (dQ d.hi) _ ?_ ?_ (unhide PD).2 ((unhide J1).hi.kn.mono (by omega)) ((unhide J1).hi.kd.mono (by omega)) ((unhide J1).hi.kn.mono (by omega)) ((unhide J1).hi.kd.mono (by omega))).mono ?_; exact (unhide S1).hi.is.later (Below.refl _ _); exact (unhide S1).hi.is.later (Below.refl _ _); rintro e w3 ⟨x2, rfl, hb, o1, p1⟩; have hbx : Below w2.heap.size w2 w3 := hb; have szw3 := hbx.size; replace z1 := fun o => frozen_later hbx (World.block_lt_of_cell? _ _ k1_0) (z1 o); replace k0_0 := cell_later hbx k0_0; replace k0_1 := cell_later hbx k0_1; replace k0_2 := cell_later hbx k0_2; replace k0_3 := cell_later hbx k0_3; replace k0_4 := cell_later hbx k0_4; replace k0_5 := cell_later hbx k0_5; replace k0_6 := cell_later hbx k0_6; replace k0_7 := cell_later hbx k0_7; replace k1_0 := cell_later hbx k1_0; replace k1_1 := cell_later hbx k1_1; replace k1_2 := cell_later hbx k1_2; replace k1_3 := cell_later hbx k1_3; replace k1_4 := cell_later hbx k1_4; replace k1_5 := cell_later hbx k1_5; replace k1_6 := cell_later hbx k1_6; replace k1_7 := cell_later hbx k1_7; replace S1 := hide ((unhide S1).later hbx); replace A1 := hide ((unhide A1).later hbx); replace B1 := hide ((unhide B1).later hbx); have A2 := hide (o1); have B2 := hide (p1); have HBr := hide (below_on (unhide HBr) hbx); clear hbx hb o1 p1))
    replace HB := hide (below_on (unhide HB) (unhide HBr))
    clear HBr
    go_upto_region 4 with fail
    have hb : Below w3.heap.size w3 (w3.alloc (.cells #[.bool x1.num.g, .slice x1.num.a x1.num.n x1.num.c, .bool x1.den.g, .slice x1.den.a x1.den.n x1.den.c, .bool x2.num.g, .slice x2.num.a x2.num.n x2.num.c, .bool x2.den.g, .slice x2.den.a x2.den.n x2.den.c] 50)) := ((Below.refl _ _).alloc (by simp) _)
    replace k0_0 : (w3.alloc (.cells #[.bool x1.num.g, .slice x1.num.a x1.num.n x1.num.c, .bool x1.den.g, .slice x1.den.a x1.den.n x1.den.c, .bool x2.num.g, .slice x2.num.a x2.num.n x2.num.c, .bool x2.den.g, .slice x2.den.a x2.den.n x2.den.c] 50)).cell? ⟨w.heap.size, 0, none⟩ = some (.bool v.lo.num.g) := (ca_other k0_0)
    replace k0_1 : (w3.alloc (.cells #[.bool x1.num.g, .slice x1.num.a x1.num.n x1.num.c, .bool x1.den.g, .slice x1.den.a x1.den.n x1.den.c, .bool x2.num.g, .slice x2.num.a x2.num.n x2.num.c, .bool x2.den.g, .slice x2.den.a x2.den.n x2.den.c] 50)).cell? ⟨w.heap.size, 1, none⟩ = some (.slice v.lo.num.a v.lo.num.n v.lo.num.c) := (ca_other k0_1)
    replace k0_2 : (w3.alloc (.cells #[.bool x1.num.g, .slice x1.num.a x1.num.n x1.num.c, .bool x1.den.g, .slice x1.den.a x1.den.n x1.den.c, .bool x2.num.g, .slice x2.num.a x2.num.n x2.num.c, .bool x2.den.g, .slice x2.den.a x2.den.n x2.den.c] 50)).cell? ⟨w.heap.size, 2, none⟩ = some (.bool v.lo.den.g) := (ca_other k0_2)
    replace k0_3 : (w3.alloc (.cells #[.bool x1.num.g, .slice x1.num.a x1.num.n x1.num.c, .bool x1.den.g, .slice x1.den.a x1.den.n x1.den.c, .bool x2.num.g, .slice x2.num.a x2.num.n x2.num.c, .bool x2.den.g, .slice x2.den.a x2.den.n x2.den.c] 50)).cell? ⟨w.heap.size, 3, none⟩ = some (.slice v.lo.den.a v.lo.den.n v.lo.den.c) := (ca_other k0_3)
    replace k0_4 : (w3.alloc (.cells #[.bool x1.num.g, .slice x1.num.a x1.num.n x1.num.c, .bool x1.den.g, .slice x1.den.a x1.den.n x1.den.c, .bool x2.num.g, .slice x2.num.a x2.num.n x2.num.c, .bool x2.den.g, .slice x2.den.a x2.den.n x2.den.c] 50)).cell? ⟨w.heap.size, 4, none⟩ = some (.bool v.hi.num.g) := (ca_other k0_4)
    replace k0_5 : (w3.alloc (.cells #[.bool x1.num.g, .slice x1.num.a x1.num.n x1.num.c, .bool x1.den.g, .slice x1.den.a x1.den.n x1.den.c, .bool x2.num.g, .slice x2.num.a x2.num.n x2.num.c, .bool x2.den.g, .slice x2.den.a x2.den.n x2.den.c] 50)).cell? ⟨w.heap.size, 5, none⟩ = some (.slice v.hi.num.a v.hi.num.n v.hi.num.c) := (ca_other k0_5)
    replace k0_6 : (w3.alloc (.cells #[.bool x1.num.g, .slice x1.num.a x1.num.n x1.num.c, .bool x1.den.g, .slice x1.den.a x1.den.n x1.den.c, .bool x2.num.g, .slice x2.num.a x2.num.n x2.num.c, .bool x2.den.g, .slice x2.den.a x2.den.n x2.den.c] 50)).cell? ⟨w.heap.size, 6, none⟩ = some (.bool v.hi.den.g) := (ca_other k0_6)
    replace k0_7 : (w3.alloc (.cells #[.bool x1.num.g, .slice x1.num.a x1.num.n x1.num.c, .bool x1.den.g, .slice x1.den.a x1.den.n x1.den.c, .bool x2.num.g, .slice x2.num.a x2.num.n x2.num.c, .bool x2.den.g, .slice x2.den.a x2.den.n x2.den.c] 50)).cell? ⟨w.heap.size, 7, none⟩ = some (.slice v.hi.den.a v.hi.den.n v.hi.den.c) := (ca_other k0_7)
    replace k1_0 : (w3.alloc (.cells #[.bool x1.num.g, .slice x1.num.a x1.num.n x1.num.c, .bool x1.den.g, .slice x1.den.a x1.den.n x1.den.c, .bool x2.num.g, .slice x2.num.a x2.num.n x2.num.c, .bool x2.den.g, .slice x2.den.a x2.den.n x2.den.c] 50)).cell? ⟨w.heap.size + 1, 0, none⟩ = some (.bool false) := (ca_other k1_0)
    replace k1_1 : (w3.alloc (.cells #[.bool x1.num.g, .slice x1.num.a x1.num.n x1.num.c, .bool x1.den.g, .slice x1.den.a x1.den.n x1.den.c, .bool x2.num.g, .slice x2.num.a x2.num.n x2.num.c, .bool x2.den.g, .slice x2.den.a x2.den.n x2.den.c] 50)).cell? ⟨w.heap.size + 1, 1, none⟩ = some (.slice none 0 0) := (ca_other k1_1)
    replace k1_2 : (w3.alloc (.cells #[.bool x1.num.g, .slice x1.num.a x1.num.n x1.num.c, .bool x1.den.g, .slice x1.den.a x1.den.n x1.den.c, .bool x2.num.g, .slice x2.num.a x2.num.n x2.num.c, .bool x2.den.g, .slice x2.den.a x2.den.n x2.den.c] 50)).cell? ⟨w.heap.size + 1, 2, none⟩ = some (.bool false) := (ca_other k1_2)
    replace k1_3 : (w3.alloc (.cells #[.bool x1.num.g, .slice x1.num.a x1.num.n x1.num.c, .bool x1.den.g, .slice x1.den.a x1.den.n x1.den.c, .bool x2.num.g, .slice x2.num.a x2.num.n x2.num.c, .bool x2.den.g, .slice x2.den.a x2.den.n x2.den.c] 50)).cell? ⟨w.heap.size + 1, 3, none⟩ = some (.slice none 0 0) := (ca_other k1_3)
    replace k1_4 : (w3.alloc (.cells #[.bool x1.num.g, .slice x1.num.a x1.num.n x1.num.c, .bool x1.den.g, .slice x1.den.a x1.den.n x1.den.c, .bool x2.num.g, .slice x2.num.a x2.num.n x2.num.c, .bool x2.den.g, .slice x2.den.a x2.den.n x2.den.c] 50)).cell? ⟨w.heap.size + 1, 4, none⟩ = some (.bool false) := (ca_other k1_4)
    replace k1_5 : (w3.alloc (.cells #[.bool x1.num.g, .slice x1.num.a x1.num.n x1.num.c, .bool x1.den.g, .slice x1.den.a x1.den.n x1.den.c, .bool x2.num.g, .slice x2.num.a x2.num.n x2.num.c, .bool x2.den.g, .slice x2.den.a x2.den.n x2.den.c] 50)).cell? ⟨w.heap.size + 1, 5, none⟩ = some (.slice none 0 0) := (ca_other k1_5)
    replace k1_6 : (w3.alloc (.cells #[.bool x1.num.g, .slice x1.num.a x1.num.n x1.num.c, .bool x1.den.g, .slice x1.den.a x1.den.n x1.den.c, .bool x2.num.g, .slice x2.num.a x2.num.n x2.num.c, .bool x2.den.g, .slice x2.den.a x2.den.n x2.den.c] 50)).cell? ⟨w.heap.size + 1, 6, none⟩ = some (.bool false) := (ca_other k1_6)
    replace k1_7 : (w3.alloc (.cells #[.bool x1.num.g, .slice x1.num.a x1.num.n x1.num.c, .bool x1.den.g, .slice x1.den.a x1.den.n x1.den.c, .bool x2.num.g, .slice x2.num.a x2.num.n x2.num.c, .bool x2.den.g, .slice x2.den.a x2.den.n x2.den.c] 50)).cell? ⟨w.heap.size + 1, 7, none⟩ = some (.slice none 0 0) := (ca_other k1_7)
    have k2_0 : (w3.alloc (.cells #[.bool x1.num.g, .slice x1.num.a x1.num.n x1.num.c, .bool x1.den.g, .slice x1.den.a x1.den.n x1.den.c, .bool x2.num.g, .slice x2.num.a x2.num.n x2.num.c, .bool x2.den.g, .slice x2.den.a x2.den.n x2.den.c] 50)).cell? ⟨w3.heap.size, 0, none⟩ = some (.bool x1.num.g) := by simp [go_sem]
    have k2_1 : (w3.alloc (.cells #[.bool x1.num.g, .slice x1.num.a x1.num.n x1.num.c, .bool x1.den.g, .slice x1.den.a x1.den.n x1.den.c, .bool x2.num.g, .slice x2.num.a x2.num.n x2.num.c, .bool x2.den.g, .slice x2.den.a x2.den.n x2.den.c] 50)).cell? ⟨w3.heap.size, 1, none⟩ = some (.slice x1.num.a x1.num.n x1.num.c) := by simp [go_sem]
    have k2_2 : (w3.alloc (.cells #[.bool x1.num.g, .slice x1.num.a x1.num.n x1.num.c, .bool x1.den.g, .slice x1.den.a x1.den.n x1.den.c, .bool x2.num.g, .slice x2.num.a x2.num.n x2.num.c, .bool x2.den.g, .slice x2.den.a x2.den.n x2.den.c] 50)).cell? ⟨w3.heap.size, 2, none⟩ = some (.bool x1.den.g) := by simp [go_sem]
    have k2_3 : (w3.alloc (.cells #[.bool x1.num.g, .slice x1.num.a x1.num.n x1.num.c, .bool x1.den.g, .slice x1.den.a x1.den.n x1.den.c, .bool x2.num.g, .slice x2.num.a x2.num.n x2.num.c, .bool x2.den.g, .slice x2.den.a x2.den.n x2.den.c] 50)).cell? ⟨w3.heap.size, 3, none⟩ = some (.slice x1.den.a x1.den.n x1.den.c) := by simp [go_sem]
    have k2_4 : (w3.alloc (.cells #[.bool x1.num.g, .slice x1.num.a x1.num.n x1.num.c, .bool x1.den.g, .slice x1.den.a x1.den.n x1.den.c, .bool x2.num.g, .slice x2.num.a x2.num.n x2.num.c, .bool x2.den.g, .slice x2.den.a x2.den.n x2.den.c] 50)).cell? ⟨w3.heap.size, 4, none⟩ = some (.bool x2.num.g) := by simp [go_sem]
    have k2_5 : (w3.alloc (.cells #[.bool x1.num.g, .slice x1.num.a x1.num.n x1.num.c, .bool x1.den.g, .slice x1.den.a x1.den.n x1.den.c, .bool x2.num.g, .slice x2.num.a x2.num.n x2.num.c, .bool x2.den.g, .slice x2.den.a x2.den.n x2.den.c] 50)).cell? ⟨w3.heap.size, 5, none⟩ = some (.slice x2.num.a x2.num.n x2.num.c) := by simp [go_sem]
    have k2_6 : (w3.alloc (.cells #[.bool x1.num.g, .slice x1.num.a x1.num.n x1.num.c, .bool x1.den.g, .slice x1.den.a x1.den.n x1.den.c, .bool x2.num.g, .slice x2.num.a x2.num.n x2.num.c, .bool x2.den.g, .slice x2.den.a x2.den.n x2.den.c] 50)).cell? ⟨w3.heap.size, 6, none⟩ = some (.bool x2.den.g) := by simp [go_sem]
    have k2_7 : (w3.alloc (.cells #[.bool x1.num.g, .slice x1.num.a x1.num.n x1.num.c, .bool x1.den.g, .slice x1.den.a x1.den.n x1.den.c, .bool x2.num.g, .slice x2.num.a x2.num.n x2.num.c, .bool x2.den.g, .slice x2.den.a x2.den.n x2.den.c] 50)).cell? ⟨w3.heap.size, 7, none⟩ = some (.slice x2.den.a x2.den.n x2.den.c) := by simp [go_sem]
    replace z1 : ∀ o, (w3.alloc (.cells #[.bool x1.num.g, .slice x1.num.a x1.num.n x1.num.c, .bool x1.den.g, .slice x1.den.a x1.den.n x1.den.c, .bool x2.num.g, .slice x2.num.a x2.num.n x2.num.c, .bool x2.den.g, .slice x2.den.a x2.den.n x2.den.c] 50)).frozen? ⟨w.heap.size + 1, o, none⟩ = false := fun o => frozen_later hb (by omega) (z1 o)
    replace S1 := hide ((unhide S1).later hb)
    replace A1 := hide ((unhide A1).later hb)
    replace B1 := hide ((unhide B1).later hb)
    replace A2 := hide ((unhide A2).later hb)
    replace B2 := hide ((unhide B2).later hb)
    replace HB := hide (below_on (unhide HB) hb)
    have szw4 := hb.size
    clear hb
    have OW0 : Hid (Rw (w3.alloc (.cells #[.bool x1.num.g, .slice x1.num.a x1.num.n x1.num.c, .bool x1.den.g, .slice x1.den.a x1.den.n x1.den.c, .bool x2.num.g, .slice x2.num.a x2.num.n x2.num.c, .bool x2.den.g, .slice x2.den.a x2.den.n x2.den.c] 50)) w3.heap.size (.slice (some ⟨w3.heap.size, 0, none⟩) 2 2) 2 [.bool x1.num.g, .slice x1.num.a x1.num.n x1.num.c, .bool x1.den.g, .slice x1.den.a x1.den.n x1.den.c, .bool x2.num.g, .slice x2.num.a x2.num.n x2.num.c, .bool x2.den.g, .slice x2.den.a x2.den.n x2.den.c]) := hide (row2_owns w3 (.bool x1.num.g) (.slice x1.num.a x1.num.n x1.num.c) (.bool x1.den.g) (.slice x1.den.a x1.den.n x1.den.c) (.bool x2.num.g) (.slice x2.num.a x2.num.n x2.num.c) (.bool x2.den.g) (.slice x2.den.a x2.den.n x2.den.c))
    generalize (w3.alloc (.cells #[.bool x1.num.g, .slice x1.num.a x1.num.n x1.num.c, .bool x1.den.g, .slice x1.den.a x1.den.n x1.den.c, .bool x2.num.g, .slice x2.num.a x2.num.n x2.num.c, .bool x2.den.g, .slice x2.den.a x2.den.n x2.den.c] 50)) = w4 at *
    have q3 : w3.heap.size < w4.heap.size := World.block_lt_of_cell? _ _ k2_0
    cases hn : hN d
    · have EN := hide ((unhide EI).trans hn)
      have HN := hide hn
      clear hn
      go_region_held3 (fun w' => w'.cell? ⟨w.heap.size, 0, none⟩ = some (.bool v.lo.num.g) ∧ w'.cell? ⟨w.heap.size, 1, none⟩ = some (.slice v.lo.num.a v.lo.num.n v.lo.num.c) ∧ w'.cell? ⟨w.heap.size, 2, none⟩ = some (.bool v.lo.den.g) ∧ w'.cell? ⟨w.heap.size, 3, none⟩ = some (.slice v.lo.den.a v.lo.den.n v.lo.den.c) ∧ w'.cell? ⟨w.heap.size, 4, none⟩ = some (.bool v.hi.num.g) ∧ w'.cell? ⟨w.heap.size, 5, none⟩ = some (.slice v.hi.num.a v.hi.num.n v.hi.num.c) ∧ w'.cell? ⟨w.heap.size, 6, none⟩ = some (.bool v.hi.den.g) ∧ w'.cell? ⟨w.heap.size, 7, none⟩ = some (.slice v.hi.den.a v.hi.den.n v.hi.den.c)) (with_reducible (first | exact ⟨k0_0, k0_1, k0_2, k0_3, k0_4, k0_5, k0_6, k0_7⟩ | exact ⟨cd_other k0_0, cd_other k0_1, cd_other k0_2, cd_other k0_3, cd_other k0_4, cd_other k0_5, cd_other k0_6, cd_other k0_7⟩ | fail))
        (first
        | (go_at_call 84; refine (wholeS 0 _ (by omega) (by omega)).mono ?_; rintro e w5 ⟨z, lz1, lz2, rfl, hb, oz, az, m1, m2⟩; have hbx : Below w4.heap.size w4 w5 := below_of_drew hb; have szw5 := hbx.size; replace z1 := fun o => frozen_later hbx (World.block_lt_of_cell? _ _ k1_0) (z1 o); replace k0_0 := cell_later hbx k0_0; replace k0_1 := cell_later hbx k0_1; replace k0_2 := cell_later hbx k0_2; replace k0_3 := cell_later hbx k0_3; replace k0_4 := cell_later hbx k0_4; replace k0_5 := cell_later hbx k0_5; replace k0_6 := cell_later hbx k0_6; replace k0_7 := cell_later hbx k0_7; replace k1_0 := cell_later hbx k1_0; replace k1_1 := cell_later hbx k1_1; replace k1_2 := cell_later hbx k1_2; replace k1_3 := cell_later hbx k1_3; replace k1_4 := cell_later hbx k1_4; replace k1_5 := cell_later hbx k1_5; replace k1_6 := cell_later hbx k1_6; replace k1_7 := cell_later hbx k1_7; replace k2_0 := cell_later hbx k2_0; replace k2_1 := cell_later hbx k2_1; replace k2_2 := cell_later hbx k2_2; replace k2_3 := cell_later hbx k2_3; replace k2_4 := cell_later hbx k2_4; replace k2_5 := cell_later hbx k2_5; replace k2_6 := cell_later hbx k2_6; replace k2_7 := cell_later hbx k2_7; replace S1 := hide ((unhide S1).later hbx); replace A1 := hide ((unhide A1).later hbx); replace B1 := hide ((unhide B1).later hbx); replace A2 := hide ((unhide A2).later hbx); replace B2 := hide ((unhide B2).later hbx); replace OW0 := hide ((unhide OW0).later hbx); have gz := isGood_zero (isQ_of az m1 m2); have GZ := hide (gz); have HBr := hide hbx; clear hbx hb oz az m1 m2 gz)
        | (go_at_call 91; refine (l3In_v v z d zQD _ ?_ ?_).mono ?_; exact (unhide S1).later (Below.refl _ _); exact (unhide GZ).later (Below.refl _ _); rintro e w6 ⟨hin, hb⟩; have hbx : Below w5.heap.size w5 w6 := hb; have szw6 := hbx.size; replace z1 := fun o => frozen_later hbx (World.block_lt_of_cell? _ _ k1_0) (z1 o); replace k0_0 := cell_later hbx k0_0; replace k0_1 := cell_later hbx k0_1; replace k0_2 := cell_later hbx k0_2; replace k0_3 := cell_later hbx k0_3; replace k0_4 := cell_later hbx k0_4; replace k0_5 := cell_later hbx k0_5; replace k0_6 := cell_later hbx k0_6; replace k0_7 := cell_later hbx k0_7; replace k1_0 := cell_later hbx k1_0; replace k1_1 := cell_later hbx k1_1; replace k1_2 := cell_later hbx k1_2; replace k1_3 := cell_later hbx k1_3; replace k1_4 := cell_later hbx k1_4; replace k1_5 := cell_later hbx k1_5; replace k1_6 := cell_later hbx k1_6; replace k1_7 := cell_later hbx k1_7; replace k2_0 := cell_later hbx k2_0; replace k2_1 := cell_later hbx k2_1; replace k2_2 := cell_later hbx k2_2; replace k2_3 := cell_later hbx k2_3; replace k2_4 := cell_later hbx k2_4; replace k2_5 := cell_later hbx k2_5; replace k2_6 := cell_later hbx k2_6; replace k2_7 := cell_later hbx k2_7; replace S1 := hide ((unhide S1).later hbx); replace A1 := hide ((unhide A1).later hbx); replace B1 := hide ((unhide B1).later hbx); replace A2 := hide ((unhide A2).later hbx); replace B2 := hide ((unhide B2).later hbx); replace OW0 := hide ((unhide OW0).later hbx); replace GZ := hide ((unhide GZ).later hbx); rw [unhide EN] at hin; subst hin; have HBr := hide (below_on (unhide HBr) hbx); clear hbx hb))
      replace HB := hide (below_on (unhide HB) (unhide HBr))
      clear HBr
      have LT : Hid ((List.foldl stLo (⟨x1, (lowN (nQ d.lo * nQ d.lo) (dQ d.lo * dQ d.lo)), (lowD (nQ d.lo * nQ d.lo) (dQ d.lo * dQ d.lo))⟩ : RQ) [⟨x1, (lowN (nQ d.lo * nQ d.lo) (dQ d.lo * dQ d.lo)), (lowD (nQ d.lo * nQ d.lo) (dQ d.lo * dQ d.lo))⟩, ⟨x2, (lowN (nQ d.hi * nQ d.hi) (dQ d.hi * dQ d.hi)), (lowD (nQ d.hi * nQ d.hi) (dQ d.hi * dQ d.hi))⟩]).N = (sqL d).1 ∧ (List.foldl stLo (⟨x1, (lowN (nQ d.lo * nQ d.lo) (dQ d.lo * dQ d.lo)), (lowD (nQ d.lo * nQ d.lo) (dQ d.lo * dQ d.lo))⟩ : RQ) [⟨x1, (lowN (nQ d.lo * nQ d.lo) (dQ d.lo * dQ d.lo)), (lowD (nQ d.lo * nQ d.lo) (dQ d.lo * dQ d.lo))⟩, ⟨x2, (lowN (nQ d.hi * nQ d.hi) (dQ d.hi * dQ d.hi)), (lowD (nQ d.hi * nQ d.hi) (dQ d.hi * dQ d.hi))⟩]).D = (sqL d).2 ∧ (List.foldl stHi (⟨x1, (lowN (nQ d.lo * nQ d.lo) (dQ d.lo * dQ d.lo)), (lowD (nQ d.lo * nQ d.lo) (dQ d.lo * dQ d.lo))⟩ : RQ) [⟨x1, (lowN (nQ d.lo * nQ d.lo) (dQ d.lo * dQ d.lo)), (lowD (nQ d.lo * nQ d.lo) (dQ d.lo * dQ d.lo))⟩, ⟨x2, (lowN (nQ d.hi * nQ d.hi) (dQ d.hi * dQ d.hi)), (lowD (nQ d.hi * nQ d.hi) (dQ d.hi * dQ d.hi))⟩]).N = (sqH d).1 ∧ (List.foldl stHi (⟨x1, (lowN (nQ d.lo * nQ d.lo) (dQ d.lo * dQ d.lo)), (lowD (nQ d.lo * nQ d.lo) (dQ d.lo * dQ d.lo))⟩ : RQ) [⟨x1, (lowN (nQ d.lo * nQ d.lo) (dQ d.lo * dQ d.lo)), (lowD (nQ d.lo * nQ d.lo) (dQ d.lo * dQ d.lo))⟩, ⟨x2, (lowN (nQ d.hi * nQ d.hi) (dQ d.hi * dQ d.hi)), (lowD (nQ d.hi * nQ d.hi) (dQ d.hi * dQ d.hi))⟩]).D = (sqH d).2) := hide (by
        have f1 : (List.foldl stLo (⟨x1, (lowN (nQ d.lo * nQ d.lo) (dQ d.lo * dQ d.lo)), (lowD (nQ d.lo * nQ d.lo) (dQ d.lo * dQ d.lo))⟩ : RQ) [⟨x1, (lowN (nQ d.lo * nQ d.lo) (dQ d.lo * dQ d.lo)), (lowD (nQ d.lo * nQ d.lo) (dQ d.lo * dQ d.lo))⟩, ⟨x2, (lowN (nQ d.hi * nQ d.hi) (dQ d.hi * dQ d.hi)), (lowD (nQ d.hi * nQ d.hi) (dQ d.hi * dQ d.hi))⟩]).p = sqL d := (fold_lo ([⟨x1, (lowN (nQ d.lo * nQ d.lo) (dQ d.lo * dQ d.lo)), (lowD (nQ d.lo * nQ d.lo) (dQ d.lo * dQ d.lo))⟩, ⟨x2, (lowN (nQ d.hi * nQ d.hi) (dQ d.hi * dQ d.hi)), (lowD (nQ d.hi * nQ d.hi) (dQ d.hi * dQ d.hi))⟩] : List RQ) (⟨x1, (lowN (nQ d.lo * nQ d.lo) (dQ d.lo * dQ d.lo)), (lowD (nQ d.lo * nQ d.lo) (dQ d.lo * dQ d.lo))⟩ : RQ)).trans ((show pLo (pLo (lowN (nQ d.lo * nQ d.lo) (dQ d.lo * dQ d.lo), lowD (nQ d.lo * nQ d.lo) (dQ d.lo * dQ d.lo)) (lowN (nQ d.lo * nQ d.lo) (dQ d.lo * dQ d.lo), lowD (nQ d.lo * nQ d.lo) (dQ d.lo * dQ d.lo))) (lowN (nQ d.hi * nQ d.hi) (dQ d.hi * dQ d.hi), lowD (nQ d.hi * nQ d.hi) (dQ d.hi * dQ d.hi)) = sqL d by rw [pLo_self]; exact (sqL_no (unhide HN)).symm))
        have f2 : (List.foldl stHi (⟨x1, (lowN (nQ d.lo * nQ d.lo) (dQ d.lo * dQ d.lo)), (lowD (nQ d.lo * nQ d.lo) (dQ d.lo * dQ d.lo))⟩ : RQ) [⟨x1, (lowN (nQ d.lo * nQ d.lo) (dQ d.lo * dQ d.lo)), (lowD (nQ d.lo * nQ d.lo) (dQ d.lo * dQ d.lo))⟩, ⟨x2, (lowN (nQ d.hi * nQ d.hi) (dQ d.hi * dQ d.hi)), (lowD (nQ d.hi * nQ d.hi) (dQ d.hi * dQ d.hi))⟩]).p = sqH d := (fold_hi ([⟨x1, (lowN (nQ d.lo * nQ d.lo) (dQ d.lo * dQ d.lo)), (lowD (nQ d.lo * nQ d.lo) (dQ d.lo * dQ d.lo))⟩, ⟨x2, (lowN (nQ d.hi * nQ d.hi) (dQ d.hi * dQ d.hi)), (lowD (nQ d.hi * nQ d.hi) (dQ d.hi * dQ d.hi))⟩] : List RQ) (⟨x1, (lowN (nQ d.lo * nQ d.lo) (dQ d.lo * dQ d.lo)), (lowD (nQ d.lo * nQ d.lo) (dQ d.lo * dQ d.lo))⟩ : RQ)).trans ((show pHi (pHi (lowN (nQ d.lo * nQ d.lo) (dQ d.lo * dQ d.lo), lowD (nQ d.lo * nQ d.lo) (dQ d.lo * dQ d.lo)) (lowN (nQ d.lo * nQ d.lo) (dQ d.lo * dQ d.lo), lowD (nQ d.lo * nQ d.lo) (dQ d.lo * dQ d.lo))) (lowN (nQ d.hi * nQ d.hi) (dQ d.hi * dQ d.hi), lowD (nQ d.hi * nQ d.hi) (dQ d.hi * dQ d.hi)) = sqH d by rw [pHi_self]; rfl))
        exact ⟨congrArg Prod.fst f1, congrArg Prod.snd f1, congrArg Prod.fst f2, congrArg Prod.snd f2⟩)
      go_wp2_with fail
      refine (l3Of_v ⟨x1, (lowN (nQ d.lo * nQ d.lo) (dQ d.lo * dQ d.lo)), (lowD (nQ d.lo * nQ d.lo) (dQ d.lo * dQ d.lo))⟩ w3.heap.size 0 2 2 [⟨x1, (lowN (nQ d.lo * nQ d.lo) (dQ d.lo * dQ d.lo)), (lowD (nQ d.lo * nQ d.lo) (dQ d.lo * dQ d.lo))⟩, ⟨x2, (lowN (nQ d.hi * nQ d.hi) (dQ d.hi * dQ d.hi)), (lowD (nQ d.hi * nQ d.hi) (dQ d.hi * dQ d.hi))⟩] _ ⟨⟨(unhide A1).is, (unhide B1).is⟩, (unhide BX).1.1, (unhide BX).1.2⟩ (rats_2c (r1 := ⟨x1, (lowN (nQ d.lo * nQ d.lo) (dQ d.lo * dQ d.lo)), (lowD (nQ d.lo * nQ d.lo) (dQ d.lo * dQ d.lo))⟩) (r2 := ⟨x2, (lowN (nQ d.hi * nQ d.hi) (dQ d.hi * dQ d.hi)), (lowD (nQ d.hi * nQ d.hi) (dQ d.hi * dQ d.hi))⟩) k2_0 k2_1 k2_2 k2_3 k2_4 k2_5 k2_6 k2_7 ⟨⟨(unhide A1).is, (unhide B1).is⟩, (unhide BX).1.1, (unhide BX).1.2⟩ ⟨⟨(unhide A2).is, (unhide B2).is⟩, (unhide BX).2.1, (unhide BX).2.2⟩) rfl (by omega) (by omega) ⟨k2_0, k2_1, k2_2, k2_3⟩).mono ?_
      rintro e w8 ⟨rr, rfl, hb, i1, i2⟩
      have s8 := hb.size
      rw [(unhide LT).1, (unhide LT).2.1] at i1
      rw [(unhide LT).2.2.1, (unhide LT).2.2.2] at i2
      replace z1 := fun o => frozen_later hb (World.block_lt_of_cell? _ _ k1_0) (z1 o)
      replace k1_0 := cell_later hb k1_0
      replace k1_1 := cell_later hb k1_1
      replace k1_2 := cell_later hb k1_2
      replace k1_3 := cell_later hb k1_3
      replace k1_4 := cell_later hb k1_4
      replace k1_5 := cell_later hb k1_5
      replace k1_6 := cell_later hb k1_6
      replace k1_7 := cell_later hb k1_7
      clear k0_0 k0_1 k0_2 k0_3 k0_4 k0_5 k0_6 k0_7 k2_0 k2_1 k2_2 k2_3 k2_4 k2_5 k2_6 k2_7
      replace S1 := hide ((unhide S1).later hb)
      replace A1 := hide ((unhide A1).later hb)
      replace B1 := hide ((unhide B1).later hb)
      replace A2 := hide ((unhide A2).later hb)
      replace B2 := hide ((unhide B2).later hb)
      replace OW0 := hide ((unhide OW0).later hb)
      replace GZ := hide ((unhide GZ).later hb)
      have I1 := hide (i1)
      have I2 := hide (i2)
      replace HB := hide (below_on (unhide HB) hb)
      clear hb
      clear i1 i2 LT
      go_wp2_with fail
      refine (fitsSS rr _ _ _ _ _ (unhide I1) (unhide I2) (unhide PP).1 (unhide PP).2).mono ?_
      rintro e w9 ⟨r2, dr, ok, rfl, hb, ov, hu⟩
      have s9 := hb.size
      have UU := hide hu
      replace z1 := fun o => frozen_later hb (World.block_lt_of_cell? _ _ k1_0) (z1 o)
      replace k1_0 := cell_later hb k1_0
      replace k1_1 := cell_later hb k1_1
      replace k1_2 := cell_later hb k1_2
      replace k1_3 := cell_later hb k1_3
      replace k1_4 := cell_later hb k1_4
      replace k1_5 := cell_later hb k1_5
      replace k1_6 := cell_later hb k1_6
      replace k1_7 := cell_later hb k1_7
      replace S1 := hide ((unhide S1).later hb)
      replace A1 := hide ((unhide A1).later hb)
      replace B1 := hide ((unhide B1).later hb)
      replace A2 := hide ((unhide A2).later hb)
      replace B2 := hide ((unhide B2).later hb)
      replace OW0 := hide ((unhide OW0).later hb)
      replace GZ := hide ((unhide GZ).later hb)
      replace I1 := hide ((unhide I1).later hb)
      replace I2 := hide ((unhide I2).later hb)
      have OV := hide (ov)
      replace HB := hide (below_on (unhide HB) hb)
      clear hb
      clear ov hu
      go_wp2
      refine bodyPost_ret (v := .tuple #[.agg #[.bool r2.lo.num.g, .slice r2.lo.num.a r2.lo.num.n r2.lo.num.c, .bool r2.lo.den.g, .slice r2.lo.den.a r2.lo.den.n r2.lo.den.c, .bool r2.hi.num.g, .slice r2.hi.num.a r2.hi.num.n r2.hi.num.c, .bool r2.hi.den.g, .slice r2.hi.den.a r2.hi.den.n r2.hi.den.c], .bool ok]) (by simp [results, Try.results38, go_sem, k1_0, k1_1, k1_2, k1_3, k1_4, k1_5, k1_6, k1_7]) rfl ?_
      exact retS_fin (v := r2) (d := dr) (R := w.heap.size + 1) (by omega) (unhide HB) (metS_but (w5 := w9) (v := r2) (G := w.heap.size + 1)) ((unhide OV).wide (by omega) (by omega)) (unhide UU)
    · have EN := hide ((unhide EI).trans hn)
      have HN := hide hn
      clear hn
      go_region_held3 (fun w' => w'.cell? ⟨w.heap.size, 0, none⟩ = some (.bool v.lo.num.g) ∧ w'.cell? ⟨w.heap.size, 1, none⟩ = some (.slice v.lo.num.a v.lo.num.n v.lo.num.c) ∧ w'.cell? ⟨w.heap.size, 2, none⟩ = some (.bool v.lo.den.g) ∧ w'.cell? ⟨w.heap.size, 3, none⟩ = some (.slice v.lo.den.a v.lo.den.n v.lo.den.c) ∧ w'.cell? ⟨w.heap.size, 4, none⟩ = some (.bool v.hi.num.g) ∧ w'.cell? ⟨w.heap.size, 5, none⟩ = some (.slice v.hi.num.a v.hi.num.n v.hi.num.c) ∧ w'.cell? ⟨w.heap.size, 6, none⟩ = some (.bool v.hi.den.g) ∧ w'.cell? ⟨w.heap.size, 7, none⟩ = some (.slice v.hi.den.a v.hi.den.n v.hi.den.c)) (with_reducible (first | exact ⟨k0_0, k0_1, k0_2, k0_3, k0_4, k0_5, k0_6, k0_7⟩ | exact ⟨cd_other k0_0, cd_other k0_1, cd_other k0_2, cd_other k0_3, cd_other k0_4, cd_other k0_5, cd_other k0_6, cd_other k0_7⟩ | fail))
        (first
        | (go_at_call 84; refine (wholeS 0 _ (by omega) (by omega)).mono ?_; rintro e w5 ⟨z, lz1, lz2, rfl, hb, oz, az, m1, m2⟩; have hbx : Below w4.heap.size w4 w5 := below_of_drew hb; have szw5 := hbx.size; replace z1 := fun o => frozen_later hbx (World.block_lt_of_cell? _ _ k1_0) (z1 o); replace k0_0 := cell_later hbx k0_0; replace k0_1 := cell_later hbx k0_1; replace k0_2 := cell_later hbx k0_2; replace k0_3 := cell_later hbx k0_3; replace k0_4 := cell_later hbx k0_4; replace k0_5 := cell_later hbx k0_5; replace k0_6 := cell_later hbx k0_6; replace k0_7 := cell_later hbx k0_7; replace k1_0 := cell_later hbx k1_0; replace k1_1 := cell_later hbx k1_1; replace k1_2 := cell_later hbx k1_2; replace k1_3 := cell_later hbx k1_3; replace k1_4 := cell_later hbx k1_4; replace k1_5 := cell_later hbx k1_5; replace k1_6 := cell_later hbx k1_6; replace k1_7 := cell_later hbx k1_7; replace k2_0 := cell_later hbx k2_0; replace k2_1 := cell_later hbx k2_1; replace k2_2 := cell_later hbx k2_2; replace k2_3 := cell_later hbx k2_3; replace k2_4 := cell_later hbx k2_4; replace k2_5 := cell_later hbx k2_5; replace k2_6 := cell_later hbx k2_6; replace k2_7 := cell_later hbx k2_7; replace S1 := hide ((unhide S1).later hbx); replace A1 := hide ((unhide A1).later hbx); replace B1 := hide ((unhide B1).later hbx); replace A2 := hide ((unhide A2).later hbx); replace B2 := hide ((unhide B2).later hbx); replace OW0 := hide ((unhide OW0).later hbx); have gz := isGood_zero (isQ_of az m1 m2); have GZ := hide (gz); have HBr := hide hbx; clear hbx hb oz az m1 m2 gz)
        | (go_at_call 91; refine (l3In_v v z d zQD _ ?_ ?_).mono ?_; exact (unhide S1).later (Below.refl _ _); exact (unhide GZ).later (Below.refl _ _); rintro e w6 ⟨hin, hb⟩; have hbx : Below w5.heap.size w5 w6 := hb; have szw6 := hbx.size; replace z1 := fun o => frozen_later hbx (World.block_lt_of_cell? _ _ k1_0) (z1 o); replace k0_0 := cell_later hbx k0_0; replace k0_1 := cell_later hbx k0_1; replace k0_2 := cell_later hbx k0_2; replace k0_3 := cell_later hbx k0_3; replace k0_4 := cell_later hbx k0_4; replace k0_5 := cell_later hbx k0_5; replace k0_6 := cell_later hbx k0_6; replace k0_7 := cell_later hbx k0_7; replace k1_0 := cell_later hbx k1_0; replace k1_1 := cell_later hbx k1_1; replace k1_2 := cell_later hbx k1_2; replace k1_3 := cell_later hbx k1_3; replace k1_4 := cell_later hbx k1_4; replace k1_5 := cell_later hbx k1_5; replace k1_6 := cell_later hbx k1_6; replace k1_7 := cell_later hbx k1_7; replace k2_0 := cell_later hbx k2_0; replace k2_1 := cell_later hbx k2_1; replace k2_2 := cell_later hbx k2_2; replace k2_3 := cell_later hbx k2_3; replace k2_4 := cell_later hbx k2_4; replace k2_5 := cell_later hbx k2_5; replace k2_6 := cell_later hbx k2_6; replace k2_7 := cell_later hbx k2_7; replace S1 := hide ((unhide S1).later hbx); replace A1 := hide ((unhide A1).later hbx); replace B1 := hide ((unhide B1).later hbx); replace A2 := hide ((unhide A2).later hbx); replace B2 := hide ((unhide B2).later hbx); replace OW0 := hide ((unhide OW0).later hbx); replace GZ := hide ((unhide GZ).later hbx); rw [unhide EN] at hin; subst hin; have HBr := hide (below_on (unhide HBr) hbx); clear hbx hb))
      replace HB := hide (below_on (unhide HB) (unhide HBr))
      clear HBr
      go_wp2_with fail
      refine (wholeS 0 _ (by omega) (by omega)).mono ?_
      rintro e w7 ⟨z2, ly1, ly2, rfl, hb, oz, az, m1, m2⟩
      have s7 := hb.size
      replace z1 := fun o => frozen_later hb (World.block_lt_of_cell? _ _ k1_0) (z1 o)
      replace k1_0 := cell_later hb k1_0
      replace k1_1 := cell_later hb k1_1
      replace k1_2 := cell_later hb k1_2
      replace k1_3 := cell_later hb k1_3
      replace k1_4 := cell_later hb k1_4
      replace k1_5 := cell_later hb k1_5
      replace k1_6 := cell_later hb k1_6
      replace k1_7 := cell_later hb k1_7
      replace k2_0 := cell_later hb k2_0
      replace k2_1 := cell_later hb k2_1
      replace k2_2 := cell_later hb k2_2
      replace k2_3 := cell_later hb k2_3
      replace k2_4 := cell_later hb k2_4
      replace k2_5 := cell_later hb k2_5
      replace k2_6 := cell_later hb k2_6
      replace k2_7 := cell_later hb k2_7
      clear k0_0 k0_1 k0_2 k0_3 k0_4 k0_5 k0_6 k0_7
      replace S1 := hide ((unhide S1).later hb)
      replace A1 := hide ((unhide A1).later hb)
      replace B1 := hide ((unhide B1).later hb)
      replace A2 := hide ((unhide A2).later hb)
      replace B2 := hide ((unhide B2).later hb)
      replace OW0 := hide ((unhide OW0).later hb)
      replace GZ := hide ((unhide GZ).later hb)
      have AZ := hide ((outQ_ows (w := w) oz az m1 m2).1)
      have BZ := hide ((outQ_ows (w := w) oz az m1 m2).2)
      replace HB := hide (below_on (unhide HB) hb)
      clear hb
      clear oz az m1 m2
      have al : Below w7.heap.size w7 (w7.alloc (.cells #[.bool z2.num.g, .slice z2.num.a z2.num.n z2.num.c, .bool z2.den.g, .slice z2.den.a z2.den.n z2.den.c] 50)) := (Below.refl _ _).alloc (Nat.le_refl _) _
      have OW : Hid ((w7.alloc (.cells #[.bool z2.num.g, .slice z2.num.a z2.num.n z2.num.c, .bool z2.den.g, .slice z2.den.a z2.den.n z2.den.c] 50)).ownsRow w3.heap.size 50 4 (.slice (some ⟨w3.heap.size, 0, none⟩) 2 2) 2 [.bool x1.num.g, .slice x1.num.a x1.num.n x1.num.c, .bool x1.den.g, .slice x1.den.a x1.den.n x1.den.c, .bool x2.num.g, .slice x2.num.a x2.num.n x2.num.c, .bool x2.den.g, .slice x2.den.a x2.den.n x2.den.c]) := hide (owns_later (unhide OW0) al)
      replace A1 := hide ((unhide A1).later al)
      replace B1 := hide ((unhide B1).later al)
      replace A2 := hide ((unhide A2).later al)
      replace B2 := hide ((unhide B2).later al)
      replace AZ := hide ((unhide AZ).later al)
      replace BZ := hide ((unhide BZ).later al)
      replace HB := hide (below_on (unhide HB) al)
      replace k1_0 := cell_later al k1_0
      replace k1_1 := cell_later al k1_1
      replace k1_2 := cell_later al k1_2
      replace k1_3 := cell_later al k1_3
      replace k1_4 := cell_later al k1_4
      replace k1_5 := cell_later al k1_5
      replace k1_6 := cell_later al k1_6
      replace k1_7 := cell_later al k1_7
      replace z1 := fun o => frozen_later al (show w.heap.size + 1 < w7.heap.size by omega) (z1 o)
      clear al OW0 k2_0 k2_1 k2_2 k2_3 k2_4 k2_5 k2_6 k2_7
      go_wp2_with (at_builtin; refine wpList_append_lies _ rfl (.tmp 23) (.tmp 25) 103 rfl w3.heap.size 50 i0 (.agg #[.bool false, .slice none 0 0, .bool false, .slice none 0 0]) 4 64 Try.underlying103 hi hz0 hz1 hz2 rfl (by decide) _ 2 _ rfl (unhide OW) ⟨w7.heap.size, 0, none⟩ 1 1 [.bool z2.num.g, .slice z2.num.a z2.num.n z2.num.c, .bool z2.den.g, .slice z2.den.a z2.den.n z2.den.c] rfl rfl (World.news_of_block (cs := #[.bool z2.num.g, .slice z2.num.a z2.num.n z2.num.c, .bool z2.den.g, .slice z2.den.a z2.den.n z2.den.c]) (t := 50) (fr := (0, 0)) (heap_alloc_new _ _)) (by intro u' hu'; simp at hu'; rcases hu' with rfl | rfl | rfl | rfl <;> rfl) (by omega) (by unfold maxLen; omega) (by omega) (by simp; omega) _ rfl ?_)
      intro g cap w8a hown hgrow hor hlt8
      have hne : some (w.heap.size + 1) ≠ (Value.slice (some ⟨w3.heap.size, 0, none⟩) 2 2).ownBlock := by simp [Value.ownBlock]; omega
      have hl1 : w.heap.size + 1 < (w7.alloc (.cells #[.bool z2.num.g, .slice z2.num.a z2.num.n z2.num.c, .bool z2.den.g, .slice z2.den.a z2.den.n z2.den.c] 50)).heap.size := by simp; omega
      replace k1_0 := (hgrow.cell_far ⟨w.heap.size + 1, 0, none⟩ hl1 hne).trans k1_0
      replace k1_1 := (hgrow.cell_far ⟨w.heap.size + 1, 1, none⟩ hl1 hne).trans k1_1
      replace k1_2 := (hgrow.cell_far ⟨w.heap.size + 1, 2, none⟩ hl1 hne).trans k1_2
      replace k1_3 := (hgrow.cell_far ⟨w.heap.size + 1, 3, none⟩ hl1 hne).trans k1_3
      replace k1_4 := (hgrow.cell_far ⟨w.heap.size + 1, 4, none⟩ hl1 hne).trans k1_4
      replace k1_5 := (hgrow.cell_far ⟨w.heap.size + 1, 5, none⟩ hl1 hne).trans k1_5
      replace k1_6 := (hgrow.cell_far ⟨w.heap.size + 1, 6, none⟩ hl1 hne).trans k1_6
      replace k1_7 := (hgrow.cell_far ⟨w.heap.size + 1, 7, none⟩ hl1 hne).trans k1_7
      replace z1 := fun o => (hgrow.frozen_far ⟨w.heap.size + 1, o, none⟩ hl1 hne).trans (z1 o)
      replace A1 := hide ((unhide A1).grow hgrow (unhide OW))
      replace B1 := hide ((unhide B1).grow hgrow (unhide OW))
      replace A2 := hide ((unhide A2).grow hgrow (unhide OW))
      replace B2 := hide ((unhide B2).grow hgrow (unhide OW))
      replace AZ := hide ((unhide AZ).grow hgrow (unhide OW))
      replace BZ := hide ((unhide BZ).grow hgrow (unhide OW))
      replace HB := hide ((unhide HB).grown hgrow (unhide HB).size (fun k hk => by have := owns_base (unhide OW) k hk; omega))
      have s8a : w7.heap.size ≤ w8a.heap.size := by have := hgrow.size; simp at this; omega
      have RT := hide (rats_3o (r1 := ⟨x1, (lowN (nQ d.lo * nQ d.lo) (dQ d.lo * dQ d.lo)), (lowD (nQ d.lo * nQ d.lo) (dQ d.lo * dQ d.lo))⟩) (r2 := ⟨x2, (lowN (nQ d.hi * nQ d.hi) (dQ d.hi * dQ d.hi)), (lowD (nQ d.hi * nQ d.hi) (dQ d.hi * dQ d.hi))⟩) (r3 := ⟨z2, 0, 1⟩) hown hlt8 ⟨⟨(unhide A1).is, (unhide B1).is⟩, (unhide BX).1.1, (unhide BX).1.2⟩ ⟨⟨(unhide A2).is, (unhide B2).is⟩, (unhide BX).2.1, (unhide BX).2.2⟩ ⟨⟨(unhide AZ).is, (unhide BZ).is⟩, (show Bd 0 1 from ⟨by decide⟩).mono (by omega), (show Bd 1 1 from ⟨by decide⟩).mono (by omega)⟩)
      have RC := hide ((unhide RT).at_ 0 (by simp))
      have JX : Hid (RQ.Is w8a ⟨x1, (lowN (nQ d.lo * nQ d.lo) (dQ d.lo * dQ d.lo)), (lowD (nQ d.lo * nQ d.lo) (dQ d.lo * dQ d.lo))⟩) := hide ⟨⟨(unhide A1).is, (unhide B1).is⟩, (unhide BX).1.1, (unhide BX).1.2⟩
      clear hown hgrow hor hne hl1 OW A1 B1 A2 B2 AZ BZ
      have LT : Hid ((List.foldl stLo (⟨x1, (lowN (nQ d.lo * nQ d.lo) (dQ d.lo * dQ d.lo)), (lowD (nQ d.lo * nQ d.lo) (dQ d.lo * dQ d.lo))⟩ : RQ) [⟨x1, (lowN (nQ d.lo * nQ d.lo) (dQ d.lo * dQ d.lo)), (lowD (nQ d.lo * nQ d.lo) (dQ d.lo * dQ d.lo))⟩, ⟨x2, (lowN (nQ d.hi * nQ d.hi) (dQ d.hi * dQ d.hi)), (lowD (nQ d.hi * nQ d.hi) (dQ d.hi * dQ d.hi))⟩, ⟨z2, 0, 1⟩]).N = (sqL d).1 ∧ (List.foldl stLo (⟨x1, (lowN (nQ d.lo * nQ d.lo) (dQ d.lo * dQ d.lo)), (lowD (nQ d.lo * nQ d.lo) (dQ d.lo * dQ d.lo))⟩ : RQ) [⟨x1, (lowN (nQ d.lo * nQ d.lo) (dQ d.lo * dQ d.lo)), (lowD (nQ d.lo * nQ d.lo) (dQ d.lo * dQ d.lo))⟩, ⟨x2, (lowN (nQ d.hi * nQ d.hi) (dQ d.hi * dQ d.hi)), (lowD (nQ d.hi * nQ d.hi) (dQ d.hi * dQ d.hi))⟩, ⟨z2, 0, 1⟩]).D = (sqL d).2 ∧ (List.foldl stHi (⟨x1, (lowN (nQ d.lo * nQ d.lo) (dQ d.lo * dQ d.lo)), (lowD (nQ d.lo * nQ d.lo) (dQ d.lo * dQ d.lo))⟩ : RQ) [⟨x1, (lowN (nQ d.lo * nQ d.lo) (dQ d.lo * dQ d.lo)), (lowD (nQ d.lo * nQ d.lo) (dQ d.lo * dQ d.lo))⟩, ⟨x2, (lowN (nQ d.hi * nQ d.hi) (dQ d.hi * dQ d.hi)), (lowD (nQ d.hi * nQ d.hi) (dQ d.hi * dQ d.hi))⟩, ⟨z2, 0, 1⟩]).N = (sqH d).1 ∧ (List.foldl stHi (⟨x1, (lowN (nQ d.lo * nQ d.lo) (dQ d.lo * dQ d.lo)), (lowD (nQ d.lo * nQ d.lo) (dQ d.lo * dQ d.lo))⟩ : RQ) [⟨x1, (lowN (nQ d.lo * nQ d.lo) (dQ d.lo * dQ d.lo)), (lowD (nQ d.lo * nQ d.lo) (dQ d.lo * dQ d.lo))⟩, ⟨x2, (lowN (nQ d.hi * nQ d.hi) (dQ d.hi * dQ d.hi)), (lowD (nQ d.hi * nQ d.hi) (dQ d.hi * dQ d.hi))⟩, ⟨z2, 0, 1⟩]).D = (sqH d).2) := hide (by
        have f1 : (List.foldl stLo (⟨x1, (lowN (nQ d.lo * nQ d.lo) (dQ d.lo * dQ d.lo)), (lowD (nQ d.lo * nQ d.lo) (dQ d.lo * dQ d.lo))⟩ : RQ) [⟨x1, (lowN (nQ d.lo * nQ d.lo) (dQ d.lo * dQ d.lo)), (lowD (nQ d.lo * nQ d.lo) (dQ d.lo * dQ d.lo))⟩, ⟨x2, (lowN (nQ d.hi * nQ d.hi) (dQ d.hi * dQ d.hi)), (lowD (nQ d.hi * nQ d.hi) (dQ d.hi * dQ d.hi))⟩, ⟨z2, 0, 1⟩]).p = sqL d := (fold_lo ([⟨x1, (lowN (nQ d.lo * nQ d.lo) (dQ d.lo * dQ d.lo)), (lowD (nQ d.lo * nQ d.lo) (dQ d.lo * dQ d.lo))⟩, ⟨x2, (lowN (nQ d.hi * nQ d.hi) (dQ d.hi * dQ d.hi)), (lowD (nQ d.hi * nQ d.hi) (dQ d.hi * dQ d.hi))⟩, ⟨z2, 0, 1⟩] : List RQ) (⟨x1, (lowN (nQ d.lo * nQ d.lo) (dQ d.lo * dQ d.lo)), (lowD (nQ d.lo * nQ d.lo) (dQ d.lo * dQ d.lo))⟩ : RQ)).trans ((sq_fold (unhide SR).1 (unhide SR).2).2.1.trans (sqL_yes (unhide HN)).symm)
        have f2 : (List.foldl stHi (⟨x1, (lowN (nQ d.lo * nQ d.lo) (dQ d.lo * dQ d.lo)), (lowD (nQ d.lo * nQ d.lo) (dQ d.lo * dQ d.lo))⟩ : RQ) [⟨x1, (lowN (nQ d.lo * nQ d.lo) (dQ d.lo * dQ d.lo)), (lowD (nQ d.lo * nQ d.lo) (dQ d.lo * dQ d.lo))⟩, ⟨x2, (lowN (nQ d.hi * nQ d.hi) (dQ d.hi * dQ d.hi)), (lowD (nQ d.hi * nQ d.hi) (dQ d.hi * dQ d.hi))⟩, ⟨z2, 0, 1⟩]).p = sqH d := (fold_hi ([⟨x1, (lowN (nQ d.lo * nQ d.lo) (dQ d.lo * dQ d.lo)), (lowD (nQ d.lo * nQ d.lo) (dQ d.lo * dQ d.lo))⟩, ⟨x2, (lowN (nQ d.hi * nQ d.hi) (dQ d.hi * dQ d.hi)), (lowD (nQ d.hi * nQ d.hi) (dQ d.hi * dQ d.hi))⟩, ⟨z2, 0, 1⟩] : List RQ) (⟨x1, (lowN (nQ d.lo * nQ d.lo) (dQ d.lo * dQ d.lo)), (lowD (nQ d.lo * nQ d.lo) (dQ d.lo * dQ d.lo))⟩ : RQ)).trans ((sq_fold (unhide SR).1 (unhide SR).2).2.2)
        exact ⟨congrArg Prod.fst f1, congrArg Prod.snd f1, congrArg Prod.fst f2, congrArg Prod.snd f2⟩)
      go_wp2_with fail
      refine (l3Of_v ⟨x1, (lowN (nQ d.lo * nQ d.lo) (dQ d.lo * dQ d.lo)), (lowD (nQ d.lo * nQ d.lo) (dQ d.lo * dQ d.lo))⟩ g 0 3 cap [⟨x1, (lowN (nQ d.lo * nQ d.lo) (dQ d.lo * dQ d.lo)), (lowD (nQ d.lo * nQ d.lo) (dQ d.lo * dQ d.lo))⟩, ⟨x2, (lowN (nQ d.hi * nQ d.hi) (dQ d.hi * dQ d.hi)), (lowD (nQ d.hi * nQ d.hi) (dQ d.hi * dQ d.hi))⟩, ⟨z2, 0, 1⟩] _ (unhide JX) (unhide RT) rfl (by omega) (by omega) (unhide RC)).mono ?_
      rintro e w8 ⟨rr, rfl, hb, i1, i2⟩
      have s8 := hb.size
      rw [(unhide LT).1, (unhide LT).2.1] at i1
      rw [(unhide LT).2.2.1, (unhide LT).2.2.2] at i2
      replace z1 := fun o => frozen_later hb (World.block_lt_of_cell? _ _ k1_0) (z1 o)
      replace k1_0 := cell_later hb k1_0
      replace k1_1 := cell_later hb k1_1
      replace k1_2 := cell_later hb k1_2
      replace k1_3 := cell_later hb k1_3
      replace k1_4 := cell_later hb k1_4
      replace k1_5 := cell_later hb k1_5
      replace k1_6 := cell_later hb k1_6
      replace k1_7 := cell_later hb k1_7
      have I1 := hide (i1)
      have I2 := hide (i2)
      replace HB := hide (below_on (unhide HB) hb)
      clear hb
      clear i1 i2 LT
      go_wp2_with fail
      refine (fitsSS rr _ _ _ _ _ (unhide I1) (unhide I2) (unhide PP).1 (unhide PP).2).mono ?_
      rintro e w9 ⟨r2, dr, ok, rfl, hb, ov, hu⟩
      have s9 := hb.size
      have UU := hide hu
      replace z1 := fun o => frozen_later hb (World.block_lt_of_cell? _ _ k1_0) (z1 o)
      replace k1_0 := cell_later hb k1_0
      replace k1_1 := cell_later hb k1_1
      replace k1_2 := cell_later hb k1_2
      replace k1_3 := cell_later hb k1_3
      replace k1_4 := cell_later hb k1_4
      replace k1_5 := cell_later hb k1_5
      replace k1_6 := cell_later hb k1_6
      replace k1_7 := cell_later hb k1_7
      replace I1 := hide ((unhide I1).later hb)
      replace I2 := hide ((unhide I2).later hb)
      have OV := hide (ov)
      replace HB := hide (below_on (unhide HB) hb)
      clear hb
      clear ov hu
      go_wp2
      refine bodyPost_ret (v := .tuple #[.agg #[.bool r2.lo.num.g, .slice r2.lo.num.a r2.lo.num.n r2.lo.num.c, .bool r2.lo.den.g, .slice r2.lo.den.a r2.lo.den.n r2.lo.den.c, .bool r2.hi.num.g, .slice r2.hi.num.a r2.hi.num.n r2.hi.num.c, .bool r2.hi.den.g, .slice r2.hi.den.a r2.hi.den.n r2.hi.den.c], .bool ok]) (by simp [results, Try.results38, go_sem, k1_0, k1_1, k1_2, k1_3, k1_4, k1_5, k1_6, k1_7]) rfl ?_
      exact retS_fin (v := r2) (d := dr) (R := w.heap.size + 1) (by omega) (unhide HB) (metS_but (w5 := w9) (v := r2) (G := w.heap.size + 1)) ((unhide OV).wide (by omega) (by omega)) (unhide UU)
end Go.Proofs.Ytagnhgefdcckoaa
namespace Go.Proofs.Ytagnhgefdcckoaa
open Go.RowKit
set_option linter.unusedVariables false
set_option maxRecDepth 100000
set_option linter.unusedSimpArgs false

structure TlawSq (w wx : World) (v0 : SV) (d0 : SD) : Prop where
  bel : Below w.heap.size w wx
  x0_0 : wx.cell? ⟨w.heap.size, 0, none⟩ = some (.bool v0.lo.num.g)
  x0_1 : wx.cell? ⟨w.heap.size, 1, none⟩ = some (.slice v0.lo.num.a v0.lo.num.n v0.lo.num.c)
  x0_2 : wx.cell? ⟨w.heap.size, 2, none⟩ = some (.bool v0.lo.den.g)
  x0_3 : wx.cell? ⟨w.heap.size, 3, none⟩ = some (.slice v0.lo.den.a v0.lo.den.n v0.lo.den.c)
  x0_4 : wx.cell? ⟨w.heap.size, 4, none⟩ = some (.bool v0.hi.num.g)
  x0_5 : wx.cell? ⟨w.heap.size, 5, none⟩ = some (.slice v0.hi.num.a v0.hi.num.n v0.hi.num.c)
  x0_6 : wx.cell? ⟨w.heap.size, 6, none⟩ = some (.bool v0.hi.den.g)
  x0_7 : wx.cell? ⟨w.heap.size, 7, none⟩ = some (.slice v0.hi.den.a v0.hi.den.n v0.hi.den.c)
  s0 : AllSl wx [(v0.lo.num, d0.lo.num), (v0.lo.den, d0.lo.den), (v0.hi.num, d0.hi.num), (v0.hi.den, d0.hi.den)]
theorem TlawSq.later {w wx wy : World} {v0 : SV} {d0 : SD} (h : TlawSq w wx v0 d0) (hb : Below wx.heap.size wx wy) : TlawSq w wy v0 d0 :=
  ⟨below_on h.bel hb, cell_later hb h.x0_0, cell_later hb h.x0_1, cell_later hb h.x0_2, cell_later hb h.x0_3, cell_later hb h.x0_4, cell_later hb h.x0_5, cell_later hb h.x0_6, cell_later hb h.x0_7, h.s0.later hb⟩
theorem TlawSq.but {w wx wy : World} {v0 : SV} {d0 : SD} {lo hi : Nat} (h : TlawSq w wx v0 d0) (hb : But lo hi wx wy) (hl : w.heap.size + 1 ≤ lo) (hx0 : AllSl w [(v0.lo.num, d0.lo.num), (v0.lo.den, d0.lo.den), (v0.hi.num, d0.hi.num), (v0.hi.den, d0.hi.den)]) : TlawSq w wy v0 d0 := by
  have hB := hb.below h.bel (by omega) h.bel.size
  exact ⟨hB, hb.cell h.x0_0 (by omega), hb.cell h.x0_1 (by omega), hb.cell h.x0_2 (by omega), hb.cell h.x0_3 (by omega), hb.cell h.x0_4 (by omega), hb.cell h.x0_5 (by omega), hb.cell h.x0_6 (by omega), hb.cell h.x0_7 (by omega), hx0.later hB⟩
theorem TlawSq.start (w : World) (v0 : SV) (d0 : SD) (t0 : TypeId) (hx0 : AllSl w [(v0.lo.num, d0.lo.num), (v0.lo.den, d0.lo.den), (v0.hi.num, d0.hi.num), (v0.hi.den, d0.hi.den)]) : TlawSq w (w.alloc (.cells #[.bool v0.lo.num.g, .slice v0.lo.num.a v0.lo.num.n v0.lo.num.c, .bool v0.lo.den.g, .slice v0.lo.den.a v0.lo.den.n v0.lo.den.c, .bool v0.hi.num.g, .slice v0.hi.num.a v0.hi.num.n v0.hi.num.c, .bool v0.hi.den.g, .slice v0.hi.den.a v0.hi.den.n v0.hi.den.c] t0)) v0 d0 := by
  have hb : Below w.heap.size w (w.alloc (.cells #[.bool v0.lo.num.g, .slice v0.lo.num.a v0.lo.num.n v0.lo.num.c, .bool v0.lo.den.g, .slice v0.lo.den.a v0.lo.den.n v0.lo.den.c, .bool v0.hi.num.g, .slice v0.hi.num.a v0.hi.num.n v0.hi.num.c, .bool v0.hi.den.g, .slice v0.hi.den.a v0.hi.den.n v0.hi.den.c] t0)) := (Below.refl _ _).alloc (Nat.le_refl _) _
  exact ⟨hb, by simp [go_sem], by simp [go_sem], by simp [go_sem], by simp [go_sem], by simp [go_sem], by simp [go_sem], by simp [go_sem], by simp [go_sem], hx0.later hb⟩

set_option maxHeartbeats 1000000 in
theorem lawSq_out0 (v0 : SV) (w : World) (m0 : v0.lo.num.n ≤ maxLen) (m1 : v0.lo.den.n ≤ maxLen) (m2 : v0.hi.num.n ≤ maxLen) (m3 : v0.hi.den.n ≤ maxLen) (h0 : 0 ≤ 1048576) (h : 1048576 < v0.lo.num.n + v0.lo.den.n + v0.hi.num.n + v0.hi.den.n) :
    Calls Try.prog 6 #[.agg #[.bool v0.lo.num.g, .slice v0.lo.num.a v0.lo.num.n v0.lo.num.c, .bool v0.lo.den.g, .slice v0.lo.den.a v0.lo.den.n v0.lo.den.c, .bool v0.hi.num.g, .slice v0.hi.num.a v0.hi.num.n v0.hi.num.c, .bool v0.hi.den.g, .slice v0.hi.den.a v0.hi.den.n v0.hi.den.c]] w fun e w' => e = .returned (.bool true) ∧ Below w.heap.size w w' := by
  go_enter Try.func6, Try.ntmps6
  go_wp2_with fail
  refine (szS_out v0 _ _ (by omega) (by omega) m0 m1 m2 m3 (by omega)).mono ?_
  rintro e w1 ⟨rfl, hb⟩
  have HB := hide (ba hb)
  clear hb
  go_wp2
  go_ret
  exact ⟨rfl, unhide HB⟩

set_option maxRecDepth 100000 in
set_option maxHeartbeats 16000000 in
theorem lawSq_in (v0 : SV) (d0 : SD) (w : World) (hx0 : AllSl w [(v0.lo.num, d0.lo.num), (v0.lo.den, d0.lo.den), (v0.hi.num, d0.hi.num), (v0.hi.den, d0.hi.den)])  (h : v0.lo.num.n + v0.lo.den.n + v0.hi.num.n + v0.hi.den.n ≤ 1048576) :
    Calls Try.prog 6 #[.agg #[.bool v0.lo.num.g, .slice v0.lo.num.a v0.lo.num.n v0.lo.num.c, .bool v0.lo.den.g, .slice v0.lo.den.a v0.lo.den.n v0.lo.den.c, .bool v0.hi.num.g, .slice v0.hi.num.a v0.hi.num.n v0.hi.num.c, .bool v0.hi.den.g, .slice v0.hi.den.a v0.hi.den.n v0.hi.den.c]] w fun e w' => e = .returned (.bool true) ∧ Below w.heap.size w w' := by
  have HX0 := hide hx0
  clear hx0
  have l0 : v0.lo.num.n ≤ 1048576 := by omega
  have lm0 : v0.lo.num.n ≤ maxLen := by unfold maxLen; omega
  have l1 : v0.lo.den.n ≤ 1048576 := by omega
  have lm1 : v0.lo.den.n ≤ maxLen := by unfold maxLen; omega
  have l2 : v0.hi.num.n ≤ 1048576 := by omega
  have lm2 : v0.hi.num.n ≤ maxLen := by unfold maxLen; omega
  have l3 : v0.hi.den.n ≤ 1048576 := by omega
  have lm3 : v0.hi.den.n ≤ maxLen := by unfold maxLen; omega
  have hd0 : ¬ ((1048576 : Int) - (v0.lo.num.n : Int) - (v0.lo.den.n : Int) - (v0.hi.num.n : Int) - (v0.hi.den.n : Int) < 0) := by omega
  obtain ⟨U, HU⟩ : ∃ U : SD → Bool → Prop, Hid (U = AnsS (gS d0) (sqL d0).1 (sqL d0).2 (sqH d0).1 (sqH d0).2) := ⟨_, hide rfl⟩
  have US : Hid (∀ d ok d' ok', U d ok → U d' ok' → d = d' ∧ ok = ok') := hide (by rw [unhide HU]; exact fun d ok d' ok' h k => h.same k)
  have UL : Hid (∀ d ok, U d ok → d.lo.num.xs.length ≤ 40 ∧ d.lo.den.xs.length ≤ 40 ∧ d.hi.num.xs.length ≤ 40 ∧ d.hi.den.xs.length ≤ 40) := hide (by rw [unhide HU]; exact fun d ok h => h.lens)
  have CS : Hid (∀ (q0 : SV) (w : World), AllAr w [(q0.lo.num, d0.lo.num), (q0.lo.den, d0.lo.den), (q0.hi.num, d0.hi.num), (q0.hi.den, d0.hi.den)] → Calls Try.prog 38 #[.agg #[.bool q0.lo.num.g, .slice q0.lo.num.a q0.lo.num.n q0.lo.num.c, .bool q0.lo.den.g, .slice q0.lo.den.a q0.lo.den.n q0.lo.den.c, .bool q0.hi.num.g, .slice q0.hi.num.a q0.hi.num.n q0.hi.num.c, .bool q0.hi.den.g, .slice q0.hi.den.a q0.hi.den.n q0.hi.den.c]] w (RetS w U)) := hide (by rw [unhide HU]; exact fun q0 w h0 => SqSS q0 d0 w h0)
  have CI : Hid (∀ (q0 : SV) (w : World), AllAr w [(q0.lo.num, d0.lo.num), (q0.lo.den, d0.lo.den), (q0.hi.num, d0.hi.num), (q0.hi.den, d0.hi.den)] → Calls Try.prog 40 #[.agg #[.bool q0.lo.num.g, .slice q0.lo.num.a q0.lo.num.n q0.lo.num.c, .bool q0.lo.den.g, .slice q0.lo.den.a q0.lo.den.n q0.lo.den.c, .bool q0.hi.num.g, .slice q0.hi.num.a q0.hi.num.n q0.hi.num.c, .bool q0.hi.den.g, .slice q0.hi.den.a q0.hi.den.n q0.hi.den.c]] w (RetS w U)) := hide (by rw [unhide HU]; exact fun q0 w h0 => SqSI q0 d0 w h0)
  clear HU
  go_enter Try.func6, Try.ntmps6
  go_wp2_with fail
  refine (szS_in v0 _ _ (by omega) (by omega) (by omega)).mono ?_
  rintro e w1 ⟨rfl, hb⟩
  have T := hide ((TlawSq.start w v0 d0 58 (unhide HX0)).later hb)
  have z : w.heap.size + 1 ≤ w1.heap.size := by have := hb.size; simp at this; omega
  clear hb
  have p0 := (unhide T).x0_0
  have p1 := (unhide T).x0_1
  have p2 := (unhide T).x0_2
  have p3 := (unhide T).x0_3
  have p4 := (unhide T).x0_4
  have p5 := (unhide T).x0_5
  have p6 := (unhide T).x0_6
  have p7 := (unhide T).x0_7
  go_wp2_with fail
  refine (toS_at v0 d0 _ (unhide T).s0 l0 l1 l2 l3).mono ?_
  rintro e wa0x ⟨qa0, rfl, hb, hna, ow, ar⟩
  replace T := hide ((unhide T).later hb)
  have A0 := hide ar
  have sa0x := hb.size
  clear hb hna ow ar p0 p1 p2 p3 p4 p5 p6 p7
  go_wp2_with fail
  refine (unhide CS qa0 _ (unhide A0)).mono ?_
  rintro e ws ⟨vr, dr, okr, rfl, hb, hown, hu⟩
  have V0 := hide (VarS.start 61 hown)
  have UR := hide hu
  have ss := hb.size
  replace T := hide (((unhide T).later hb).later ((Below.refl _ _).alloc (Nat.le_refl _) (.cells #[.bool vr.lo.num.g, .slice vr.lo.num.a vr.lo.num.n vr.lo.num.c, .bool vr.lo.den.g, .slice vr.lo.den.a vr.lo.den.n vr.lo.den.c, .bool vr.hi.num.g, .slice vr.hi.num.a vr.hi.num.n vr.hi.num.c, .bool vr.hi.den.g, .slice vr.hi.den.a vr.hi.den.n vr.hi.den.c] 61)))
  clear hb hown hu A0
  have zG1 : w.heap.size + 1 ≤ ws.heap.size := by omega
  have r0 : vr.lo.num.n ≤ 40 := by rw [← ((unhide V0).own.own (vr.lo.num, dr.lo.num) (by simp)).len]; exact (unhide UL _ _ (unhide UR)).1
  have rm0 : vr.lo.num.n ≤ maxLen := by unfold maxLen; omega
  have rl0 : vr.lo.num.n ≤ 1048576 := by omega
  have r1 : vr.lo.den.n ≤ 40 := by rw [← ((unhide V0).own.own (vr.lo.den, dr.lo.den) (by simp)).len]; exact (unhide UL _ _ (unhide UR)).2.1
  have rm1 : vr.lo.den.n ≤ maxLen := by unfold maxLen; omega
  have rl1 : vr.lo.den.n ≤ 1048576 := by omega
  have r2 : vr.hi.num.n ≤ 40 := by rw [← ((unhide V0).own.own (vr.hi.num, dr.hi.num) (by simp)).len]; exact (unhide UL _ _ (unhide UR)).2.2.1
  have rm2 : vr.hi.num.n ≤ maxLen := by unfold maxLen; omega
  have rl2 : vr.hi.num.n ≤ 1048576 := by omega
  have r3 : vr.hi.den.n ≤ 40 := by rw [← ((unhide V0).own.own (vr.hi.den, dr.hi.den) (by simp)).len]; exact (unhide UL _ _ (unhide UR)).2.2.2
  have rm3 : vr.hi.den.n ≤ maxLen := by unfold maxLen; omega
  have rl3 : vr.hi.den.n ≤ 1048576 := by omega
  have p0 := (unhide T).x0_0
  have p1 := (unhide T).x0_1
  have p2 := (unhide T).x0_2
  have p3 := (unhide T).x0_3
  have p4 := (unhide T).x0_4
  have p5 := (unhide T).x0_5
  have p6 := (unhide T).x0_6
  have p7 := (unhide T).x0_7
  go_wp2_with fail
  refine (toS_at v0 d0 _ (unhide T).s0 l0 l1 l2 l3).mono ?_
  rintro e wx0 ⟨y0, rfl, hb, hnn, ow0, ar0⟩
  have hn0 := hide hnn
  clear hnn
  have VX0 := hide (VarS.start 61 (ow0.wide (lo' := ws.heap.size + 1) (by simp) (Nat.le_refl _)))
  have AX0 := hide (ar0.later ((Below.refl _ _).alloc (Nat.le_refl _) (.cells #[.bool y0.lo.num.g, .slice y0.lo.num.a y0.lo.num.n y0.lo.num.c, .bool y0.lo.den.g, .slice y0.lo.den.a y0.lo.den.n y0.lo.den.c, .bool y0.hi.num.g, .slice y0.hi.num.a y0.hi.num.n y0.hi.num.c, .bool y0.hi.den.g, .slice y0.hi.den.a y0.hi.den.n y0.hi.den.c] 61)))
  have s0 : ws.heap.size + 1 ≤ wx0.heap.size := by have := hb.size; simp at this; omega
  replace V0 := hide ((unhide V0).later hb)
  replace T := hide ((unhide T).later hb)
  replace V0 := hide ((unhide V0).later ((Below.refl _ _).alloc (Nat.le_refl _) (.cells #[.bool y0.lo.num.g, .slice y0.lo.num.a y0.lo.num.n y0.lo.num.c, .bool y0.lo.den.g, .slice y0.lo.den.a y0.lo.den.n y0.lo.den.c, .bool y0.hi.num.g, .slice y0.hi.num.a y0.hi.num.n y0.hi.num.c, .bool y0.hi.den.g, .slice y0.hi.den.a y0.hi.den.n y0.hi.den.c] 61)))
  replace T := hide ((unhide T).later ((Below.refl _ _).alloc (Nat.le_refl _) (.cells #[.bool y0.lo.num.g, .slice y0.lo.num.a y0.lo.num.n y0.lo.num.c, .bool y0.lo.den.g, .slice y0.lo.den.a y0.lo.den.n y0.lo.den.c, .bool y0.hi.num.g, .slice y0.hi.num.a y0.hi.num.n y0.hi.num.c, .bool y0.hi.den.g, .slice y0.hi.den.a y0.hi.den.n y0.hi.den.c] 61)))
  clear hb ow0 ar0 p0 p1 p2 p3 p4 p5 p6 p7
  go_wp2_with fail
  refine (unhide CI y0 _ (unhide AX0)).mono ?_
  rintro e w5 ⟨vg, dg, okg, rfl, hb, hown, hu⟩
  obtain ⟨e1, e2⟩ := unhide US _ _ _ _ (unhide UR) hu
  subst e1 e2
  have VG := hide (VarS.start 61 (hown.wide (lo' := wx0.heap.size + 1) (by simp) (Nat.le_refl _)))
  have sg : wx0.heap.size + 1 ≤ w5.heap.size := by have := hb.size; simp at this; omega
  have en0 : vg.lo.num.n = vr.lo.num.n := by rw [← ((unhide VG).own.own (vg.lo.num, dr.lo.num) (by simp)).len, ← ((unhide V0).own.own (vr.lo.num, dr.lo.num) (by simp)).len]
  have q0 : vg.lo.num.n ≤ 40 := by omega
  have qm0 : vg.lo.num.n ≤ maxLen := by omega
  have ql0 : vg.lo.num.n ≤ 1048576 := by omega
  have en1 : vg.lo.den.n = vr.lo.den.n := by rw [← ((unhide VG).own.own (vg.lo.den, dr.lo.den) (by simp)).len, ← ((unhide V0).own.own (vr.lo.den, dr.lo.den) (by simp)).len]
  have q1 : vg.lo.den.n ≤ 40 := by omega
  have qm1 : vg.lo.den.n ≤ maxLen := by omega
  have ql1 : vg.lo.den.n ≤ 1048576 := by omega
  have en2 : vg.hi.num.n = vr.hi.num.n := by rw [← ((unhide VG).own.own (vg.hi.num, dr.hi.num) (by simp)).len, ← ((unhide V0).own.own (vr.hi.num, dr.hi.num) (by simp)).len]
  have q2 : vg.hi.num.n ≤ 40 := by omega
  have qm2 : vg.hi.num.n ≤ maxLen := by omega
  have ql2 : vg.hi.num.n ≤ 1048576 := by omega
  have en3 : vg.hi.den.n = vr.hi.den.n := by rw [← ((unhide VG).own.own (vg.hi.den, dr.hi.den) (by simp)).len, ← ((unhide V0).own.own (vr.hi.den, dr.hi.den) (by simp)).len]
  have q3 : vg.hi.den.n ≤ 40 := by omega
  have qm3 : vg.hi.den.n ≤ maxLen := by omega
  have ql3 : vg.hi.den.n ≤ 1048576 := by omega
  clear AX0
  replace V0 := hide ((unhide V0).later hb)
  replace T := hide ((unhide T).later hb)
  replace VX0 := hide ((unhide VX0).later hb)
  clear hb hown hu
  replace V0 := hide ((unhide V0).later ((Below.refl _ _).alloc (Nat.le_refl _) (.cells #[.bool vg.lo.num.g, .slice vg.lo.num.a vg.lo.num.n vg.lo.num.c, .bool vg.lo.den.g, .slice vg.lo.den.a vg.lo.den.n vg.lo.den.c, .bool vg.hi.num.g, .slice vg.hi.num.a vg.hi.num.n vg.hi.num.c, .bool vg.hi.den.g, .slice vg.hi.den.a vg.hi.den.n vg.hi.den.c] 61)))
  replace T := hide ((unhide T).later ((Below.refl _ _).alloc (Nat.le_refl _) (.cells #[.bool vg.lo.num.g, .slice vg.lo.num.a vg.lo.num.n vg.lo.num.c, .bool vg.lo.den.g, .slice vg.lo.den.a vg.lo.den.n vg.lo.den.c, .bool vg.hi.num.g, .slice vg.hi.num.a vg.hi.num.n vg.hi.num.c, .bool vg.hi.den.g, .slice vg.hi.den.a vg.hi.den.n vg.hi.den.c] 61)))
  replace VX0 := hide ((unhide VX0).later ((Below.refl _ _).alloc (Nat.le_refl _) (.cells #[.bool vg.lo.num.g, .slice vg.lo.num.a vg.lo.num.n vg.lo.num.c, .bool vg.lo.den.g, .slice vg.lo.den.a vg.lo.den.n vg.lo.den.c, .bool vg.hi.num.g, .slice vg.hi.num.a vg.hi.num.n vg.hi.num.c, .bool vg.hi.den.g, .slice vg.hi.den.a vg.hi.den.n vg.hi.den.c] 61)))
  have enh0 := hide en0
  clear en0
  have enh1 := hide en1
  clear en1
  have enh2 := hide en2
  clear en2
  have enh3 := hide en3
  clear en3
  have p0 := (unhide V0).c0
  have p1 := (unhide V0).c1
  have p2 := (unhide V0).c2
  have p3 := (unhide V0).c3
  have p4 := (unhide V0).c4
  have p5 := (unhide V0).c5
  have p6 := (unhide V0).c6
  have p7 := (unhide V0).c7
  go_wp2_with fail
  refine (eqS_at vg vr dr _ (unhide VG).own.sl (unhide V0).own.sl qm0 qm1 qm2 qm3).mono ?_
  rintro e w6 ⟨rfl, hb⟩
  clear p0 p1 p2 p3 p4 p5 p6 p7
  replace V0 := hide ((unhide V0).later hb)
  replace T := hide ((unhide T).later hb)
  replace VX0 := hide ((unhide VX0).later hb)
  replace VG := hide ((unhide VG).later hb)
  clear hb
  generalize wx0.heap.size = GX0 at *
  generalize w5.heap.size = GG at *
  generalize ws.heap.size = GC at *
  go_wp2_with fail
  have ka0 := (unhide T).x0_0
  have kx0 := (unhide VX0).c0
  have ka1 := (unhide T).x0_1
  have kx1 := (unhide VX0).c1
  have ka2 := (unhide T).x0_2
  have kx2 := (unhide VX0).c2
  have ka3 := (unhide T).x0_3
  have kx3 := (unhide VX0).c3
  have ka4 := (unhide T).x0_4
  have kx4 := (unhide VX0).c4
  have ka5 := (unhide T).x0_5
  have kx5 := (unhide VX0).c5
  have ka6 := (unhide T).x0_6
  have kx6 := (unhide VX0).c6
  have ka7 := (unhide T).x0_7
  have kx7 := (unhide VX0).c7
  go_region_held3 (fun w' => w'.cell? ⟨w.heap.size, 0, none⟩ = some (.bool v0.lo.num.g) ∧ w'.cell? ⟨w.heap.size, 1, none⟩ = some (.slice v0.lo.num.a v0.lo.num.n v0.lo.num.c) ∧ w'.cell? ⟨w.heap.size, 2, none⟩ = some (.bool v0.lo.den.g) ∧ w'.cell? ⟨w.heap.size, 3, none⟩ = some (.slice v0.lo.den.a v0.lo.den.n v0.lo.den.c) ∧ w'.cell? ⟨w.heap.size, 4, none⟩ = some (.bool v0.hi.num.g) ∧ w'.cell? ⟨w.heap.size, 5, none⟩ = some (.slice v0.hi.num.a v0.hi.num.n v0.hi.num.c) ∧ w'.cell? ⟨w.heap.size, 6, none⟩ = some (.bool v0.hi.den.g) ∧ w'.cell? ⟨w.heap.size, 7, none⟩ = some (.slice v0.hi.den.a v0.hi.den.n v0.hi.den.c) ∧ w'.cell? ⟨GX0, 0, none⟩ = some (.bool y0.lo.num.g) ∧ w'.cell? ⟨GX0, 1, none⟩ = some (.slice y0.lo.num.a y0.lo.num.n y0.lo.num.c) ∧ w'.cell? ⟨GX0, 2, none⟩ = some (.bool y0.lo.den.g) ∧ w'.cell? ⟨GX0, 3, none⟩ = some (.slice y0.lo.den.a y0.lo.den.n y0.lo.den.c) ∧ w'.cell? ⟨GX0, 4, none⟩ = some (.bool y0.hi.num.g) ∧ w'.cell? ⟨GX0, 5, none⟩ = some (.slice y0.hi.num.a y0.hi.num.n y0.hi.num.c) ∧ w'.cell? ⟨GX0, 6, none⟩ = some (.bool y0.hi.den.g) ∧ w'.cell? ⟨GX0, 7, none⟩ = some (.slice y0.hi.den.a y0.hi.den.n y0.hi.den.c)) (with_reducible (first | exact ⟨ka0, ka1, ka2, ka3, ka4, ka5, ka6, ka7, kx0, kx1, kx2, kx3, kx4, kx5, kx6, kx7⟩ | exact ⟨cd_other ka0, cd_other ka1, cd_other ka2, cd_other ka3, cd_other ka4, cd_other ka5, cd_other ka6, cd_other ka7, cd_other kx0, cd_other kx1, cd_other kx2, cd_other kx3, cd_other kx4, cd_other kx5, cd_other kx6, cd_other kx7⟩ | fail))
    (first
    | (go_at_call 39; refine (toS_at v0 d0 _ ?_ l0 l1 l2 l3).mono ?_; exact (unhide T).s0.later (Below.refl _ _).drew; rintro e w7 ⟨u7, rfl, hb', hn7, ow7, ar7⟩; have hb := below_of_drew hb'; replace V0 := hide ((unhide V0).later hb); replace T := hide ((unhide T).later hb); replace VX0 := hide ((unhide VX0).later hb); replace VG := hide ((unhide VG).later hb); replace ka0 := (unhide T).x0_0; replace kx0 := (unhide VX0).c0; replace ka1 := (unhide T).x0_1; replace kx1 := (unhide VX0).c1; replace ka2 := (unhide T).x0_2; replace kx2 := (unhide VX0).c2; replace ka3 := (unhide T).x0_3; replace kx3 := (unhide VX0).c3; replace ka4 := (unhide T).x0_4; replace kx4 := (unhide VX0).c4; replace ka5 := (unhide T).x0_5; replace kx5 := (unhide VX0).c5; replace ka6 := (unhide T).x0_6; replace kx6 := (unhide VX0).c6; replace ka7 := (unhide T).x0_7; replace kx7 := (unhide VX0).c7; have S7 := hide ow7.sl; clear hb hb' ow7 ar7 hn7)
    | (go_at_call 41; refine (eqS_at y0 u7 d0 _ (unhide VX0).own.sl (unhide S7) (by rw [(unhide hn0).1]; exact lm0) (by rw [(unhide hn0).2.1]; exact lm1) (by rw [(unhide hn0).2.2.1]; exact lm2) (by rw [(unhide hn0).2.2.2]; exact lm3)).mono ?_; rintro e w8 ⟨rfl, hb⟩; replace V0 := hide ((unhide V0).later hb); replace T := hide ((unhide T).later hb); replace VX0 := hide ((unhide VX0).later hb); replace VG := hide ((unhide VG).later hb); replace ka0 := (unhide T).x0_0; replace kx0 := (unhide VX0).c0; replace ka1 := (unhide T).x0_1; replace kx1 := (unhide VX0).c1; replace ka2 := (unhide T).x0_2; replace kx2 := (unhide VX0).c2; replace ka3 := (unhide T).x0_3; replace kx3 := (unhide VX0).c3; replace ka4 := (unhide T).x0_4; replace kx4 := (unhide VX0).c4; replace ka5 := (unhide T).x0_5; replace kx5 := (unhide VX0).c5; replace ka6 := (unhide T).x0_6; replace kx6 := (unhide VX0).c6; replace ka7 := (unhide T).x0_7; replace kx7 := (unhide VX0).c7; clear hb))
  clear S7 ka0 kx0 ka1 kx1 ka2 kx2 ka3 kx3 ka4 kx4 ka5 kx5 ka6 kx6 ka7 kx7
  have p0 := (unhide VX0).c0
  have p1 := (unhide VX0).c1
  have p2 := (unhide VX0).c2
  have p3 := (unhide VX0).c3
  have p4 := (unhide VX0).c4
  have p5 := (unhide VX0).c5
  have p6 := (unhide VX0).c6
  have p7 := (unhide VX0).c7
  have hl0 : y0.lo.num.n ≤ 1048576 := by rw [(unhide hn0).1]; exact l0
  have hl1 : y0.lo.den.n ≤ 1048576 := by rw [(unhide hn0).2.1]; exact l1
  have hl2 : y0.hi.num.n ≤ 1048576 := by rw [(unhide hn0).2.2.1]; exact l2
  have hl3 : y0.hi.den.n ≤ 1048576 := by rw [(unhide hn0).2.2.2]; exact l3
  go_wp2_with fail
  refine (markS_at y0 d0 [] [] 1 (GC + 1) GX0 _ (unhide VX0).own hl0 hl1 hl2 hl3 (by have := (unhide VX0).gt; omega) (by omega) (by have := (unhide hn0).1; have := (unhide hn0).2.1; have := (unhide hn0).2.2.1; have := (unhide hn0).2.2.2; omega)).mono ?_
  rintro e w10 ⟨rfl, hbt, hmk⟩
  replace T := hide ((unhide T).but hbt (by omega) (unhide HX0))
  replace V0 := hide ((unhide V0).but hbt (by omega) (by omega))
  replace VG := hide ((unhide VG).but hbt (by omega) (by omega))
  clear VX0 p0 p1 p2 p3 p4 p5 p6 p7 hbt hmk hl0 hl1 hl2 hl3
  have hk0 : decide ((1 : Int) + (y0.lo.num.n : Int) + (y0.lo.den.n : Int) + (y0.hi.num.n : Int) + (y0.hi.den.n : Int) < 0) = false := by simp; omega
  have p0 := (unhide VG).c0
  have pq0 := (unhide V0).c0
  have p1 := (unhide VG).c1
  have pq1 := (unhide V0).c1
  have p2 := (unhide VG).c2
  have pq2 := (unhide V0).c2
  have p3 := (unhide VG).c3
  have pq3 := (unhide V0).c3
  have p4 := (unhide VG).c4
  have pq4 := (unhide V0).c4
  have p5 := (unhide VG).c5
  have pq5 := (unhide V0).c5
  have p6 := (unhide VG).c6
  have pq6 := (unhide V0).c6
  have p7 := (unhide VG).c7
  have pq7 := (unhide V0).c7
  go_wp2_with fail
  refine (eqS_at vg vr dr _ (unhide VG).own.sl (unhide V0).own.sl qm0 qm1 qm2 qm3).mono ?_
  rintro e w20 ⟨rfl, hb⟩
  clear p0 pq0 p1 pq1 p2 pq2 p3 pq3 p4 pq4 p5 pq5 p6 pq6 p7 pq7 hk0
  replace V0 := hide ((unhide V0).later hb)
  replace T := hide ((unhide T).later hb)
  replace VG := hide ((unhide VG).later hb)
  clear hb
  have p0 := (unhide VG).c0
  have p1 := (unhide VG).c1
  have p2 := (unhide VG).c2
  have p3 := (unhide VG).c3
  have p4 := (unhide VG).c4
  have p5 := (unhide VG).c5
  have p6 := (unhide VG).c6
  have p7 := (unhide VG).c7
  go_wp2_with fail
  refine (markS_at vg dr [] [] 1 (GX0 + 1) GG _ (unhide VG).own ql0 ql1 ql2 ql3 (by have := (unhide VG).gt; omega) (by omega) (by omega)).mono ?_
  rintro e w21 ⟨rfl, hbt, hmk⟩
  replace T := hide ((unhide T).but hbt (by omega) (unhide HX0))
  replace V0 := hide ((unhide V0).but hbt (by omega) (by omega))
  replace VG := hide ((unhide VG).mark (d' := ⟨⟨⟨dr.lo.num.g, marks (1) vg.lo.num.n⟩, ⟨dr.lo.den.g, marks (1 + vg.lo.num.n) vg.lo.den.n⟩⟩, ⟨⟨dr.hi.num.g, marks (1 + vg.lo.num.n + vg.lo.den.n) vg.hi.num.n⟩, ⟨dr.hi.den.g, marks (1 + vg.lo.num.n + vg.lo.den.n + vg.hi.num.n) vg.hi.den.n⟩⟩⟩) hbt (by omega) hmk)
  clear p0 p1 p2 p3 p4 p5 p6 p7 hbt hmk
  have p0 := (unhide VG).c0
  have p1 := (unhide VG).c1
  have p2 := (unhide VG).c2
  have p3 := (unhide VG).c3
  have p4 := (unhide VG).c4
  have p5 := (unhide VG).c5
  have p6 := (unhide VG).c6
  have p7 := (unhide VG).c7
  go_wp2_with fail
  refine (heldS_at vg 1 _ ((unhide VG).own.sl (vg.lo.num, ⟨dr.lo.num.g, marks (1) vg.lo.num.n⟩) (by simp)).sl ((unhide VG).own.sl (vg.lo.den, ⟨dr.lo.den.g, marks (1 + (vg.lo.num.n : Int)) vg.lo.den.n⟩) (by simp)).sl ((unhide VG).own.sl (vg.hi.num, ⟨dr.hi.num.g, marks (1 + (vg.lo.num.n : Int) + (vg.lo.den.n : Int)) vg.hi.num.n⟩) (by simp)).sl ((unhide VG).own.sl (vg.hi.den, ⟨dr.hi.den.g, marks (1 + (vg.lo.num.n : Int) + (vg.lo.den.n : Int) + (vg.hi.num.n : Int)) vg.hi.den.n⟩) (by simp)).sl ql0 ql1 ql2 ql3 (by omega) (by omega)).mono ?_
  rintro e wk ⟨rfl, hb⟩
  replace V0 := hide ((unhide V0).later hb)
  replace T := hide ((unhide T).later hb)
  replace VG := hide ((unhide VG).later hb)
  have hr0 : ¬ ((1 : Int) + (vg.lo.num.n : Int) + (vg.lo.den.n : Int) + (vg.hi.num.n : Int) + (vg.hi.den.n : Int) < 0) := by omega
  have zk : w.heap.size + 1 ≤ wk.heap.size := by have h1 := (unhide VG).gt; omega
  clear p0 p1 p2 p3 p4 p5 p6 p7 hb
  have p0 := (unhide T).x0_0
  have p1 := (unhide T).x0_1
  have p2 := (unhide T).x0_2
  have p3 := (unhide T).x0_3
  have p4 := (unhide T).x0_4
  have p5 := (unhide T).x0_5
  have p6 := (unhide T).x0_6
  have p7 := (unhide T).x0_7
  go_wp2_with fail
  refine (toS_at v0 d0 _ (unhide T).s0 l0 l1 l2 l3).mono ?_
  rintro e wa0y ⟨qa0, rfl, hb, hna, ow, ar⟩
  replace T := hide ((unhide T).later hb)
  replace V0 := hide ((unhide V0).later hb)
  replace VG := hide ((unhide VG).later hb)
  have A0 := hide ar
  have sa0y := hb.size
  clear hb hna ow ar p0 p1 p2 p3 p4 p5 p6 p7
  go_wp2_with fail
  refine (unhide CI qa0 _ (unhide A0)).mono ?_
  rintro e wh ⟨vh, dh, okh, rfl, hb, hown, hu⟩
  obtain ⟨e1, e2⟩ := unhide US _ _ _ _ (unhide UR) hu
  subst e1 e2
  have VH := hide (VarS.start 61 hown)
  replace T := hide ((unhide T).later hb)
  replace V0 := hide ((unhide V0).later hb)
  replace VG := hide ((unhide VG).later hb)
  replace T := hide ((unhide T).later ((Below.refl _ _).alloc (Nat.le_refl _) (.cells #[.bool vh.lo.num.g, .slice vh.lo.num.a vh.lo.num.n vh.lo.num.c, .bool vh.lo.den.g, .slice vh.lo.den.a vh.lo.den.n vh.lo.den.c, .bool vh.hi.num.g, .slice vh.hi.num.a vh.hi.num.n vh.hi.num.c, .bool vh.hi.den.g, .slice vh.hi.den.a vh.hi.den.n vh.hi.den.c] 61)))
  replace V0 := hide ((unhide V0).later ((Below.refl _ _).alloc (Nat.le_refl _) (.cells #[.bool vh.lo.num.g, .slice vh.lo.num.a vh.lo.num.n vh.lo.num.c, .bool vh.lo.den.g, .slice vh.lo.den.a vh.lo.den.n vh.lo.den.c, .bool vh.hi.num.g, .slice vh.hi.num.a vh.hi.num.n vh.hi.num.c, .bool vh.hi.den.g, .slice vh.hi.den.a vh.hi.den.n vh.hi.den.c] 61)))
  replace VG := hide ((unhide VG).later ((Below.refl _ _).alloc (Nat.le_refl _) (.cells #[.bool vh.lo.num.g, .slice vh.lo.num.a vh.lo.num.n vh.lo.num.c, .bool vh.lo.den.g, .slice vh.lo.den.a vh.lo.den.n vh.lo.den.c, .bool vh.hi.num.g, .slice vh.hi.num.a vh.hi.num.n vh.hi.num.c, .bool vh.hi.den.g, .slice vh.hi.den.a vh.hi.den.n vh.hi.den.c] 61)))
  clear hb hown hu A0
  have hm0 : vh.lo.num.n ≤ maxLen := by rw [← ((unhide VH).own.own (vh.lo.num, dr.lo.num) (by simp)).len, ((unhide V0).own.own (vr.lo.num, dr.lo.num) (by simp)).len]; exact rm0
  have hm1 : vh.lo.den.n ≤ maxLen := by rw [← ((unhide VH).own.own (vh.lo.den, dr.lo.den) (by simp)).len, ((unhide V0).own.own (vr.lo.den, dr.lo.den) (by simp)).len]; exact rm1
  have hm2 : vh.hi.num.n ≤ maxLen := by rw [← ((unhide VH).own.own (vh.hi.num, dr.hi.num) (by simp)).len, ((unhide V0).own.own (vr.hi.num, dr.hi.num) (by simp)).len]; exact rm2
  have hm3 : vh.hi.den.n ≤ maxLen := by rw [← ((unhide VH).own.own (vh.hi.den, dr.hi.den) (by simp)).len, ((unhide V0).own.own (vr.hi.den, dr.hi.den) (by simp)).len]; exact rm3
  have p0 := (unhide VH).c0
  have pq0 := (unhide V0).c0
  have p1 := (unhide VH).c1
  have pq1 := (unhide V0).c1
  have p2 := (unhide VH).c2
  have pq2 := (unhide V0).c2
  have p3 := (unhide VH).c3
  have pq3 := (unhide V0).c3
  have p4 := (unhide VH).c4
  have pq4 := (unhide V0).c4
  have p5 := (unhide VH).c5
  have pq5 := (unhide V0).c5
  have p6 := (unhide VH).c6
  have pq6 := (unhide V0).c6
  have p7 := (unhide VH).c7
  have pq7 := (unhide V0).c7
  go_wp2_with fail
  refine (eqS_at vh vr dr _ (unhide VH).own.sl (unhide V0).own.sl hm0 hm1 hm2 hm3).mono ?_
  rintro e w30 ⟨rfl, hb⟩
  clear p0 pq0 p1 pq1 p2 pq2 p3 pq3 p4 pq4 p5 pq5 p6 pq6 p7 pq7
  replace T := hide ((unhide T).later hb)
  replace VG := hide ((unhide VG).later hb)
  clear hb VH V0
  have p0 := (unhide VG).c0
  have p1 := (unhide VG).c1
  have p2 := (unhide VG).c2
  have p3 := (unhide VG).c3
  have p4 := (unhide VG).c4
  have p5 := (unhide VG).c5
  have p6 := (unhide VG).c6
  have p7 := (unhide VG).c7
  go_wp2_with fail
  refine (heldS_at vg 1 _ ((unhide VG).own.sl (vg.lo.num, ⟨dr.lo.num.g, marks (1) vg.lo.num.n⟩) (by simp)).sl ((unhide VG).own.sl (vg.lo.den, ⟨dr.lo.den.g, marks (1 + (vg.lo.num.n : Int)) vg.lo.den.n⟩) (by simp)).sl ((unhide VG).own.sl (vg.hi.num, ⟨dr.hi.num.g, marks (1 + (vg.lo.num.n : Int) + (vg.lo.den.n : Int)) vg.hi.num.n⟩) (by simp)).sl ((unhide VG).own.sl (vg.hi.den, ⟨dr.hi.den.g, marks (1 + (vg.lo.num.n : Int) + (vg.lo.den.n : Int) + (vg.hi.num.n : Int)) vg.hi.den.n⟩) (by simp)).sl ql0 ql1 ql2 ql3 (by omega) (by omega)).mono ?_
  rintro e w31 ⟨rfl, hb⟩
  replace T := hide ((unhide T).later hb)
  clear p0 p1 p2 p3 p4 p5 p6 p7 hb
  go_wp2
  go_ret
  exact ⟨rfl, (unhide T).bel⟩

theorem lawSq_walk (v0 : SV) (d0 : SD) (w : World) (hx0 : AllSl w [(v0.lo.num, d0.lo.num), (v0.lo.den, d0.lo.den), (v0.hi.num, d0.hi.num), (v0.hi.den, d0.hi.den)])  (m0 : v0.lo.num.n ≤ maxLen) (m1 : v0.lo.den.n ≤ maxLen) (m2 : v0.hi.num.n ≤ maxLen) (m3 : v0.hi.den.n ≤ maxLen) :
    Calls Try.prog 6 #[.agg #[.bool v0.lo.num.g, .slice v0.lo.num.a v0.lo.num.n v0.lo.num.c, .bool v0.lo.den.g, .slice v0.lo.den.a v0.lo.den.n v0.lo.den.c, .bool v0.hi.num.g, .slice v0.hi.num.a v0.hi.num.n v0.hi.num.c, .bool v0.hi.den.g, .slice v0.hi.den.a v0.hi.den.n v0.hi.den.c]] w fun e w' => e = .returned (.bool true) ∧ Below w.heap.size w w' := by
  by_cases g0 : v0.lo.num.n + v0.lo.den.n + v0.hi.num.n + v0.hi.den.n ≤ 1048576
  · exact lawSq_in v0 d0 w hx0  g0
  · exact lawSq_out0 v0 w m0 m1 m2 m3 (by omega) (by omega)
end Go.Proofs.Ytagnhgefdcckoaa
namespace Go.Proofs.Ytagnhgefdcckoaa
open Go.ChangeShapes Go.WideShapes Go.ChangeAt Go.RowKit Go.Joins
set_option linter.unusedVariables false
set_option maxRecDepth 100000
set_option linter.unusedSimpArgs false

theorem Try.cells58 : Try.prog.cellsOf 58 = 8 := by kernel_rfl
theorem array_8 {α : Type} {cs : Array α} (h : cs.size = 8) : ∃ a b c d e f g k, cs = #[a, b, c, d, e, f, g, k] := by
  obtain ⟨l⟩ := cs
  match l, h with
  | [a, b, c, d, e, f, g, k], _ => exact ⟨a, b, c, d, e, f, g, k, rfl⟩

theorem open_four {H : Type} {enc : TypeId × Value → H} {W : World} {n : Nat} {c0 c1 c2 c3 : Value} {y : DataW H × List MemPlace}
    (h : DataW.trod enc Try.prog W 0 (fun _ => true) true n 44 [c0, c1, c2, c3] = some y) :
    ∃ (q : QV) (e : QD), c0 = .bool q.num.g ∧ c1 = .slice q.num.a q.num.n q.num.c ∧ c2 = .bool q.den.g ∧ c3 = .slice q.den.a q.den.n q.den.c ∧ AllSl W [(q.num, e.num), (q.den, e.den)] ∧ q.num.n ≤ maxLen ∧ q.den.n ≤ maxLen := by
  obtain ⟨y0, y1, n', hx, _, h0, h1⟩ := trod_struct2 Try.underlying44 h
  have k0 : DataW.trod enc Try.prog W 0 (fun _ => true) true n' 42 [c0, c1] = some y0 := by simpa [Try.cells42] using h0
  have k1 : DataW.trod enc Try.prog W 0 (fun _ => true) true n' 42 [c2, c3] = some y1 := by simpa [Try.cells42] using h1
  obtain ⟨z0, z1, n1, _, _, p0, p1⟩ := trod_struct2 Try.underlying42 k0
  obtain ⟨z2, z3, n2, _, _, p2, p3⟩ := trod_struct2 Try.underlying42 k1
  have c_b : Try.prog.cellsOf 4 = 1 := by kernel_rfl
  have c_s : Try.prog.cellsOf 23 = 1 := by kernel_rfl
  obtain ⟨g, a, m, c, xs, rfl, rfl, s1, s2, s3, _⟩ := open_two (c0 := c0) (c1 := c1) (by simpa [c_b] using p0) (by simpa [c_s] using p1)
  obtain ⟨g', b, q, e, us, rfl, rfl, t1, t2, t3, _⟩ := open_two (c0 := c2) (c1 := c3) (by simpa [c_b] using p2) (by simpa [c_s] using p3)
  exact ⟨⟨⟨g, a, m, c⟩, ⟨g', b, q, e⟩⟩, ⟨⟨g, xs⟩, ⟨g', us⟩⟩, rfl, rfl, rfl, rfl, AllSl.cons ⟨rfl, s1, s2⟩ (AllSl.cons ⟨rfl, t1, t2⟩ (AllSl.nil _)), s3, t3⟩

theorem open_S {H : Type} {enc : TypeId × Value → H} {W : World} {r : Reach} {b0 : Nat} {v : Value} {d : DataW H} {p : List MemPlace}
    (hv : Value.okWide Try.prog W r b0 58 v) (h : DataW.Trod enc Try.prog W 0 (fun _ => true) true 58 v d p) :
    ∃ (s : SV) (e : SD), v = .agg #[.bool s.lo.num.g, .slice s.lo.num.a s.lo.num.n s.lo.num.c, .bool s.lo.den.g, .slice s.lo.den.a s.lo.den.n s.lo.den.c, .bool s.hi.num.g, .slice s.hi.num.a s.hi.num.n s.hi.num.c, .bool s.hi.den.g, .slice s.hi.den.a s.hi.den.n s.hi.den.c] ∧ AllSl W [(s.lo.num, e.lo.num), (s.lo.den, e.lo.den), (s.hi.num, e.hi.num), (s.hi.den, e.hi.den)] ∧ s.lo.num.n ≤ maxLen ∧ s.lo.den.n ≤ maxLen ∧ s.hi.num.n ≤ maxLen ∧ s.hi.den.n ≤ maxLen := by
  obtain ⟨cs, rfl, hsz⟩ := okWide_struct Try.underlying58 hv
  obtain ⟨c0, c1, c2, c3, c4, c5, c6, c7, rfl⟩ := array_8 (hsz.trans Try.cells58)
  obtain ⟨fuel, hf⟩ := h
  obtain ⟨y0, y1, n, hx, _, h0, h1⟩ := trod_struct2 Try.underlying58 hf
  have k0 : DataW.trod enc Try.prog W 0 (fun _ => true) true n 44 [c0, c1, c2, c3] = some y0 := by simpa [Value.cells, Try.cells44] using h0
  have k1 : DataW.trod enc Try.prog W 0 (fun _ => true) true n 44 [c4, c5, c6, c7] = some y1 := by simpa [Value.cells, Try.cells44] using h1
  obtain ⟨q, e, rfl, rfl, rfl, rfl, s1, m1, m2⟩ := open_four k0
  obtain ⟨q', e', rfl, rfl, rfl, rfl, s2, m3, m4⟩ := open_four k1
  exact ⟨⟨q, q'⟩, ⟨e, e'⟩, rfl, AllSl.cons s1.head (AllSl.cons s1.tail.head (AllSl.cons s2.head (AllSl.cons s2.tail.head (AllSl.nil _)))), m1, m2, m3, m4⟩
end Go.Proofs.Ytagnhgefdcckoaa
namespace Go.Proofs.Ytagnhgefdcckoaa
open Go.ChangeShapes Go.WideShapes Go.ChangeAt Go.RowKit Go.Joins
set_option linter.unusedVariables false
set_option maxRecDepth 100000
set_option linter.unusedSimpArgs false

set_option maxRecDepth 100000 in
theorem sq_holds_lifted (os : Os) (started : os.Started) (H : Type) (enc : TypeId × Value → H) :
    ReturnsInHanded {} Try.checked os 6 .any (Rows.fnExactSquareSpanSpec.pre6 enc Try.prog Try.f6 Rows.fnExactSquareSpanRow.domain false) (Rows.fnExactSquareSpanSpec.post enc Try.prog Try.f6 false true false false) := by
  refine returnsInHanded_of_change (C := Try.checked) own started (by kernel_rfl) Try.func6
    (ChangeSpec.witness6 (enc := enc) (C := Try.checked) false ⟨#[], #[.agg #[.bool false, .slice none 0 0, .bool false, .slice none 0 0, .bool false, .slice none 0 0, .bool false, .slice none 0 0]], []⟩ 8 (by kernel_rfl) (by kernel_rfl) (by kernel_rfl) (by kernel_rfl)) ?_
  intro W base args ds gs before hval0 hW hcnd _
  have hval : ∀ (j : Nat) t v, Try.f6.params[j]? = some t → args[j]? = some v → Value.okWide Try.prog W .any base t v := hval0
  have hW' := hW
  obtain ⟨p, q, hA0, hV, rfl, hfz, hnd⟩ := hW
  have hA : DataW.TrodAll enc Try.prog W 0 (fun _ => true) true Try.f6.params.toList args.toList ds p := hA0
  rw [Try.params6] at hA hval
  obtain ⟨v0, vs0, d0, ds0, p0, q0, hargs, rfl, rfl, h0, r0⟩ := trodAll_cons hA
  obtain ⟨rfl, rfl, rfl⟩ := trodAll_nil r0
  obtain rfl : args = #[v0] := by cases args; simp_all
  obtain ⟨rfl, rfl⟩ := trodVars_none hV
  have lt0 : ∀ x ∈ p0, x.block < W.heap.size := by obtain ⟨m, hm⟩ := h0; exact DataW.trod_lt m _ _ _ hm
  obtain ⟨u0, e0, rfl, sl0, m0_0, m0_1, m0_2, m0_3⟩ := open_S (hval 0 58 v0 rfl rfl) h0
  clear hA0 hval0
  refine (lawSq_walk u0 e0 W sl0 m0_0 m0_1 m0_2 m0_3).mono fun e W' ⟨he, bel⟩ => ?_
  subst he
  exact ⟨_, rfl, _, _, _, [], _, [], hW', trodAll_mk1 (shut_bool Try.underlying4 _), (trodAll_cons_mk (Below.trod laidOut (by kernel_rfl) (of_decide_eq_true (by kernel_rfl)) h0 bel lt0) trodAll_mk0), rfl, bel.frame _, fun h => by cases h⟩

theorem sq_holds_c0 : (Rows.fnExactSquareSpanRow.wf (OpenSpec.ofChange Rows.fnExactSquareSpanSpec)) = true := by kernel_rfl
theorem sq_holds_c1 : (laidOutB Try.pinned.checked.prog) = true := by kernel_rfl
theorem sq_holds_c2 : (mapsRowed Try.pinned.checked.prog) = true := by kernel_rfl
theorem sq_holds_c3 : (Try.f6.params.all (Try.pinned.checked.prog.readableRec ·)) = true := by kernel_rfl
theorem sq_holds_c4 : (namedTie Try.pinned.checked.prog Rows.fnExactSquareSpanRow.named Rows.fnExactSquareSpanSpec.vars) = true := by kernel_rfl
theorem sq_holds_c5 : (Rows.fnExactSquareSpanRow.stops == []) = true := by kernel_rfl
theorem sq_holds_c6 : (Try.pinned.checked.prog.stops == []) = true := by kernel_rfl
theorem sq_holds_c7 : (Rows.fnExactSquareSpanRow.knobs == []) = true := by kernel_rfl
theorem sq_holds_c8 : (Try.pinned.checked.prog.stopKnobs == []) = true := by kernel_rfl
theorem sq_holds_c9 : (Rows.fnExactSquareSpanRow.inPlace == Try.pinned.checked.prog.inPlace 6) = true := by kernel_rfl
theorem sq_holds_c10 : (Rows.fnExactSquareSpanRow.unfollowed == Try.pinned.checked.prog.unfollowed 6) = true := by kernel_rfl
theorem sq_holds_c11 : (Rows.fnExactSquareSpanRow.recurses == Try.pinned.checked.prog.recurses 6) = true := by kernel_rfl
theorem sq_holds_c12 : (Rows.fnExactSquareSpanRow.named == Try.pinned.checked.prog.varsNamed 6) = true := by kernel_rfl
theorem sq_holds_c13 : (Rows.fnExactSquareSpanRow.maps == (Try.f6.params.toList ++ Rows.fnExactSquareSpanSpec.plain.varTypes Try.pinned.checked.prog).any (Try.pinned.checked.prog.mapsRec ·)) = true := by kernel_rfl
theorem sq_holds_c14 : (Rows.fnExactSquareSpanRow.ifaces == (Try.f6.params.toList ++ Rows.fnExactSquareSpanSpec.plain.varTypes Try.pinned.checked.prog).any (Try.pinned.checked.prog.ifacesRec ·)) = true := by kernel_rfl
theorem sq_holds_c15 : (Rows.fnExactSquareSpanRow.mapsOut == Try.pinned.checked.prog.mapsAmong Try.f6.resultTypes.toList) = true := by kernel_rfl
theorem sq_holds_c16 : (Rows.fnExactSquareSpanRow.loops == (Try.f6.params.toList ++ Rows.fnExactSquareSpanSpec.plain.varTypes Try.pinned.checked.prog).any (Try.pinned.checked.prog.loopsFrom ·)) = true := by kernel_rfl
theorem sq_holds_c17 : (Rows.fnExactSquareSpanRow.wideKeys == (Try.f6.params.toList ++ Rows.fnExactSquareSpanSpec.plain.varTypes Try.pinned.checked.prog ++ Try.f6.resultTypes.toList).any (Try.pinned.checked.prog.wideKeysFrom ·)) = true := by kernel_rfl
theorem sq_holds_c18 : (Rows.fnExactSquareSpanSpec.vars.all (Try.pinned.checked.prog.varReadable ·)) = true := by kernel_rfl
theorem sq_holds_c19 : (Try.f6.resultTypes.all (fun t => Try.pinned.checked.prog.readableRec t && decide (t < Try.pinned.checked.prog.types.size))) = true := by kernel_rfl
theorem sq_holds_c20 : (Rows.fnExactSquareSpanRow.ifacesOut == Try.f6.resultTypes.toList.any (Try.pinned.checked.prog.ifacesRec ·)) = true := by kernel_rfl
theorem sq_holds_c21 : (Rows.fnExactSquareSpanRow.loopsOut == Try.f6.resultTypes.toList.any (Try.pinned.checked.prog.loopsFrom ·)) = true := by kernel_rfl
theorem sq_holds_c22 : (Rows.fnExactSquareSpanRow.plainKeys == Try.pinned.checked.prog.plainKeys) = true := by kernel_rfl
theorem sq_holds_c23 : (Rows.fnExactSquareSpanRow.shortTexts.isNone) = true := by kernel_rfl
theorem sq_holds_c24 : (Try.pinned.checked.prog.stopsHeard) = true := by kernel_rfl
theorem sq_holds_c25 : (Try.pinned.checked.prog.mayEnter) = true := io_enter
theorem sq_holds_c26 : (Rows.fnExactSquareSpanRow.lifted == Try.pinned.checked.prog.liftsFinal) = true := by rw [io_lifts]; kernel_rfl
theorem sq_holds_c27 : (Try.pinned.checked.prog.make == some Rows.fnExactSquareSpanRow.make) = true := by rw [io_make]; kernel_rfl
theorem sq_holds_c28 : (Rows.fnExactSquareSpanRow.kinds == (if Rows.fnExactSquareSpanRow.domain.isEmpty then [] else Try.f6.params.toList.map fun t => match Try.pinned.checked.prog.underlying t with | some (.int k) => some k | _ => none)) = true := by kernel_rfl
theorem sq_holds_c29 : (Rows.fnExactSquareSpanRow.pinned == Rows.fnExactSquareSpanRow.pinnedBy) = true := by kernel_rfl
theorem sq_holds_c30 : (Rows.fnExactSquareSpanRow.veiled == (Try.f6.params.toList ++ Rows.fnExactSquareSpanSpec.plain.varTypes Try.pinned.checked.prog ++ Try.f6.resultTypes.toList).any (Try.pinned.checked.prog.veiledRec ·)) = true := by kernel_rfl
theorem sq_holds_c31 : (Rows.fnExactSquareSpanRow.veiledFits Try.pinned.checked.prog Try.f6.params.toList (Try.f6.params.toList ++ Rows.fnExactSquareSpanSpec.plain.varTypes Try.pinned.checked.prog ++ Try.f6.resultTypes.toList)) = true := by kernel_rfl
theorem sq_holds_and {a b : Bool} (h : a = true) (k : b = true) : (a && b) = true := by rw [h, k]; rfl
theorem sq_holds_closed : joinedFacts Try.pinned.checked.prog 6 Try.f6 Rows.fnExactSquareSpanSpec Rows.fnExactSquareSpanRow = true := (sq_holds_and (sq_holds_and (sq_holds_and (sq_holds_and (sq_holds_and (sq_holds_and (sq_holds_and (sq_holds_and (sq_holds_and (sq_holds_and (sq_holds_and (sq_holds_and (sq_holds_and (sq_holds_and (sq_holds_and (sq_holds_and (sq_holds_and (sq_holds_and (sq_holds_and (sq_holds_and (sq_holds_and (sq_holds_and (sq_holds_and (sq_holds_and (sq_holds_and (sq_holds_and (sq_holds_and (sq_holds_and (sq_holds_and (sq_holds_and (sq_holds_and sq_holds_c0 sq_holds_c1) sq_holds_c2) sq_holds_c3) sq_holds_c4) sq_holds_c5) sq_holds_c6) sq_holds_c7) sq_holds_c8) sq_holds_c9) sq_holds_c10) sq_holds_c11) sq_holds_c12) sq_holds_c13) sq_holds_c14) sq_holds_c15) sq_holds_c16) sq_holds_c17) sq_holds_c18) sq_holds_c19) sq_holds_c20) sq_holds_c21) sq_holds_c22) sq_holds_c23) sq_holds_c24) sq_holds_c25) sq_holds_c26) sq_holds_c27) sq_holds_c28) sq_holds_c29) sq_holds_c30) sq_holds_c31)
theorem sq_holds_named : Try.pinned.checked.prog.funcNamed Rows.fnExactSquareSpanRow.func = some 6 := by kernel_rfl
theorem sq_holds_inst : Try.f6.isInstance Try.pinned.checked.prog Rows.fnExactSquareSpanRow.origin Rows.fnExactSquareSpanRow.targs := of_decide_eq_true (by kernel_rfl)
theorem sq_holds_wrap : Try.f6.isWrapper Try.pinned.checked.prog Rows.fnExactSquareSpanRow.wrapper Rows.fnExactSquareSpanRow.mainSum := by unfold Func.isWrapper; first | (rw [if_pos (by decide +kernel)]; kernel_rfl) | (rw [if_neg (by decide +kernel)]; exact ⟨rfl, rfl⟩)
theorem sq_holds : Rows.FnExactSquareSpanSaid :=
  OpenClaim.holds_of_wide 6 Try.f6 rfl rfl rfl rfl rfl rfl rfl ⟨rfl, rfl, rfl, rfl, rfl⟩ rfl rfl rfl rfl rfl sq_holds_named Try.func6 sq_holds_closed sq_holds_inst sq_holds_wrap
    (fun os started H enc _ => sq_holds_lifted os started H enc)
#print axioms sq_holds
end Go.Proofs.Ytagnhgefdcckoaa
