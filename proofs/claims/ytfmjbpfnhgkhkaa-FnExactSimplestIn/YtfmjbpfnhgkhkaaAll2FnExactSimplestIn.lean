/- The law FnExactSimplestIn returns true for every argument and leaves it as it was: the given statement FnExactSimplestInSaid. No condition. -/
import Derived.Test.YtfmjbpfnhgkhkaaPackS
import Derived.Test.YtfmjbpfnhgkhkaaPackV
import Derived.Test.YtfmjbpfnhgkhkaaIo
import Derived.Test.YtfmjbpfnhgkhkaaOpenQ
namespace Go.Proofs.Ytfmjbpfnhgkhkaa
open Go.RowKit
set_option linter.unusedVariables false
set_option maxRecDepth 100000
set_option linter.unusedSimpArgs false

/-- A fraction in memory of the call's own. -/
def OwQ (lo hi : Nat) (w : World) (x : QV) (N D : Int) : Prop := ∃ xs us, AllOwn lo hi w [(x.num, ⟨decide (N < 0), xs⟩), (x.den, ⟨decide (D < 0), us⟩)] ∧ AllAr w [(x.num, ⟨decide (N < 0), xs⟩), (x.den, ⟨decide (D < 0), us⟩)] ∧ Nm xs N.natAbs ∧ Nm us D.natAbs
theorem OwQ.later {lo hi : Nat} {w w' : World} {x : QV} {N D : Int} (h : OwQ lo hi w x N D) (hb : Below w.heap.size w w') : OwQ lo hi w' x N D := by
  obtain ⟨xs, us, h1, h2, h3, h4⟩ := h
  exact ⟨xs, us, h1.later hb, h2.later hb, h3, h4⟩
theorem OwQ.wide {lo hi lo' hi' : Nat} {w : World} {x : QV} {N D : Int} (h : OwQ lo hi w x N D) (h1 : lo' ≤ lo) (h2 : hi ≤ hi') : OwQ lo' hi' w x N D := by
  obtain ⟨xs, us, k1, k2, k3, k4⟩ := h
  exact ⟨xs, us, k1.wide h1 h2, k2, k3, k4⟩
theorem OwQ.is {lo hi : Nat} {w : World} {x : QV} {N D : Int} (h : OwQ lo hi w x N D) : IsQ w x N D := by
  obtain ⟨xs, us, k1, k2, k3, k4⟩ := h
  exact isQ_of k2 k3 k4
theorem owQ_two {lo mid hi : Nat} {w : World} {x y : BV} {N D : Int} (h : Ow lo mid w x N) (k : Ow mid hi w y D) (h1 : lo ≤ mid) (h2 : mid ≤ hi) : OwQ lo hi w ⟨x, y⟩ N D := by
  obtain ⟨zs, us, oo, aa, m1, m2⟩ := h.two k h1 h2
  exact ⟨zs, us, oo, aa, m1, m2⟩
/-- A variable's box that holds a fraction of the call's own. -/
structure BxA (wk wx : World) (G : Nat) (x : QV) (N D : Int) : Prop where
  lo : wk.heap.size ≤ G
  hi : G < wx.heap.size
  c0 : wx.cell? ⟨G, 0, none⟩ = some (.bool x.num.g)
  c1 : wx.cell? ⟨G, 1, none⟩ = some (.slice x.num.a x.num.n x.num.c)
  c2 : wx.cell? ⟨G, 2, none⟩ = some (.bool x.den.g)
  c3 : wx.cell? ⟨G, 3, none⟩ = some (.slice x.den.a x.den.n x.den.c)
  fz : ∀ o, wx.frozen? ⟨G, o, none⟩ = false
  ow : OwQ wk.heap.size wx.heap.size wx x N D
  bel : Below wk.heap.size wk wx
theorem bxA_alloc {wk w5 : World} {x : QV} {N D : Int} {B1 H1 B2 H2 : Nat} (t : TypeId) (hk : Below wk.heap.size wk w5) (how1 : Ow B1 H1 w5 x.num N) (how2 : Ow B2 H2 w5 x.den D) (hB : wk.heap.size ≤ B1) (hm : H1 ≤ B2) (h1 : B1 ≤ H1) (h2 : B2 ≤ H2) (hH : H2 ≤ w5.heap.size) : BxA wk (w5.alloc (.cells #[.bool x.num.g, .slice x.num.a x.num.n x.num.c, .bool x.den.g, .slice x.den.a x.den.n x.den.c] t)) w5.heap.size x N D :=
  ⟨hk.size, by simp, by simp [go_sem], by simp [go_sem], by simp [go_sem], by simp [go_sem], fun o => by simp [go_sem], ((owQ_two (how1.wide (Nat.le_refl _) hm) how2 (by omega) (by omega)).later ((Below.refl _ _).alloc (Nat.le_refl _) _)).wide hB (by simp; omega), hk.alloc hk.size _⟩
theorem bxA_set {wk w5 : World} {x : QV} {N D : Int} {B1 H1 B2 H2 G : Nat} {z0 : Value} {z1 : Value} {z2 : Value} {z3 : Value} (hk : Below wk.heap.size wk w5) (how1 : Ow B1 H1 w5 x.num N) (how2 : Ow B2 H2 w5 x.den D) (hB : wk.heap.size ≤ B1) (hm : H1 ≤ B2) (h1 : B1 ≤ H1) (h2 : B2 ≤ H2) (hH : H2 ≤ w5.heap.size) (hG : wk.heap.size ≤ G) (g1 : G < B1 ∨ H1 ≤ G) (g2 : G < B2 ∨ H2 ≤ G) (e0 : w5.cell? ⟨G, 0, none⟩ = some z0) (e1 : w5.cell? ⟨G, 1, none⟩ = some z1) (e2 : w5.cell? ⟨G, 2, none⟩ = some z2) (e3 : w5.cell? ⟨G, 3, none⟩ = some z3) (ef : ∀ o, w5.frozen? ⟨G, o, none⟩ = false) : BxA wk ((((w5.setCell ⟨G, 0, none⟩ (.bool x.num.g)).setCell ⟨G, 1, none⟩ (.slice x.num.a x.num.n x.num.c)).setCell ⟨G, 2, none⟩ (.bool x.den.g)).setCell ⟨G, 3, none⟩ (.slice x.den.a x.den.n x.den.c)) G x N D := by
  have hb := metQ_but (w5 := w5) (v := x) (G := G)
  have hlt : G < w5.heap.size := World.block_lt_of_cell? _ _ e0
  refine ⟨hG, by have := hb.size; omega, ?_, ?_, ?_, ?_, fun o => by simp [go_sem, ef o], (owQ_two ((how1.but hb (by omega)).wide (Nat.le_refl _) hm) (how2.but hb (by omega)) (by omega) (by omega)).wide hB (by have := hb.size; omega), hb.below hk hG hk.size⟩
  · simp [go_sem, e0, e1, e2, e3]
  · simp [go_sem, e0, e1, e2, e3]
  · simp [go_sem, e0, e1, e2, e3]
  · simp [go_sem, e0, e1, e2, e3]
/-- A variable's box that holds a fraction. -/
structure BxI (wk wx : World) (G : Nat) (x : QV) (N D : Int) : Prop where
  lo : wk.heap.size ≤ G
  hi : G < wx.heap.size
  c0 : wx.cell? ⟨G, 0, none⟩ = some (.bool x.num.g)
  c1 : wx.cell? ⟨G, 1, none⟩ = some (.slice x.num.a x.num.n x.num.c)
  c2 : wx.cell? ⟨G, 2, none⟩ = some (.bool x.den.g)
  c3 : wx.cell? ⟨G, 3, none⟩ = some (.slice x.den.a x.den.n x.den.c)
  fz : ∀ o, wx.frozen? ⟨G, o, none⟩ = false
  is : IsQ wx x N D
  bel : Below wk.heap.size wk wx
/-- A number whose limbs lie outside the blocks from B to below E. -/
def IsBo (B E : Nat) (w : World) (b : BV) (V : Int) : Prop := IsB w b V ∧ (V = 0 ∨ ∃ p : Addr, b.a = some p ∧ (p.block < B ∨ E ≤ p.block))
def IsQo (B E : Nat) (w : World) (q : QV) (N D : Int) : Prop := IsBo B E w q.num N ∧ IsBo B E w q.den D
theorem IsBo.later {B E : Nat} {w w' : World} {b : BV} {V : Int} (h : IsBo B E w b V) (hb : Below w.heap.size w w') : IsBo B E w' b V := ⟨h.1.later hb, h.2⟩
theorem IsQo.later {B E : Nat} {w w' : World} {q : QV} {N D : Int} (h : IsQo B E w q N D) (hb : Below w.heap.size w w') : IsQo B E w' q N D := ⟨h.1.later hb, h.2.later hb⟩
theorem IsQo.is {B E : Nat} {w : World} {q : QV} {N D : Int} (h : IsQo B E w q N D) : IsQ w q N D := ⟨h.1.1, h.2.1⟩
theorem isBo_of {B E : Nat} {w : World} {b : BV} {V : Int} (h : IsB w b V) (hB : w.heap.size ≤ B) : IsBo B E w b V := by
  refine ⟨h, ?_⟩
  obtain ⟨xs, h1, h2⟩ := h
  rcases h1.ar.sl with e | ⟨b', off, e, hlt, hc⟩
  · exact .inl (by have := h2.nil_iff.1 e; omega)
  · exact .inr ⟨_, e, .inl (by show b' < B; omega)⟩
theorem isQo_of {B E : Nat} {w : World} {q : QV} {N D : Int} (h : IsQ w q N D) (hB : w.heap.size ≤ B) : IsQo B E w q N D := ⟨isBo_of h.1 hB, isBo_of h.2 hB⟩
theorem isBo_own {B E lo hi : Nat} {w : World} {b : BV} {V : Int} {xs : List Int} {g : Bool} (h : IsB w b V) (ho : Own2 lo hi w b.a xs) (hx : xs = [] → V = 0) (hE : E ≤ lo) : IsBo B E w b V := by
  refine ⟨h, ?_⟩
  rcases ho with e | ⟨b', cur, e, k1, k2, _⟩
  · exact .inl (hx e)
  · exact .inr ⟨_, e, .inr (by show E ≤ b'; omega)⟩
theorem OwQ.out {B E lo hi : Nat} {w : World} {x : QV} {N D : Int} (h : OwQ lo hi w x N D) (hE : E ≤ lo) : IsQo B E w x N D := by
  have hi' := h.is
  obtain ⟨xs, us, k1, k2, k3, k4⟩ := h
  exact ⟨isBo_own (g := true) hi'.1 (k1.own (x.num, ⟨decide (N < 0), xs⟩) (by simp)).own (fun e => by have := k3.nil_iff.1 e; omega) hE, isBo_own (g := true) hi'.2 (k1.own (x.den, ⟨decide (D < 0), us⟩) (by simp)).own (fun e => by have := k4.nil_iff.1 e; omega) hE⟩
theorem IsBo.but {B E lo hi : Nat} {w w' : World} {b : BV} {V : Int} (h : IsBo B E w b V) (hb : But lo hi w w') (hlo : B ≤ lo) (hhi : hi ≤ E) : IsBo B E w' b V := by
  obtain ⟨⟨xs, h1, h2⟩, h3⟩ := h
  refine ⟨⟨xs, ⟨h1.sg, ⟨?_, h1.ar.len, h1.ar.cap, h1.ar.top, h1.ar.addr⟩⟩, h2⟩, h3⟩
  rcases h1.ar.sl with e | ⟨b', off, e, hlt, hc⟩
  · exact .inl e
  · rcases h3 with e0 | ⟨p, hp, hd⟩
    · exact .inl (h2.nil_iff.2 (by omega))
    · rw [e] at hp
      obtain rfl := Option.some.inj hp
      have hd' : b' < B ∨ E ≤ b' := hd
      exact .inr ⟨b', off, e, Nat.lt_of_lt_of_le hlt hb.size, fun i hi => hb.cell (hc i hi) (by omega)⟩
theorem IsQo.but {B E lo hi : Nat} {w w' : World} {q : QV} {N D : Int} (h : IsQo B E w q N D) (hb : But lo hi w w') (hlo : B ≤ lo) (hhi : hi ≤ E) : IsQo B E w' q N D := ⟨h.1.but hb hlo hhi, h.2.but hb hlo hhi⟩
/-- The mids of two fractions, as they are looked at one after another; 0 / 0 where none lies between in time. -/
def midF : Nat → Int → Int → Int → Int → Int → Int → Int → Int → Int × Int
  | 0, _, _, _, _, _, _, _, _ => (0, 0)
  | k + 1, ln, ld, hn, hd, an, ad, bn, bd =>
    if (ln + hn) * ad ≤ an * (ld + hd) then midF k (ln + hn) (ld + hd) hn hd an ad bn bd
    else if bn * (ld + hd) ≤ (ln + hn) * bd then midF k ln ld (ln + hn) (ld + hd) an ad bn bd
    else (ln + hn, ld + hd)
theorem midF_pos (k : Nat) : ∀ (ln ld hn hd an ad bn bd : Int), 0 < ld → 0 < hd → midF k ln ld hn hd an ad bn bd = (0, 0) ∨ 0 < (midF k ln ld hn hd an ad bn bd).2 := by
  induction k with
  | zero => intro _ _ _ _ _ _ _ _ _ _; exact .inl rfl
  | succ k ih =>
    intro ln ld hn hd an ad bn bd h1 h2
    unfold midF
    split
    · exact ih _ _ _ _ _ _ _ _ (by omega) h2
    · split
      · exact ih _ _ _ _ _ _ _ _ h1 (by omega)
      · exact .inr (by show 0 < ld + hd; omega)
theorem midF_lo {k : Nat} {ln ld hn hd an ad bn bd : Int} (c : (ln + hn) * ad ≤ an * (ld + hd)) : midF (k + 1) ln ld hn hd an ad bn bd = midF k (ln + hn) (ld + hd) hn hd an ad bn bd := by rw [midF, if_pos c]
theorem midF_hi {k : Nat} {ln ld hn hd an ad bn bd : Int} (c : ¬ (ln + hn) * ad ≤ an * (ld + hd)) (c' : bn * (ld + hd) ≤ (ln + hn) * bd) : midF (k + 1) ln ld hn hd an ad bn bd = midF k ln ld (ln + hn) (ld + hd) an ad bn bd := by rw [midF, if_neg c, if_pos c']
theorem midF_in {k : Nat} {ln ld hn hd an ad bn bd : Int} (c : ¬ (ln + hn) * ad ≤ an * (ld + hd)) (c' : ¬ bn * (ld + hd) ≤ (ln + hn) * bd) : midF (k + 1) ln ld hn hd an ad bn bd = (ln + hn, ld + hd) := by rw [midF, if_neg c, if_neg c']
theorem cmpZ_le1 {A B : Int} (h : A ≤ B) : decide (cmpZ A B ≤ 0) = true := by rw [cmpZ_le]; exact decide_eq_true h
theorem cmpZ_le0 {A B : Int} (h : ¬ A ≤ B) : decide (cmpZ A B ≤ 0) = false := by rw [cmpZ_le]; exact decide_eq_false h
theorem cmpZ_ge1 {A B : Int} (h : B ≤ A) : decide (0 ≤ cmpZ A B) = true := by unfold cmpZ; rw [if_neg (by omega)]; split <;> rfl
theorem cmpZ_ge0 {A B : Int} (h : ¬ B ≤ A) : decide (0 ≤ cmpZ A B) = false := by unfold cmpZ; rw [if_pos (by omega)]; rfl
/-- The boxes of midBetween. -/
structure Mid (w wr : World) (lq hq aq bq : QV) : Prop where
  p0_0 : wr.cell? ⟨w.heap.size, 0, none⟩ = some (.bool lq.num.g)
  p0_1 : wr.cell? ⟨w.heap.size, 1, none⟩ = some (.slice lq.num.a lq.num.n lq.num.c)
  p0_2 : wr.cell? ⟨w.heap.size, 2, none⟩ = some (.bool lq.den.g)
  p0_3 : wr.cell? ⟨w.heap.size, 3, none⟩ = some (.slice lq.den.a lq.den.n lq.den.c)
  p1_0 : wr.cell? ⟨w.heap.size + 1, 0, none⟩ = some (.bool hq.num.g)
  p1_1 : wr.cell? ⟨w.heap.size + 1, 1, none⟩ = some (.slice hq.num.a hq.num.n hq.num.c)
  p1_2 : wr.cell? ⟨w.heap.size + 1, 2, none⟩ = some (.bool hq.den.g)
  p1_3 : wr.cell? ⟨w.heap.size + 1, 3, none⟩ = some (.slice hq.den.a hq.den.n hq.den.c)
  p2_0 : wr.cell? ⟨w.heap.size + 1 + 1, 0, none⟩ = some (.bool aq.num.g)
  p2_1 : wr.cell? ⟨w.heap.size + 1 + 1, 1, none⟩ = some (.slice aq.num.a aq.num.n aq.num.c)
  p2_2 : wr.cell? ⟨w.heap.size + 1 + 1, 2, none⟩ = some (.bool aq.den.g)
  p2_3 : wr.cell? ⟨w.heap.size + 1 + 1, 3, none⟩ = some (.slice aq.den.a aq.den.n aq.den.c)
  p3_0 : wr.cell? ⟨w.heap.size + 1 + 1 + 1, 0, none⟩ = some (.bool bq.num.g)
  p3_1 : wr.cell? ⟨w.heap.size + 1 + 1 + 1, 1, none⟩ = some (.slice bq.num.a bq.num.n bq.num.c)
  p3_2 : wr.cell? ⟨w.heap.size + 1 + 1 + 1, 2, none⟩ = some (.bool bq.den.g)
  p3_3 : wr.cell? ⟨w.heap.size + 1 + 1 + 1, 3, none⟩ = some (.slice bq.den.a bq.den.n bq.den.c)
  p4_0 : wr.cell? ⟨w.heap.size + 1 + 1 + 1 + 1, 0, none⟩ = some (.bool false)
  p4_1 : wr.cell? ⟨w.heap.size + 1 + 1 + 1 + 1, 1, none⟩ = some (.slice none 0 0)
  p4_2 : wr.cell? ⟨w.heap.size + 1 + 1 + 1 + 1, 2, none⟩ = some (.bool false)
  p4_3 : wr.cell? ⟨w.heap.size + 1 + 1 + 1 + 1, 3, none⟩ = some (.slice none 0 0)
  f0 : ∀ o, wr.frozen? ⟨w.heap.size, o, none⟩ = false
  f1 : ∀ o, wr.frozen? ⟨w.heap.size + 1, o, none⟩ = false
  f4 : ∀ o, wr.frozen? ⟨w.heap.size + 1 + 1 + 1 + 1, o, none⟩ = false
  bel : Below w.heap.size w wr
theorem Mid.later {w wr wy : World} {lq hq aq bq : QV} (h : Mid w wr lq hq aq bq) (hb : Below wr.heap.size wr wy) : Mid w wy lq hq aq bq :=
  ⟨cell_later hb h.p0_0, cell_later hb h.p0_1, cell_later hb h.p0_2, cell_later hb h.p0_3, cell_later hb h.p1_0, cell_later hb h.p1_1, cell_later hb h.p1_2, cell_later hb h.p1_3, cell_later hb h.p2_0, cell_later hb h.p2_1, cell_later hb h.p2_2, cell_later hb h.p2_3, cell_later hb h.p3_0, cell_later hb h.p3_1, cell_later hb h.p3_2, cell_later hb h.p3_3, cell_later hb h.p4_0, cell_later hb h.p4_1, cell_later hb h.p4_2, cell_later hb h.p4_3, fun o => frozen_later hb (World.block_lt_of_cell? _ _ h.p0_0) (h.f0 o), fun o => frozen_later hb (World.block_lt_of_cell? _ _ h.p1_0) (h.f1 o), fun o => frozen_later hb (World.block_lt_of_cell? _ _ h.p4_0) (h.f4 o), below_on h.bel hb⟩
theorem Mid.set0 {w wr : World} {lq hq aq bq q : QV} (h : Mid w wr lq hq aq bq) : Mid w ((((wr.setCell ⟨w.heap.size, 0, none⟩ (.bool q.num.g)).setCell ⟨w.heap.size, 1, none⟩ (.slice q.num.a q.num.n q.num.c)).setCell ⟨w.heap.size, 2, none⟩ (.bool q.den.g)).setCell ⟨w.heap.size, 3, none⟩ (.slice q.den.a q.den.n q.den.c)) q hq aq bq :=
  ⟨by simp [go_sem, h.p0_0, h.p0_1, h.p0_2, h.p0_3], by simp [go_sem, h.p0_0, h.p0_1, h.p0_2, h.p0_3], by simp [go_sem, h.p0_0, h.p0_1, h.p0_2, h.p0_3], by simp [go_sem, h.p0_0, h.p0_1, h.p0_2, h.p0_3], cs_other (cs_other (cs_other (cs_other h.p1_0 (by omega)) (by omega)) (by omega)) (by omega), cs_other (cs_other (cs_other (cs_other h.p1_1 (by omega)) (by omega)) (by omega)) (by omega), cs_other (cs_other (cs_other (cs_other h.p1_2 (by omega)) (by omega)) (by omega)) (by omega), cs_other (cs_other (cs_other (cs_other h.p1_3 (by omega)) (by omega)) (by omega)) (by omega), cs_other (cs_other (cs_other (cs_other h.p2_0 (by omega)) (by omega)) (by omega)) (by omega), cs_other (cs_other (cs_other (cs_other h.p2_1 (by omega)) (by omega)) (by omega)) (by omega), cs_other (cs_other (cs_other (cs_other h.p2_2 (by omega)) (by omega)) (by omega)) (by omega), cs_other (cs_other (cs_other (cs_other h.p2_3 (by omega)) (by omega)) (by omega)) (by omega), cs_other (cs_other (cs_other (cs_other h.p3_0 (by omega)) (by omega)) (by omega)) (by omega), cs_other (cs_other (cs_other (cs_other h.p3_1 (by omega)) (by omega)) (by omega)) (by omega), cs_other (cs_other (cs_other (cs_other h.p3_2 (by omega)) (by omega)) (by omega)) (by omega), cs_other (cs_other (cs_other (cs_other h.p3_3 (by omega)) (by omega)) (by omega)) (by omega), cs_other (cs_other (cs_other (cs_other h.p4_0 (by omega)) (by omega)) (by omega)) (by omega), cs_other (cs_other (cs_other (cs_other h.p4_1 (by omega)) (by omega)) (by omega)) (by omega), cs_other (cs_other (cs_other (cs_other h.p4_2 (by omega)) (by omega)) (by omega)) (by omega), cs_other (cs_other (cs_other (cs_other h.p4_3 (by omega)) (by omega)) (by omega)) (by omega), fun o => by simp [go_sem, h.f0 o], fun o => by simp [go_sem, h.f1 o], fun o => by simp [go_sem, h.f4 o], ((((h.bel.setCell (by show w.heap.size ≤ w.heap.size; omega) _).setCell (by show w.heap.size ≤ w.heap.size; omega) _).setCell (by show w.heap.size ≤ w.heap.size; omega) _).setCell (by show w.heap.size ≤ w.heap.size; omega) _)⟩
theorem Mid.set1 {w wr : World} {lq hq aq bq q : QV} (h : Mid w wr lq hq aq bq) : Mid w ((((wr.setCell ⟨w.heap.size + 1, 0, none⟩ (.bool q.num.g)).setCell ⟨w.heap.size + 1, 1, none⟩ (.slice q.num.a q.num.n q.num.c)).setCell ⟨w.heap.size + 1, 2, none⟩ (.bool q.den.g)).setCell ⟨w.heap.size + 1, 3, none⟩ (.slice q.den.a q.den.n q.den.c)) lq q aq bq :=
  ⟨cs_other (cs_other (cs_other (cs_other h.p0_0 (by omega)) (by omega)) (by omega)) (by omega), cs_other (cs_other (cs_other (cs_other h.p0_1 (by omega)) (by omega)) (by omega)) (by omega), cs_other (cs_other (cs_other (cs_other h.p0_2 (by omega)) (by omega)) (by omega)) (by omega), cs_other (cs_other (cs_other (cs_other h.p0_3 (by omega)) (by omega)) (by omega)) (by omega), by simp [go_sem, h.p1_0, h.p1_1, h.p1_2, h.p1_3], by simp [go_sem, h.p1_0, h.p1_1, h.p1_2, h.p1_3], by simp [go_sem, h.p1_0, h.p1_1, h.p1_2, h.p1_3], by simp [go_sem, h.p1_0, h.p1_1, h.p1_2, h.p1_3], cs_other (cs_other (cs_other (cs_other h.p2_0 (by omega)) (by omega)) (by omega)) (by omega), cs_other (cs_other (cs_other (cs_other h.p2_1 (by omega)) (by omega)) (by omega)) (by omega), cs_other (cs_other (cs_other (cs_other h.p2_2 (by omega)) (by omega)) (by omega)) (by omega), cs_other (cs_other (cs_other (cs_other h.p2_3 (by omega)) (by omega)) (by omega)) (by omega), cs_other (cs_other (cs_other (cs_other h.p3_0 (by omega)) (by omega)) (by omega)) (by omega), cs_other (cs_other (cs_other (cs_other h.p3_1 (by omega)) (by omega)) (by omega)) (by omega), cs_other (cs_other (cs_other (cs_other h.p3_2 (by omega)) (by omega)) (by omega)) (by omega), cs_other (cs_other (cs_other (cs_other h.p3_3 (by omega)) (by omega)) (by omega)) (by omega), cs_other (cs_other (cs_other (cs_other h.p4_0 (by omega)) (by omega)) (by omega)) (by omega), cs_other (cs_other (cs_other (cs_other h.p4_1 (by omega)) (by omega)) (by omega)) (by omega), cs_other (cs_other (cs_other (cs_other h.p4_2 (by omega)) (by omega)) (by omega)) (by omega), cs_other (cs_other (cs_other (cs_other h.p4_3 (by omega)) (by omega)) (by omega)) (by omega), fun o => by simp [go_sem, h.f0 o], fun o => by simp [go_sem, h.f1 o], fun o => by simp [go_sem, h.f4 o], ((((h.bel.setCell (by show w.heap.size ≤ w.heap.size + 1; omega) _).setCell (by show w.heap.size ≤ w.heap.size + 1; omega) _).setCell (by show w.heap.size ≤ w.heap.size + 1; omega) _).setCell (by show w.heap.size ≤ w.heap.size + 1; omega) _)⟩

theorem OutQ.zero {w w' : World} {q : QV} (hq : q = ⟨⟨false, none, 0, 0⟩, ⟨false, none, 0, 0⟩⟩) (hb : Below w.heap.size w w') : OutQ w 0 0 (.returned (.agg #[.bool false, .slice none 0 0, .bool false, .slice none 0 0])) w' := by
  subst hq
  refine ⟨⟨⟨false, none, 0, 0⟩, ⟨false, none, 0, 0⟩⟩, [], [], rfl, hb, zeroQ _ _ _, ?_, Nm.zero, Nm.zero⟩
  exact AllAr.cons ⟨rfl, ⟨.inl rfl, rfl, Nat.le_refl _, Nat.zero_le _, .inl ⟨rfl, rfl⟩⟩⟩ (AllAr.cons ⟨rfl, ⟨.inl rfl, rfl, Nat.le_refl _, Nat.zero_le _, .inl ⟨rfl, rfl⟩⟩⟩ (AllAr.nil _))
set_option maxHeartbeats 8000000 in
theorem midI_v (lq hq aq bq : QV) (ln0 ld0 hn0 hd0 an ad bn bd : Int) (w : World) (jl : IsQ w lq ln0 ld0) (jh : IsQ w hq hn0 hd0) (ja : IsQ w aq an ad) (jb : IsQ w bq bn bd) (kl : Bd ln0 60 ∧ Bd ld0 60) (kh : Bd hn0 60 ∧ Bd hd0 60) (ka : Bd an 60 ∧ Bd ad 60) (kb : Bd bn 60 ∧ Bd bd 60) :
    Calls Try.prog 173 #[.agg #[.bool lq.num.g, .slice lq.num.a lq.num.n lq.num.c, .bool lq.den.g, .slice lq.den.a lq.den.n lq.den.c], .agg #[.bool hq.num.g, .slice hq.num.a hq.num.n hq.num.c, .bool hq.den.g, .slice hq.den.a hq.den.n hq.den.c], .agg #[.bool aq.num.g, .slice aq.num.a aq.num.n aq.num.c, .bool aq.den.g, .slice aq.den.a aq.den.n aq.den.c], .agg #[.bool bq.num.g, .slice bq.num.a bq.num.n bq.num.c, .bool bq.den.g, .slice bq.den.a bq.den.n bq.den.c]] w (OutQ w (midF 200 ln0 ld0 hn0 hd0 an ad bn bd).1 (midF 200 ln0 ld0 hn0 hd0 an ad bn bd).2) := by
  have QL0 := hide (isQo_of (B := w.heap.size) (E := w.heap.size + 5) jl (Nat.le_refl _))
  have QH0 := hide (isQo_of (B := w.heap.size) (E := w.heap.size + 5) jh (Nat.le_refl _))
  have QA0 := hide (isQo_of (B := w.heap.size) (E := w.heap.size + 5) ja (Nat.le_refl _))
  have QB0 := hide (isQo_of (B := w.heap.size) (E := w.heap.size + 5) jb (Nat.le_refl _))
  have KL0 := hide (And.intro kl kh)
  have KA := hide ka
  have KB := hide kb
  clear jl jh ja jb kl kh ka kb
  have B0 := hide (show Below w.heap.size w (((((w.alloc (.cells #[.bool lq.num.g, .slice lq.num.a lq.num.n lq.num.c, .bool lq.den.g, .slice lq.den.a lq.den.n lq.den.c] 40)).alloc (.cells #[.bool hq.num.g, .slice hq.num.a hq.num.n hq.num.c, .bool hq.den.g, .slice hq.den.a hq.den.n hq.den.c] 40)).alloc (.cells #[.bool aq.num.g, .slice aq.num.a aq.num.n aq.num.c, .bool aq.den.g, .slice aq.den.a aq.den.n aq.den.c] 40)).alloc (.cells #[.bool bq.num.g, .slice bq.num.a bq.num.n bq.num.c, .bool bq.den.g, .slice bq.den.a bq.den.n bq.den.c] 40)).alloc (.cells #[.bool false, .slice none 0 0, .bool false, .slice none 0 0] 40)) from ((((((Below.refl _ _).alloc (by simp) _).alloc (by simp) _).alloc (by simp <;> omega) _).alloc (by simp <;> omega) _).alloc (by simp <;> omega) _))
  have M0 : Hid (Mid w (((((w.alloc (.cells #[.bool lq.num.g, .slice lq.num.a lq.num.n lq.num.c, .bool lq.den.g, .slice lq.den.a lq.den.n lq.den.c] 40)).alloc (.cells #[.bool hq.num.g, .slice hq.num.a hq.num.n hq.num.c, .bool hq.den.g, .slice hq.den.a hq.den.n hq.den.c] 40)).alloc (.cells #[.bool aq.num.g, .slice aq.num.a aq.num.n aq.num.c, .bool aq.den.g, .slice aq.den.a aq.den.n aq.den.c] 40)).alloc (.cells #[.bool bq.num.g, .slice bq.num.a bq.num.n bq.num.c, .bool bq.den.g, .slice bq.den.a bq.den.n bq.den.c] 40)).alloc (.cells #[.bool false, .slice none 0 0, .bool false, .slice none 0 0] 40)) lq hq aq bq) := hide ⟨by simp [go_sem], by simp [go_sem], by simp [go_sem], by simp [go_sem], by simp [go_sem], by simp [go_sem], by simp [go_sem], by simp [go_sem], by simp [go_sem], by simp [go_sem], by simp [go_sem], by simp [go_sem], by simp [go_sem], by simp [go_sem], by simp [go_sem], by simp [go_sem], by simp [go_sem], by simp [go_sem], by simp [go_sem], by simp [go_sem], fun o => by simp [go_sem], fun o => by simp [go_sem], fun o => by simp [go_sem], unhide B0⟩
  replace QL0 := hide ((unhide QL0).later (unhide B0))
  replace QH0 := hide ((unhide QH0).later (unhide B0))
  replace QA0 := hide ((unhide QA0).later (unhide B0))
  replace QB0 := hide ((unhide QB0).later (unhide B0))
  clear B0
  go_enter Try.func173, Try.ntmps173
  go_wp2
  go_loopw [10] (fun iv wr => ∃ (i : Nat) (lq hq : QV) (ln ld hn hd : Int), i ≤ 200 ∧ iv = .int .i64 i ∧ Hid (midF (200 - i) ln ld hn hd an ad bn bd = midF 200 ln0 ld0 hn0 hd0 an ad bn bd) ∧ Hid (IsQo w.heap.size (w.heap.size + 5) wr lq ln ld) ∧ Hid (IsQo w.heap.size (w.heap.size + 5) wr hq hn hd) ∧ Hid (IsQo w.heap.size (w.heap.size + 5) wr aq an ad) ∧ Hid (IsQo w.heap.size (w.heap.size + 5) wr bq bn bd) ∧ Hid ((Bd ln (60 + i) ∧ Bd ld (60 + i)) ∧ (Bd hn (60 + i) ∧ Bd hd (60 + i))) ∧ Hid (Mid w wr lq hq aq bq)) (fun iv _ => 200 - (intOf iv).toNat)
  case atStart => exact ⟨0, lq, hq, ln0, ld0, hn0, hd0, by omega, rfl, hide rfl, QL0, QH0, QA0, QB0, KL0, M0⟩
  case round =>
    clear QL0 QH0 QA0 QB0 KL0 M0
    obtain ⟨i, lq, hq, ln, ld, hn, hd, hi, rfl, EM, QL, QH, QA, QB, BL, M⟩ := hrel
    have hsz0 : w.heap.size + 1 + 1 + 1 + 1 < wr.heap.size := World.block_lt_of_cell? _ _ (unhide M).p4_0
    by_cases hlt : i < 200
    · have hlt' : (i : Int) < 200 := by omega
      have K1 := hide (And.intro ((unhide BL).1.1.mono (show 60 + i ≤ 400000 by omega)) ((unhide BL).2.1.mono (show 60 + i ≤ 400000 by omega)))
      have K2 := hide (And.intro ((unhide BL).1.2.mono (show 60 + i ≤ 400000 by omega)) ((unhide BL).2.2.mono (show 60 + i ≤ 400000 by omega)))
      have BM : Hid (Bd (ln + hn) (60 + (i + 1)) ∧ Bd (ld + hd) (60 + (i + 1))) := hide ⟨((unhide BL).1.1.add (unhide BL).2.1).mono (by omega), ((unhide BL).1.2.add (unhide BL).2.2).mono (by omega)⟩
      have k0_0 := (unhide M).p0_0
      have k0_1 := (unhide M).p0_1
      have k0_2 := (unhide M).p0_2
      have k0_3 := (unhide M).p0_3
      have k1_0 := (unhide M).p1_0
      have k1_1 := (unhide M).p1_1
      have k1_2 := (unhide M).p1_2
      have k1_3 := (unhide M).p1_3
      go_upto_region 3 with fail
      go_cut [9] (fun p wx => ∃ (G : Nat) (x : QV), p = .pointer (some ⟨G, 0, none⟩) ∧ Hid (BxA wr wx G x (ln + hn) (ld + hd)))
      case first =>
        go_region_held3 (fun w' => w'.cell? ⟨w.heap.size, 0, none⟩ = some (.bool lq.num.g) ∧ w'.cell? ⟨w.heap.size, 1, none⟩ = some (.slice lq.num.a lq.num.n lq.num.c) ∧ w'.cell? ⟨w.heap.size, 2, none⟩ = some (.bool lq.den.g) ∧ w'.cell? ⟨w.heap.size, 3, none⟩ = some (.slice lq.den.a lq.den.n lq.den.c) ∧ w'.cell? ⟨w.heap.size + 1, 0, none⟩ = some (.bool hq.num.g) ∧ w'.cell? ⟨w.heap.size + 1, 1, none⟩ = some (.slice hq.num.a hq.num.n hq.num.c) ∧ w'.cell? ⟨w.heap.size + 1, 2, none⟩ = some (.bool hq.den.g) ∧ w'.cell? ⟨w.heap.size + 1, 3, none⟩ = some (.slice hq.den.a hq.den.n hq.den.c)) (with_reducible (first | exact ⟨k0_0, k0_1, k0_2, k0_3, k1_0, k1_1, k1_2, k1_3⟩ | exact ⟨cd_other k0_0, cd_other k0_1, cd_other k0_2, cd_other k0_3, cd_other k1_0, cd_other k1_1, cd_other k1_2, cd_other k1_3⟩ | exact ⟨ca_other k0_0, ca_other k0_1, ca_other k0_2, ca_other k0_3, ca_other k1_0, ca_other k1_1, ca_other k1_2, ca_other k1_3⟩ | exact ⟨cd_other (ca_other k0_0), cd_other (ca_other k0_1), cd_other (ca_other k0_2), cd_other (ca_other k0_3), cd_other (ca_other k1_0), cd_other (ca_other k1_1), cd_other (ca_other k1_2), cd_other (ca_other k1_3)⟩ | exact ⟨cs_other (cs_other (cs_other (cs_other (k0_0) (by omega)) (by omega)) (by omega)) (by omega), cs_other (cs_other (cs_other (cs_other (k0_1) (by omega)) (by omega)) (by omega)) (by omega), cs_other (cs_other (cs_other (cs_other (k0_2) (by omega)) (by omega)) (by omega)) (by omega), cs_other (cs_other (cs_other (cs_other (k0_3) (by omega)) (by omega)) (by omega)) (by omega), cs_other (cs_other (cs_other (cs_other (k1_0) (by omega)) (by omega)) (by omega)) (by omega), cs_other (cs_other (cs_other (cs_other (k1_1) (by omega)) (by omega)) (by omega)) (by omega), cs_other (cs_other (cs_other (cs_other (k1_2) (by omega)) (by omega)) (by omega)) (by omega), cs_other (cs_other (cs_other (cs_other (k1_3) (by omega)) (by omega)) (by omega)) (by omega)⟩ | fail))
          (first
          | (go_at_call_of 167 (Value.agg #[Value.bool lq.num.g, Value.slice lq.num.a lq.num.n lq.num.c]); refine (addI_v lq.num hq.num _ _ _ ?_ ?_ (unhide K1).1 (unhide K1).2).mono ?_; (first | exact (unhide QL).1.1.later (Below.refl _ _).drew | exact (unhide QL).1.1.later ((Below.refl _ _).alloc (Nat.le_refl _) _).drew); (first | exact (unhide QH).1.1.later (Below.refl _ _).drew | exact (unhide QH).1.1.later ((Below.refl _ _).alloc (Nat.le_refl _) _).drew); rintro e w1b ⟨x1, l1, rfl, hb, o1, a1, n1⟩; have hbx : Below wr.heap.size wr w1b := (by first | exact below_of_drew hb | exact bad hb); have szw1b := hbx.size; replace k0_0 := cell_later hbx k0_0; replace k0_1 := cell_later hbx k0_1; replace k0_2 := cell_later hbx k0_2; replace k0_3 := cell_later hbx k0_3; replace k1_0 := cell_later hbx k1_0; replace k1_1 := cell_later hbx k1_1; replace k1_2 := cell_later hbx k1_2; replace k1_3 := cell_later hbx k1_3; replace QL := hide ((unhide QL).later hbx); replace QH := hide ((unhide QH).later hbx); have Px1 := hide (outN_ow o1 a1 n1); (try (replace gf := fun o => frozen_later hbx (World.block_lt_of_cell? _ _ g0) (gf o); replace g0 := cell_later hbx g0; replace g1 := cell_later hbx g1; replace g2 := cell_later hbx g2; replace g3 := cell_later hbx g3)); (try (refine cutP (p := w1b.cell? ⟨wr.heap.size, 0, none⟩ = some (.bool false) ∧ w1b.cell? ⟨wr.heap.size, 1, none⟩ = some (.slice none 0 0) ∧ w1b.cell? ⟨wr.heap.size, 2, none⟩ = some (.bool false) ∧ w1b.cell? ⟨wr.heap.size, 3, none⟩ = some (.slice none 0 0) ∧ ∀ o, w1b.frozen? ⟨wr.heap.size, o, none⟩ = false) ?_ (fun dd => ?_); (focus (refine ⟨cell_later hb ?_, cell_later hb ?_, cell_later hb ?_, cell_later hb ?_, fun o => frozen_later hb ?_ ?_⟩ <;> (simp [go_sem]; done))); obtain ⟨g0, g1, g2, g3, gf⟩ := dd)); have zz := hb.size; (try simp at zz); have HBr := hide hbx; clear hbx hb o1 a1 n1)
          | (go_at_call_of 167 (Value.agg #[Value.bool lq.den.g, Value.slice lq.den.a lq.den.n lq.den.c]); refine (addI_v lq.den hq.den _ _ _ ?_ ?_ (unhide K2).1 (unhide K2).2).mono ?_; (first | exact (unhide QL).2.1.later (Below.refl _ _) | exact (unhide QL).2.1.later ((Below.refl _ _).alloc (Nat.le_refl _) _)); (first | exact (unhide QH).2.1.later (Below.refl _ _) | exact (unhide QH).2.1.later ((Below.refl _ _).alloc (Nat.le_refl _) _)); rintro e w2b ⟨x2, l2, rfl, hb, o2, a2, n2⟩; have hbx : Below w1b.heap.size w1b w2b := (by first | exact hb | exact ba hb); have szw2b := hbx.size; replace k0_0 := cell_later hbx k0_0; replace k0_1 := cell_later hbx k0_1; replace k0_2 := cell_later hbx k0_2; replace k0_3 := cell_later hbx k0_3; replace k1_0 := cell_later hbx k1_0; replace k1_1 := cell_later hbx k1_1; replace k1_2 := cell_later hbx k1_2; replace k1_3 := cell_later hbx k1_3; replace QL := hide ((unhide QL).later hbx); replace QH := hide ((unhide QH).later hbx); replace Px1 := hide ((unhide Px1).later hbx); have Px2 := hide (outN_ow o2 a2 n2); (try (replace gf := fun o => frozen_later hbx (World.block_lt_of_cell? _ _ g0) (gf o); replace g0 := cell_later hbx g0; replace g1 := cell_later hbx g1; replace g2 := cell_later hbx g2; replace g3 := cell_later hbx g3)); (try (refine cutP (p := w2b.cell? ⟨w1b.heap.size, 0, none⟩ = some (.bool false) ∧ w2b.cell? ⟨w1b.heap.size, 1, none⟩ = some (.slice none 0 0) ∧ w2b.cell? ⟨w1b.heap.size, 2, none⟩ = some (.bool false) ∧ w2b.cell? ⟨w1b.heap.size, 3, none⟩ = some (.slice none 0 0) ∧ ∀ o, w2b.frozen? ⟨w1b.heap.size, o, none⟩ = false) ?_ (fun dd => ?_); (focus (refine ⟨cell_later hb ?_, cell_later hb ?_, cell_later hb ?_, cell_later hb ?_, fun o => frozen_later hb ?_ ?_⟩ <;> (simp [go_sem]; done))); obtain ⟨g0, g1, g2, g3, gf⟩ := dd)); have zz := hb.size; (try simp at zz); have HBr := hide (below_on (unhide HBr) hbx); clear hbx hb o2 a2 n2))
        all_goals go_wp2_with fail
        all_goals go_meet
        all_goals first
          | (refine ⟨_, ⟨x1, x2⟩, rfl, hide (bxA_alloc (x := ⟨x1, x2⟩) 40 (unhide HBr) (unhide Px1) (unhide Px2) ?_ ?_ ?_ ?_ ?_)⟩ <;> first | omega | (simp; done) | (simp; omega))
          | (refine ⟨_, ⟨x1, x2⟩, rfl, hide (bxA_set (x := ⟨x1, x2⟩) (unhide HBr) (unhide Px1) (unhide Px2) ?_ ?_ ?_ ?_ ?_ ?_ ?_ ?_ g0 g1 g2 g3 gf)⟩ <;> first | omega | (simp; done) | (simp; omega))
      case rest =>
        obtain ⟨G, xG, rfl, HX⟩ := hcut
        have hb := (unhide HX).bel
        have OX := hide (unhide HX).ow
        have g0 := (unhide HX).c0
        have g1 := (unhide HX).c1
        have g2 := (unhide HX).c2
        have g3 := (unhide HX).c3
        have gf := (unhide HX).fz
        replace QL := hide ((unhide QL).later hb)
        replace QH := hide ((unhide QH).later hb)
        replace QA := hide ((unhide QA).later hb)
        replace QB := hide ((unhide QB).later hb)
        replace M := hide ((unhide M).later hb)
        have szc := hb.size
        have gG := (unhide HX).lo
        clear hb HX k0_0 k0_1 k0_2 k0_3 k1_0 k1_1 k1_2 k1_3 K1 K2
        by_cases c1 : (ln + hn) * ad ≤ an * (ld + hd)
        · have t1 : decide (cmpZ ((ln + hn) * ad) (an * (ld + hd)) ≤ 0) = true := cmpZ_le1 c1
          have EN := hide (show midF (200 - (i + 1)) (ln + hn) (ld + hd) hn hd an ad bn bd = midF 200 ln0 ld0 hn0 hd0 an ad bn bd from (midF_lo c1).symm.trans (by have h := unhide EM; rw [show 200 - i = (200 - (i + 1)) + 1 by omega] at h; exact h))
          clear c1
          have p2_0 := (unhide M).p2_0
          have p2_1 := (unhide M).p2_1
          have p2_2 := (unhide M).p2_2
          have p2_3 := (unhide M).p2_3
          go_wp2_with fail
          refine (cmpQI xG aq _ _ _ _ _ (unhide OX).is (unhide QA).is ((unhide BM).1.mono (by omega)) ((unhide BM).2.mono (by omega)) ((unhide KA).1.mono (by omega)) ((unhide KA).2.mono (by omega))).mono ?_
          rintro e w1 ⟨rfl, hb⟩
          replace gf := fun o => frozen_later hb (World.block_lt_of_cell? _ _ g0) (gf o)
          replace g0 := cell_later hb g0
          replace g1 := cell_later hb g1
          replace g2 := cell_later hb g2
          replace g3 := cell_later hb g3
          clear p2_0 p2_1 p2_2 p2_3
          replace OX := hide ((unhide OX).later hb)
          replace QL := hide ((unhide QL).later hb)
          replace QH := hide ((unhide QH).later hb)
          replace QA := hide ((unhide QA).later hb)
          replace QB := hide ((unhide QB).later hb)
          replace M := hide ((unhide M).later hb)
          have sz0 := hb.size
          clear hb
          have p0_0 := (unhide M).p0_0
          have p0_1 := (unhide M).p0_1
          have p0_2 := (unhide M).p0_2
          have p0_3 := (unhide M).p0_3
          have ff := (unhide M).f0
          have MS := hide ((unhide M).set0 (q := xG))
          have bt : Hid (But (w.heap.size) (w.heap.size + 1) w1 ((((w1.setCell ⟨w.heap.size, 0, none⟩ (.bool xG.num.g)).setCell ⟨w.heap.size, 1, none⟩ (.slice xG.num.a xG.num.n xG.num.c)).setCell ⟨w.heap.size, 2, none⟩ (.bool xG.den.g)).setCell ⟨w.heap.size, 3, none⟩ (.slice xG.den.a xG.den.n xG.den.c))) := hide (metQ_but (w5 := w1) (v := xG) (G := w.heap.size))
          go_wp2
          go_roundw
          case rel => exact ⟨i + 1, xG, hq, (ln + hn), (ld + hd), hn, hd, by omega, by go_num, EN, hide (((unhide OX).out (by omega)).but (unhide bt) (by omega) (by omega)), hide ((unhide QH).but (unhide bt) (by omega) (by omega)), hide ((unhide QA).but (unhide bt) (by omega) (by omega)), hide ((unhide QB).but (unhide bt) (by omega) (by omega)), hide ⟨⟨(unhide BM).1.mono (by omega), (unhide BM).2.mono (by omega)⟩, ⟨(unhide BL).2.1.mono (by omega), (unhide BL).2.2.mono (by omega)⟩⟩, MS⟩
          case measure => simp [intOf]; omega
        · by_cases c2 : bn * (ld + hd) ≤ (ln + hn) * bd
          · have t1 : decide (cmpZ ((ln + hn) * ad) (an * (ld + hd)) ≤ 0) = false := cmpZ_le0 c1
            have t2 : decide (0 ≤ cmpZ ((ln + hn) * bd) (bn * (ld + hd))) = true := cmpZ_ge1 c2
            have EN := hide (show midF (200 - (i + 1)) ln ld (ln + hn) (ld + hd) an ad bn bd = midF 200 ln0 ld0 hn0 hd0 an ad bn bd from (midF_hi c1 c2).symm.trans (by have h := unhide EM; rw [show 200 - i = (200 - (i + 1)) + 1 by omega] at h; exact h))
            clear c1 c2
            have p2_0 := (unhide M).p2_0
            have p2_1 := (unhide M).p2_1
            have p2_2 := (unhide M).p2_2
            have p2_3 := (unhide M).p2_3
            go_wp2_with fail
            refine (cmpQI xG aq _ _ _ _ _ (unhide OX).is (unhide QA).is ((unhide BM).1.mono (by omega)) ((unhide BM).2.mono (by omega)) ((unhide KA).1.mono (by omega)) ((unhide KA).2.mono (by omega))).mono ?_
            rintro e w1 ⟨rfl, hb⟩
            replace gf := fun o => frozen_later hb (World.block_lt_of_cell? _ _ g0) (gf o)
            replace g0 := cell_later hb g0
            replace g1 := cell_later hb g1
            replace g2 := cell_later hb g2
            replace g3 := cell_later hb g3
            clear p2_0 p2_1 p2_2 p2_3
            replace OX := hide ((unhide OX).later hb)
            replace QL := hide ((unhide QL).later hb)
            replace QH := hide ((unhide QH).later hb)
            replace QA := hide ((unhide QA).later hb)
            replace QB := hide ((unhide QB).later hb)
            replace M := hide ((unhide M).later hb)
            have sz0 := hb.size
            clear hb
            have p3_0 := (unhide M).p3_0
            have p3_1 := (unhide M).p3_1
            have p3_2 := (unhide M).p3_2
            have p3_3 := (unhide M).p3_3
            go_wp2_with fail
            refine (cmpQI xG bq _ _ _ _ _ (unhide OX).is (unhide QB).is ((unhide BM).1.mono (by omega)) ((unhide BM).2.mono (by omega)) ((unhide KB).1.mono (by omega)) ((unhide KB).2.mono (by omega))).mono ?_
            rintro e w2 ⟨rfl, hb⟩
            replace gf := fun o => frozen_later hb (World.block_lt_of_cell? _ _ g0) (gf o)
            replace g0 := cell_later hb g0
            replace g1 := cell_later hb g1
            replace g2 := cell_later hb g2
            replace g3 := cell_later hb g3
            clear p3_0 p3_1 p3_2 p3_3
            replace OX := hide ((unhide OX).later hb)
            replace QL := hide ((unhide QL).later hb)
            replace QH := hide ((unhide QH).later hb)
            replace QA := hide ((unhide QA).later hb)
            replace QB := hide ((unhide QB).later hb)
            replace M := hide ((unhide M).later hb)
            have sz1 := hb.size
            clear hb
            have p1_0 := (unhide M).p1_0
            have p1_1 := (unhide M).p1_1
            have p1_2 := (unhide M).p1_2
            have p1_3 := (unhide M).p1_3
            have ff := (unhide M).f1
            have MS := hide ((unhide M).set1 (q := xG))
            have bt : Hid (But (w.heap.size + 1) (w.heap.size + 1 + 1) w2 ((((w2.setCell ⟨w.heap.size + 1, 0, none⟩ (.bool xG.num.g)).setCell ⟨w.heap.size + 1, 1, none⟩ (.slice xG.num.a xG.num.n xG.num.c)).setCell ⟨w.heap.size + 1, 2, none⟩ (.bool xG.den.g)).setCell ⟨w.heap.size + 1, 3, none⟩ (.slice xG.den.a xG.den.n xG.den.c))) := hide (metQ_but (w5 := w2) (v := xG) (G := w.heap.size + 1))
            go_wp2
            go_roundw
            case rel => exact ⟨i + 1, lq, xG, ln, ld, (ln + hn), (ld + hd), by omega, by go_num, EN, hide ((unhide QL).but (unhide bt) (by omega) (by omega)), hide (((unhide OX).out (by omega)).but (unhide bt) (by omega) (by omega)), hide ((unhide QA).but (unhide bt) (by omega) (by omega)), hide ((unhide QB).but (unhide bt) (by omega) (by omega)), hide ⟨⟨(unhide BL).1.1.mono (by omega), (unhide BL).1.2.mono (by omega)⟩, ⟨(unhide BM).1.mono (by omega), (unhide BM).2.mono (by omega)⟩⟩, MS⟩
            case measure => simp [intOf]; omega
          · have t1 : decide (cmpZ ((ln + hn) * ad) (an * (ld + hd)) ≤ 0) = false := cmpZ_le0 c1
            have t2 : decide (0 ≤ cmpZ ((ln + hn) * bd) (bn * (ld + hd))) = false := cmpZ_ge0 c2
            have EN := hide (show (ln + hn, ld + hd) = midF 200 ln0 ld0 hn0 hd0 an ad bn bd from (midF_in c1 c2).symm.trans (by have h := unhide EM; rw [show 200 - i = (200 - (i + 1)) + 1 by omega] at h; exact h))
            clear c1 c2
            have p2_0 := (unhide M).p2_0
            have p2_1 := (unhide M).p2_1
            have p2_2 := (unhide M).p2_2
            have p2_3 := (unhide M).p2_3
            go_wp2_with fail
            refine (cmpQI xG aq _ _ _ _ _ (unhide OX).is (unhide QA).is ((unhide BM).1.mono (by omega)) ((unhide BM).2.mono (by omega)) ((unhide KA).1.mono (by omega)) ((unhide KA).2.mono (by omega))).mono ?_
            rintro e w1 ⟨rfl, hb⟩
            replace gf := fun o => frozen_later hb (World.block_lt_of_cell? _ _ g0) (gf o)
            replace g0 := cell_later hb g0
            replace g1 := cell_later hb g1
            replace g2 := cell_later hb g2
            replace g3 := cell_later hb g3
            clear p2_0 p2_1 p2_2 p2_3
            replace OX := hide ((unhide OX).later hb)
            replace QL := hide ((unhide QL).later hb)
            replace QH := hide ((unhide QH).later hb)
            replace QA := hide ((unhide QA).later hb)
            replace QB := hide ((unhide QB).later hb)
            replace M := hide ((unhide M).later hb)
            have sz0 := hb.size
            clear hb
            have p3_0 := (unhide M).p3_0
            have p3_1 := (unhide M).p3_1
            have p3_2 := (unhide M).p3_2
            have p3_3 := (unhide M).p3_3
            go_wp2_with fail
            refine (cmpQI xG bq _ _ _ _ _ (unhide OX).is (unhide QB).is ((unhide BM).1.mono (by omega)) ((unhide BM).2.mono (by omega)) ((unhide KB).1.mono (by omega)) ((unhide KB).2.mono (by omega))).mono ?_
            rintro e w2 ⟨rfl, hb⟩
            replace gf := fun o => frozen_later hb (World.block_lt_of_cell? _ _ g0) (gf o)
            replace g0 := cell_later hb g0
            replace g1 := cell_later hb g1
            replace g2 := cell_later hb g2
            replace g3 := cell_later hb g3
            clear p3_0 p3_1 p3_2 p3_3
            replace OX := hide ((unhide OX).later hb)
            replace QL := hide ((unhide QL).later hb)
            replace QH := hide ((unhide QH).later hb)
            replace QA := hide ((unhide QA).later hb)
            replace QB := hide ((unhide QB).later hb)
            replace M := hide ((unhide M).later hb)
            have sz1 := hb.size
            clear hb
            have p4_0 := (unhide M).p4_0
            have p4_1 := (unhide M).p4_1
            have p4_2 := (unhide M).p4_2
            have p4_3 := (unhide M).p4_3
            have ff := (unhide M).f4
            have HB := hide (unhide M).bel
            go_wp2
            refine bodyPost_ret (v := .agg #[.bool xG.num.g, .slice xG.num.a xG.num.n xG.num.c, .bool xG.den.g, .slice xG.den.a xG.den.n xG.den.c]) (by simp [results, Try.results173, go_sem, p4_0, p4_1, p4_2, p4_3]) rfl ?_
            rw [← unhide EN]
            obtain ⟨xs, us, k1, k2, k3, k4⟩ := unhide OX
            exact outQ_fin (q := xG) (R := w.heap.size + 1 + 1 + 1 + 1) (by omega) (unhide HB) (metQ_but (w5 := w2) (v := xG) (G := w.heap.size + 1 + 1 + 1 + 1)) (k1.wide (by omega) (by omega)) k2 k3 k4
    · obtain rfl : i = 200 := by omega
      have EN := hide (show (0, 0) = midF 200 ln0 ld0 hn0 hd0 an ad bn bd from unhide EM)
      have p4_0 := (unhide M).p4_0
      have p4_1 := (unhide M).p4_1
      have p4_2 := (unhide M).p4_2
      have p4_3 := (unhide M).p4_3
      have ff := (unhide M).f4
      have HB := hide (unhide M).bel
      go_wp2
      refine bodyPost_ret (v := .agg #[.bool false, .slice none 0 0, .bool false, .slice none 0 0]) (by simp [results, Try.results173, go_sem, p4_0, p4_1, p4_2, p4_3]) rfl ?_
      rw [← unhide EN]
      exact OutQ.zero rfl ((metQ_but (w5 := wr) (v := ⟨⟨false, none, 0, 0⟩, ⟨false, none, 0, 0⟩⟩) (G := w.heap.size + 1 + 1 + 1 + 1)).below (unhide HB) (by omega) (unhide HB).size)

/-- What SimplestIn tells of a and b: 0 / 0 where it tells nothing. -/
def smp (an ad bn bd : Int) : Int × Int := if bn * ad ≤ an * bd then (0, 0) else if (an / ad + 1) * bd < bn * 1 then (an / ad + 1, 1) else midF 200 (an / ad) 1 (an / ad + 1) 1 an ad bn bd
theorem smp_pos {an ad bn bd : Int} : smp an ad bn bd = (0, 0) ∨ 0 < (smp an ad bn bd).2 := by
  unfold smp
  split
  · exact .inl rfl
  · split
    · exact .inr (by show (0 : Int) < 1; decide)
    · exact midF_pos _ _ _ _ _ _ _ _ _ (by decide) (by decide)
theorem smp_no {an ad bn bd : Int} (c : bn * ad ≤ an * bd) : smp an ad bn bd = (0, 0) := by unfold smp; rw [if_pos c]
theorem smp_next {an ad bn bd : Int} (c : ¬ bn * ad ≤ an * bd) (c' : (an / ad + 1) * bd < bn * 1) : smp an ad bn bd = (an / ad + 1, 1) := by unfold smp; rw [if_neg c, if_pos c']
theorem smp_mid {an ad bn bd : Int} (c : ¬ bn * ad ≤ an * bd) (c' : ¬ (an / ad + 1) * bd < bn * 1) : smp an ad bn bd = midF 200 (an / ad) 1 (an / ad + 1) 1 an ad bn bd := by unfold smp; rw [if_neg c, if_neg c']
theorem one_bd2 {L : Nat} (h : 1 ≤ L) : Bd 1 L := (show Bd 1 1 from ⟨by decide⟩).mono h
theorem floor_bd {N D : Int} {L : Nat} (hD : 0 < D) (h : Bd N L) : Bd (N / D) L := h.le (by have := (floor_abs (N := N) hD).1; omega)

set_option maxHeartbeats 8000000 in
theorem simpI_v (aq bq : QV) (an ad bn bd : Int) (w : World) (ja : IsQ w aq an ad) (jb : IsQ w bq bn bd) (pa : 0 < ad) (pb : 0 < bd) (ka : Bd an 40 ∧ Bd ad 40) (kb : Bd bn 40 ∧ Bd bd 40) :
    Calls Try.prog 104 #[.agg #[.bool aq.num.g, .slice aq.num.a aq.num.n aq.num.c, .bool aq.den.g, .slice aq.den.a aq.den.n aq.den.c], .agg #[.bool bq.num.g, .slice bq.num.a bq.num.n bq.num.c, .bool bq.den.g, .slice bq.den.a bq.den.n bq.den.c]] w (OutQ w (smp an ad bn bd).1 (smp an ad bn bd).2) := by
  have QA := hide ja
  have QB := hide jb
  have KA := hide ka
  have KB := hide kb
  have PA := hide pa
  clear ja jb ka kb pa pb
  by_cases c0 : bn * ad ≤ an * bd
  · have t1 : decide (0 ≤ cmpZ (an * bd) (bn * ad)) = true := cmpZ_ge1 c0
    rw [smp_no c0]
    clear c0
    have B0 := hide (show Below w.heap.size w (((w.alloc (.cells #[.bool aq.num.g, .slice aq.num.a aq.num.n aq.num.c, .bool aq.den.g, .slice aq.den.a aq.den.n aq.den.c] 40)).alloc (.cells #[.bool bq.num.g, .slice bq.num.a bq.num.n bq.num.c, .bool bq.den.g, .slice bq.den.a bq.den.n bq.den.c] 40)).alloc (.cells #[.bool false, .slice none 0 0, .bool false, .slice none 0 0] 40)) from ((((Below.refl _ _).alloc (by simp) _).alloc (by simp) _).alloc (by simp <;> omega) _))
    go_enter Try.func104, Try.ntmps104
    go_wp2_with fail
    refine (cmpQI aq bq _ _ _ _ _ ((unhide QA).later (unhide B0)) ((unhide QB).later (unhide B0)) ((unhide KA).1.mono (by omega)) ((unhide KA).2.mono (by omega)) ((unhide KB).1.mono (by omega)) ((unhide KB).2.mono (by omega))).mono ?_
    rintro e w1 ⟨rfl, hb⟩
    have s1 : w.heap.size + 1 + 1 < w1.heap.size := by have := hb.size; simp at this; omega
    have k2_0 : w1.cell? ⟨w.heap.size + 1 + 1, 0, none⟩ = some (.bool false) := cell_later hb (by simp [go_sem])
    have k2_1 : w1.cell? ⟨w.heap.size + 1 + 1, 1, none⟩ = some (.slice none 0 0) := cell_later hb (by simp [go_sem])
    have k2_2 : w1.cell? ⟨w.heap.size + 1 + 1, 2, none⟩ = some (.bool false) := cell_later hb (by simp [go_sem])
    have k2_3 : w1.cell? ⟨w.heap.size + 1 + 1, 3, none⟩ = some (.slice none 0 0) := cell_later hb (by simp [go_sem])
    have z2 : ∀ o, w1.frozen? ⟨w.heap.size + 1 + 1, o, none⟩ = false := fun o => frozen_later hb (by simp) (by simp [go_sem])
    have HB := hide (below_on (unhide B0) hb)
    clear hb
    go_wp2
    refine bodyPost_ret (v := .agg #[.bool false, .slice none 0 0, .bool false, .slice none 0 0]) (by simp [results, Try.results104, go_sem, k2_0, k2_1, k2_2, k2_3]) rfl ?_
    exact OutQ.zero rfl ((metQ_but (w5 := w1) (v := ⟨⟨false, none, 0, 0⟩, ⟨false, none, 0, 0⟩⟩) (G := w.heap.size + 1 + 1)).below (unhide HB) (by omega) (unhide HB).size)
  · by_cases c1 : (an / ad + 1) * bd < bn * 1
    · have t1 : decide (0 ≤ cmpZ (an * bd) (bn * ad)) = false := cmpZ_ge0 c0
      have t2 : decide (cmpZ ((an / ad + 1) * bd) bn < 0) = true := by have := cmpZ_lt1 c1; rw [Int.mul_one] at this; exact this
      rw [smp_next c0 c1]
      clear c0 c1
      have BF := hide (floor_bd (unhide PA) (unhide KA).1)
      have B0 := hide (show Below w.heap.size w (((w.alloc (.cells #[.bool aq.num.g, .slice aq.num.a aq.num.n aq.num.c, .bool aq.den.g, .slice aq.den.a aq.den.n aq.den.c] 40)).alloc (.cells #[.bool bq.num.g, .slice bq.num.a bq.num.n bq.num.c, .bool bq.den.g, .slice bq.den.a bq.den.n bq.den.c] 40)).alloc (.cells #[.bool false, .slice none 0 0, .bool false, .slice none 0 0] 40)) from ((((Below.refl _ _).alloc (by simp) _).alloc (by simp) _).alloc (by simp <;> omega) _))
      go_enter Try.func104, Try.ntmps104
      go_wp2_with fail
      refine (cmpQI aq bq _ _ _ _ _ ((unhide QA).later (unhide B0)) ((unhide QB).later (unhide B0)) ((unhide KA).1.mono (by omega)) ((unhide KA).2.mono (by omega)) ((unhide KB).1.mono (by omega)) ((unhide KB).2.mono (by omega))).mono ?_
      rintro e w1 ⟨rfl, hb⟩
      have s1 : w.heap.size + 1 + 1 < w1.heap.size := by have := hb.size; simp at this; omega
      have k0_0 : w1.cell? ⟨w.heap.size, 0, none⟩ = some (.bool aq.num.g) := cell_later hb (by simp [go_sem])
      have k0_1 : w1.cell? ⟨w.heap.size, 1, none⟩ = some (.slice aq.num.a aq.num.n aq.num.c) := cell_later hb (by simp [go_sem])
      have k0_2 : w1.cell? ⟨w.heap.size, 2, none⟩ = some (.bool aq.den.g) := cell_later hb (by simp [go_sem])
      have k0_3 : w1.cell? ⟨w.heap.size, 3, none⟩ = some (.slice aq.den.a aq.den.n aq.den.c) := cell_later hb (by simp [go_sem])
      have k1_0 : w1.cell? ⟨w.heap.size + 1, 0, none⟩ = some (.bool bq.num.g) := cell_later hb (by simp [go_sem])
      have k1_1 : w1.cell? ⟨w.heap.size + 1, 1, none⟩ = some (.slice bq.num.a bq.num.n bq.num.c) := cell_later hb (by simp [go_sem])
      have k1_2 : w1.cell? ⟨w.heap.size + 1, 2, none⟩ = some (.bool bq.den.g) := cell_later hb (by simp [go_sem])
      have k1_3 : w1.cell? ⟨w.heap.size + 1, 3, none⟩ = some (.slice bq.den.a bq.den.n bq.den.c) := cell_later hb (by simp [go_sem])
      have k2_0 : w1.cell? ⟨w.heap.size + 1 + 1, 0, none⟩ = some (.bool false) := cell_later hb (by simp [go_sem])
      have k2_1 : w1.cell? ⟨w.heap.size + 1 + 1, 1, none⟩ = some (.slice none 0 0) := cell_later hb (by simp [go_sem])
      have k2_2 : w1.cell? ⟨w.heap.size + 1 + 1, 2, none⟩ = some (.bool false) := cell_later hb (by simp [go_sem])
      have k2_3 : w1.cell? ⟨w.heap.size + 1 + 1, 3, none⟩ = some (.slice none 0 0) := cell_later hb (by simp [go_sem])
      have z2 : ∀ o, w1.frozen? ⟨w.heap.size + 1 + 1, o, none⟩ = false := fun o => frozen_later hb (by simp) (by simp [go_sem])
      have HB := hide (below_on (unhide B0) hb)
      clear hb
      replace QA := hide ((unhide QA).later (unhide HB))
      replace QB := hide ((unhide QB).later (unhide HB))
      go_wp2_with fail
      refine (floorO aq _ _ _ (unhide QA) (unhide PA) ((unhide KA).1.mono (by omega)) ((unhide KA).2.mono (by omega))).mono ?_
      rintro e w2 ⟨xf, lf, rfl, hb, of, af, nf⟩
      have s2 := hb.size
      replace z2 := fun o => frozen_later hb (World.block_lt_of_cell? _ _ k2_0) (z2 o)
      replace k0_0 := cell_later hb k0_0
      replace k0_1 := cell_later hb k0_1
      replace k0_2 := cell_later hb k0_2
      replace k0_3 := cell_later hb k0_3
      replace k1_0 := cell_later hb k1_0
      replace k1_1 := cell_later hb k1_1
      replace k1_2 := cell_later hb k1_2
      replace k1_3 := cell_later hb k1_3
      replace k2_0 := cell_later hb k2_0
      replace k2_1 := cell_later hb k2_1
      replace k2_2 := cell_later hb k2_2
      replace k2_3 := cell_later hb k2_3
      replace QA := hide ((unhide QA).later hb)
      replace QB := hide ((unhide QB).later hb)
      have OF := hide (outN_ow of af nf)
      replace HB := hide (below_on (unhide HB) hb)
      clear hb
      clear of af nf
      go_upto_region 4 with fail
      have hb : Below w2.heap.size w2 (w2.alloc (.cells #[.bool xf.g, .slice xf.a xf.n xf.c] 26)) := ((Below.refl _ _).alloc (by simp) _)
      replace k0_0 : (w2.alloc (.cells #[.bool xf.g, .slice xf.a xf.n xf.c] 26)).cell? ⟨w.heap.size, 0, none⟩ = some (.bool aq.num.g) := (ca_other k0_0)
      replace k0_1 : (w2.alloc (.cells #[.bool xf.g, .slice xf.a xf.n xf.c] 26)).cell? ⟨w.heap.size, 1, none⟩ = some (.slice aq.num.a aq.num.n aq.num.c) := (ca_other k0_1)
      replace k0_2 : (w2.alloc (.cells #[.bool xf.g, .slice xf.a xf.n xf.c] 26)).cell? ⟨w.heap.size, 2, none⟩ = some (.bool aq.den.g) := (ca_other k0_2)
      replace k0_3 : (w2.alloc (.cells #[.bool xf.g, .slice xf.a xf.n xf.c] 26)).cell? ⟨w.heap.size, 3, none⟩ = some (.slice aq.den.a aq.den.n aq.den.c) := (ca_other k0_3)
      replace k1_0 : (w2.alloc (.cells #[.bool xf.g, .slice xf.a xf.n xf.c] 26)).cell? ⟨w.heap.size + 1, 0, none⟩ = some (.bool bq.num.g) := (ca_other k1_0)
      replace k1_1 : (w2.alloc (.cells #[.bool xf.g, .slice xf.a xf.n xf.c] 26)).cell? ⟨w.heap.size + 1, 1, none⟩ = some (.slice bq.num.a bq.num.n bq.num.c) := (ca_other k1_1)
      replace k1_2 : (w2.alloc (.cells #[.bool xf.g, .slice xf.a xf.n xf.c] 26)).cell? ⟨w.heap.size + 1, 2, none⟩ = some (.bool bq.den.g) := (ca_other k1_2)
      replace k1_3 : (w2.alloc (.cells #[.bool xf.g, .slice xf.a xf.n xf.c] 26)).cell? ⟨w.heap.size + 1, 3, none⟩ = some (.slice bq.den.a bq.den.n bq.den.c) := (ca_other k1_3)
      replace k2_0 : (w2.alloc (.cells #[.bool xf.g, .slice xf.a xf.n xf.c] 26)).cell? ⟨w.heap.size + 1 + 1, 0, none⟩ = some (.bool false) := (ca_other k2_0)
      replace k2_1 : (w2.alloc (.cells #[.bool xf.g, .slice xf.a xf.n xf.c] 26)).cell? ⟨w.heap.size + 1 + 1, 1, none⟩ = some (.slice none 0 0) := (ca_other k2_1)
      replace k2_2 : (w2.alloc (.cells #[.bool xf.g, .slice xf.a xf.n xf.c] 26)).cell? ⟨w.heap.size + 1 + 1, 2, none⟩ = some (.bool false) := (ca_other k2_2)
      replace k2_3 : (w2.alloc (.cells #[.bool xf.g, .slice xf.a xf.n xf.c] 26)).cell? ⟨w.heap.size + 1 + 1, 3, none⟩ = some (.slice none 0 0) := (ca_other k2_3)
      have k3_0 : (w2.alloc (.cells #[.bool xf.g, .slice xf.a xf.n xf.c] 26)).cell? ⟨w2.heap.size, 0, none⟩ = some (.bool xf.g) := by simp [go_sem]
      have k3_1 : (w2.alloc (.cells #[.bool xf.g, .slice xf.a xf.n xf.c] 26)).cell? ⟨w2.heap.size, 1, none⟩ = some (.slice xf.a xf.n xf.c) := by simp [go_sem]
      replace z2 : ∀ o, (w2.alloc (.cells #[.bool xf.g, .slice xf.a xf.n xf.c] 26)).frozen? ⟨w.heap.size + 1 + 1, o, none⟩ = false := fun o => frozen_later hb (by omega) (z2 o)
      replace QA := hide ((unhide QA).later hb)
      replace QB := hide ((unhide QB).later hb)
      replace OF := hide ((unhide OF).later hb)
      replace HB := hide (below_on (unhide HB) hb)
      have szw3 := hb.size
      clear hb
      generalize (w2.alloc (.cells #[.bool xf.g, .slice xf.a xf.n xf.c] 26)) = w3 at *
      have lt5 : w2.heap.size < w3.heap.size := World.block_lt_of_cell? _ _ k3_0
      go_upto_region 4 with fail
      go_cut [6] (fun p wx => ∃ (G : Nat) (x : QV), p = .pointer (some ⟨G, 0, none⟩) ∧ Hid (BxA w wx G x (an / ad) 1) ∧ Hid (Below w3.heap.size w3 wx) ∧ w3.heap.size ≤ G)
      case first =>
        go_region_held3 (fun w' => w'.cell? ⟨w2.heap.size, 0, none⟩ = some (.bool xf.g) ∧ w'.cell? ⟨w2.heap.size, 1, none⟩ = some (.slice xf.a xf.n xf.c)) (with_reducible (first | exact ⟨k3_0, k3_1⟩ | exact ⟨cd_other k3_0, cd_other k3_1⟩ | exact ⟨ca_other k3_0, ca_other k3_1⟩ | exact ⟨cd_other (ca_other k3_0), cd_other (ca_other k3_1)⟩ | exact ⟨cs_other (cs_other (cs_other (cs_other (k3_0) (by omega)) (by omega)) (by omega)) (by omega), cs_other (cs_other (cs_other (cs_other (k3_1) (by omega)) (by omega)) (by omega)) (by omega)⟩ | fail))
          (first
          | (go_at_call 165; refine (ofI_v 1 _ (by omega) (by omega)).mono ?_; rintro e wo1 ⟨y1, ly1, rfl, hb, oy, ay, ny⟩; have hbx : Below w3.heap.size w3 wo1 := (by first | exact below_of_drew hb | exact bad hb); have szwo1 := hbx.size; replace z2 := fun o => frozen_later hbx (World.block_lt_of_cell? _ _ k2_0) (z2 o); replace k0_0 := cell_later hbx k0_0; replace k0_1 := cell_later hbx k0_1; replace k0_2 := cell_later hbx k0_2; replace k0_3 := cell_later hbx k0_3; replace k1_0 := cell_later hbx k1_0; replace k1_1 := cell_later hbx k1_1; replace k1_2 := cell_later hbx k1_2; replace k1_3 := cell_later hbx k1_3; replace k2_0 := cell_later hbx k2_0; replace k2_1 := cell_later hbx k2_1; replace k2_2 := cell_later hbx k2_2; replace k2_3 := cell_later hbx k2_3; replace k3_0 := cell_later hbx k3_0; replace k3_1 := cell_later hbx k3_1; replace QA := hide ((unhide QA).later hbx); replace QB := hide ((unhide QB).later hbx); replace OF := hide ((unhide OF).later hbx); have Py1 := hide (outN_ow oy ay ny); (try (replace gf := fun o => frozen_later hbx (World.block_lt_of_cell? _ _ g0) (gf o); replace g0 := cell_later hbx g0; replace g1 := cell_later hbx g1; replace g2 := cell_later hbx g2; replace g3 := cell_later hbx g3)); (try (refine cutP (p := wo1.cell? ⟨w3.heap.size, 0, none⟩ = some (.bool false) ∧ wo1.cell? ⟨w3.heap.size, 1, none⟩ = some (.slice none 0 0) ∧ wo1.cell? ⟨w3.heap.size, 2, none⟩ = some (.bool false) ∧ wo1.cell? ⟨w3.heap.size, 3, none⟩ = some (.slice none 0 0) ∧ ∀ o, wo1.frozen? ⟨w3.heap.size, o, none⟩ = false) ?_ (fun dd => ?_); (focus (refine ⟨cell_later hb ?_, cell_later hb ?_, cell_later hb ?_, cell_later hb ?_, fun o => frozen_later hb ?_ ?_⟩ <;> (simp [go_sem]; done))); obtain ⟨g0, g1, g2, g3, gf⟩ := dd)); have zz := hb.size; (try simp at zz); have HBr := hide hbx; clear hbx hb oy ay ny))
        all_goals go_wp2_with fail
        all_goals go_meet
        all_goals first
          | (with_reducible refine ⟨_, ⟨xf, y1⟩, rfl, hide (bxA_alloc (x := ⟨xf, y1⟩) 40 (below_on (unhide HB) (unhide HBr)) (unhide OF) (unhide Py1) ?_ ?_ ?_ ?_ ?_), hide ((unhide HBr).alloc (unhide HBr).size _), (unhide HBr).size⟩ <;> first | omega | (simp; done) | (simp; omega))
          | (with_reducible refine ⟨_, ⟨xf, y1⟩, rfl, hide (bxA_set (x := ⟨xf, y1⟩) (below_on (unhide HB) (unhide HBr)) (unhide OF) (unhide Py1) ?_ ?_ ?_ ?_ ?_ ?_ ?_ ?_ g0 g1 g2 g3 gf), hide ((metQ_but (v := ⟨xf, y1⟩)).below (unhide HBr) ?_ (unhide HBr).size), ?_⟩ <;> first | omega | (simp; done) | (simp; omega))
      case rest =>
        obtain ⟨G, xG, rfl, HG, hb0, loG⟩ := hcut
        have hb := unhide hb0
        clear hb0
        have hiG := (unhide HG).hi
        have szG := hb.size
        replace z2 := fun o => frozen_later hb (World.block_lt_of_cell? _ _ k2_0) (z2 o)
        replace k0_0 := cell_later hb k0_0
        replace k0_1 := cell_later hb k0_1
        replace k0_2 := cell_later hb k0_2
        replace k0_3 := cell_later hb k0_3
        replace k1_0 := cell_later hb k1_0
        replace k1_1 := cell_later hb k1_1
        replace k1_2 := cell_later hb k1_2
        replace k1_3 := cell_later hb k1_3
        replace k2_0 := cell_later hb k2_0
        replace k2_1 := cell_later hb k2_1
        replace k2_2 := cell_later hb k2_2
        replace k2_3 := cell_later hb k2_3
        replace k3_0 := cell_later hb k3_0
        replace k3_1 := cell_later hb k3_1
        replace QA := hide ((unhide QA).later hb)
        replace QB := hide ((unhide QB).later hb)
        replace OF := hide ((unhide OF).later hb)
        have OG := hide ((unhide HG).ow)
        replace HB := hide (below_on (unhide HB) hb)
        clear hb
        have k4_0 := (unhide HG).c0
        have k4_1 := (unhide HG).c1
        have k4_2 := (unhide HG).c2
        have k4_3 := (unhide HG).c3
        clear HG
        obtain ⟨w4, hw4⟩ : ∃ x, x = wc := ⟨_, rfl⟩
        subst hw4
        go_upto_region 5 with fail
        go_cut [7] (fun p wx => ∃ (G : Nat) (x : QV), p = .pointer (some ⟨G, 0, none⟩) ∧ Hid (BxA w4 wx G x (an / ad + 1) 1) ∧ Hid (Below w4.heap.size w4 wx) ∧ w4.heap.size ≤ G)
        case first =>
          go_region_held3 (fun w' => w'.cell? ⟨w2.heap.size, 0, none⟩ = some (.bool xf.g) ∧ w'.cell? ⟨w2.heap.size, 1, none⟩ = some (.slice xf.a xf.n xf.c)) (with_reducible (first | exact ⟨k3_0, k3_1⟩ | exact ⟨cd_other k3_0, cd_other k3_1⟩ | exact ⟨ca_other k3_0, ca_other k3_1⟩ | exact ⟨cd_other (ca_other k3_0), cd_other (ca_other k3_1)⟩ | exact ⟨cs_other (cs_other (cs_other (cs_other (k3_0) (by omega)) (by omega)) (by omega)) (by omega), cs_other (cs_other (cs_other (cs_other (k3_1) (by omega)) (by omega)) (by omega)) (by omega)⟩ | fail))
            (first
            | (have chk := Px1; clear chk; go_at_call 165; refine (ofI_v 1 _ (by omega) (by omega)).mono ?_; rintro e wo3 ⟨y3, ly3, rfl, hb, oy, ay, ny⟩; have hbx : Below wa.heap.size wa wo3 := (by first | exact hb | exact ba hb); have szwo3 := hbx.size; replace z2 := fun o => frozen_later hbx (World.block_lt_of_cell? _ _ k2_0) (z2 o); replace k0_0 := cell_later hbx k0_0; replace k0_1 := cell_later hbx k0_1; replace k0_2 := cell_later hbx k0_2; replace k0_3 := cell_later hbx k0_3; replace k1_0 := cell_later hbx k1_0; replace k1_1 := cell_later hbx k1_1; replace k1_2 := cell_later hbx k1_2; replace k1_3 := cell_later hbx k1_3; replace k2_0 := cell_later hbx k2_0; replace k2_1 := cell_later hbx k2_1; replace k2_2 := cell_later hbx k2_2; replace k2_3 := cell_later hbx k2_3; replace k3_0 := cell_later hbx k3_0; replace k3_1 := cell_later hbx k3_1; replace k4_0 := cell_later hbx k4_0; replace k4_1 := cell_later hbx k4_1; replace k4_2 := cell_later hbx k4_2; replace k4_3 := cell_later hbx k4_3; replace QA := hide ((unhide QA).later hbx); replace QB := hide ((unhide QB).later hbx); replace OF := hide ((unhide OF).later hbx); replace OG := hide ((unhide OG).later hbx); replace Py2 := hide ((unhide Py2).later hbx); replace Px1 := hide ((unhide Px1).later hbx); have Py3 := hide (outN_ow oy ay ny); (try (replace gf := fun o => frozen_later hbx (World.block_lt_of_cell? _ _ g0) (gf o); replace g0 := cell_later hbx g0; replace g1 := cell_later hbx g1; replace g2 := cell_later hbx g2; replace g3 := cell_later hbx g3)); (try (refine cutP (p := wo3.cell? ⟨wa.heap.size, 0, none⟩ = some (.bool false) ∧ wo3.cell? ⟨wa.heap.size, 1, none⟩ = some (.slice none 0 0) ∧ wo3.cell? ⟨wa.heap.size, 2, none⟩ = some (.bool false) ∧ wo3.cell? ⟨wa.heap.size, 3, none⟩ = some (.slice none 0 0) ∧ ∀ o, wo3.frozen? ⟨wa.heap.size, o, none⟩ = false) ?_ (fun dd => ?_); (focus (refine ⟨cell_later hb ?_, cell_later hb ?_, cell_later hb ?_, cell_later hb ?_, fun o => frozen_later hb ?_ ?_⟩ <;> (simp [go_sem]; done))); obtain ⟨g0, g1, g2, g3, gf⟩ := dd)); have zz := hb.size; (try simp at zz); have HBr := hide (below_on (unhide HBr) hbx); clear hbx hb oy ay ny)
            | (go_at_call 167; refine (addI_v xf y2 _ _ _ ?_ ?_ ((unhide BF).mono (by omega)) (one_bd2 (by omega))).mono ?_; (first | exact (unhide OF).is.later (Below.refl _ _) | exact (unhide OF).is.later ((Below.refl _ _).alloc (Nat.le_refl _) _)); (first | exact (unhide Py2).is.later (Below.refl _ _) | exact (unhide Py2).is.later ((Below.refl _ _).alloc (Nat.le_refl _) _)); rintro e wa ⟨x1, l1, rfl, hb, o1, a1, n1⟩; have hbx : Below wo2.heap.size wo2 wa := (by first | exact hb | exact ba hb); have szwa := hbx.size; replace z2 := fun o => frozen_later hbx (World.block_lt_of_cell? _ _ k2_0) (z2 o); replace k0_0 := cell_later hbx k0_0; replace k0_1 := cell_later hbx k0_1; replace k0_2 := cell_later hbx k0_2; replace k0_3 := cell_later hbx k0_3; replace k1_0 := cell_later hbx k1_0; replace k1_1 := cell_later hbx k1_1; replace k1_2 := cell_later hbx k1_2; replace k1_3 := cell_later hbx k1_3; replace k2_0 := cell_later hbx k2_0; replace k2_1 := cell_later hbx k2_1; replace k2_2 := cell_later hbx k2_2; replace k2_3 := cell_later hbx k2_3; replace k3_0 := cell_later hbx k3_0; replace k3_1 := cell_later hbx k3_1; replace k4_0 := cell_later hbx k4_0; replace k4_1 := cell_later hbx k4_1; replace k4_2 := cell_later hbx k4_2; replace k4_3 := cell_later hbx k4_3; replace QA := hide ((unhide QA).later hbx); replace QB := hide ((unhide QB).later hbx); replace OF := hide ((unhide OF).later hbx); replace OG := hide ((unhide OG).later hbx); replace Py2 := hide ((unhide Py2).later hbx); have Px1 := hide (outN_ow o1 a1 n1); (try (replace gf := fun o => frozen_later hbx (World.block_lt_of_cell? _ _ g0) (gf o); replace g0 := cell_later hbx g0; replace g1 := cell_later hbx g1; replace g2 := cell_later hbx g2; replace g3 := cell_later hbx g3)); (try (refine cutP (p := wa.cell? ⟨wo2.heap.size, 0, none⟩ = some (.bool false) ∧ wa.cell? ⟨wo2.heap.size, 1, none⟩ = some (.slice none 0 0) ∧ wa.cell? ⟨wo2.heap.size, 2, none⟩ = some (.bool false) ∧ wa.cell? ⟨wo2.heap.size, 3, none⟩ = some (.slice none 0 0) ∧ ∀ o, wa.frozen? ⟨wo2.heap.size, o, none⟩ = false) ?_ (fun dd => ?_); (focus (refine ⟨cell_later hb ?_, cell_later hb ?_, cell_later hb ?_, cell_later hb ?_, fun o => frozen_later hb ?_ ?_⟩ <;> (simp [go_sem]; done))); obtain ⟨g0, g1, g2, g3, gf⟩ := dd)); have zz := hb.size; (try simp at zz); have HBr := hide (below_on (unhide HBr) hbx); clear hbx hb o1 a1 n1)
            | (go_at_call 165; refine (ofI_v 1 _ (by omega) (by omega)).mono ?_; rintro e wo2 ⟨y2, ly2, rfl, hb, oy, ay, ny⟩; have hbx : Below w4.heap.size w4 wo2 := (by first | exact below_of_drew hb | exact bad hb); have szwo2 := hbx.size; replace z2 := fun o => frozen_later hbx (World.block_lt_of_cell? _ _ k2_0) (z2 o); replace k0_0 := cell_later hbx k0_0; replace k0_1 := cell_later hbx k0_1; replace k0_2 := cell_later hbx k0_2; replace k0_3 := cell_later hbx k0_3; replace k1_0 := cell_later hbx k1_0; replace k1_1 := cell_later hbx k1_1; replace k1_2 := cell_later hbx k1_2; replace k1_3 := cell_later hbx k1_3; replace k2_0 := cell_later hbx k2_0; replace k2_1 := cell_later hbx k2_1; replace k2_2 := cell_later hbx k2_2; replace k2_3 := cell_later hbx k2_3; replace k3_0 := cell_later hbx k3_0; replace k3_1 := cell_later hbx k3_1; replace k4_0 := cell_later hbx k4_0; replace k4_1 := cell_later hbx k4_1; replace k4_2 := cell_later hbx k4_2; replace k4_3 := cell_later hbx k4_3; replace QA := hide ((unhide QA).later hbx); replace QB := hide ((unhide QB).later hbx); replace OF := hide ((unhide OF).later hbx); replace OG := hide ((unhide OG).later hbx); have Py2 := hide (outN_ow oy ay ny); (try (replace gf := fun o => frozen_later hbx (World.block_lt_of_cell? _ _ g0) (gf o); replace g0 := cell_later hbx g0; replace g1 := cell_later hbx g1; replace g2 := cell_later hbx g2; replace g3 := cell_later hbx g3)); (try (refine cutP (p := wo2.cell? ⟨w4.heap.size, 0, none⟩ = some (.bool false) ∧ wo2.cell? ⟨w4.heap.size, 1, none⟩ = some (.slice none 0 0) ∧ wo2.cell? ⟨w4.heap.size, 2, none⟩ = some (.bool false) ∧ wo2.cell? ⟨w4.heap.size, 3, none⟩ = some (.slice none 0 0) ∧ ∀ o, wo2.frozen? ⟨w4.heap.size, o, none⟩ = false) ?_ (fun dd => ?_); (focus (refine ⟨cell_later hb ?_, cell_later hb ?_, cell_later hb ?_, cell_later hb ?_, fun o => frozen_later hb ?_ ?_⟩ <;> (simp [go_sem]; done))); obtain ⟨g0, g1, g2, g3, gf⟩ := dd)); have zz := hb.size; (try simp at zz); have HBr := hide hbx; clear hbx hb oy ay ny))
          all_goals go_wp2_with fail
          all_goals go_meet
          all_goals first
            | (with_reducible refine ⟨_, ⟨x1, y3⟩, rfl, hide (bxA_alloc (x := ⟨x1, y3⟩) 40 (unhide HBr) (unhide Px1) (unhide Py3) ?_ ?_ ?_ ?_ ?_), hide ((unhide HBr).alloc (unhide HBr).size _), (unhide HBr).size⟩ <;> first | omega | (simp; done) | (simp; omega))
            | (with_reducible refine ⟨_, ⟨x1, y3⟩, rfl, hide (bxA_set (x := ⟨x1, y3⟩) (unhide HBr) (unhide Px1) (unhide Py3) ?_ ?_ ?_ ?_ ?_ ?_ ?_ ?_ g0 g1 g2 g3 gf), hide ((metQ_but (v := ⟨x1, y3⟩)).below (unhide HBr) ?_ (unhide HBr).size), ?_⟩ <;> first | omega | (simp; done) | (simp; omega))
        case rest =>
          obtain ⟨J, xJ, rfl, HJ, hb0, loJ⟩ := hcut
          have hb := unhide hb0
          clear hb0
          have hiJ := (unhide HJ).hi
          have szJ := hb.size
          replace z2 := fun o => frozen_later hb (World.block_lt_of_cell? _ _ k2_0) (z2 o)
          replace k1_0 := cell_later hb k1_0
          replace k1_1 := cell_later hb k1_1
          replace k1_2 := cell_later hb k1_2
          replace k1_3 := cell_later hb k1_3
          replace k2_0 := cell_later hb k2_0
          replace k2_1 := cell_later hb k2_1
          replace k2_2 := cell_later hb k2_2
          replace k2_3 := cell_later hb k2_3
          clear k0_0 k0_1 k0_2 k0_3 k3_0 k3_1 k4_0 k4_1 k4_2 k4_3
          replace QA := hide ((unhide QA).later hb)
          replace QB := hide ((unhide QB).later hb)
          replace OF := hide ((unhide OF).later hb)
          replace OG := hide ((unhide OG).later hb)
          have OJ := hide ((unhide HJ).ow)
          replace HB := hide (below_on (unhide HB) hb)
          clear hb
          have k5_0 := (unhide HJ).c0
          have k5_1 := (unhide HJ).c1
          have k5_2 := (unhide HJ).c2
          have k5_3 := (unhide HJ).c3
          clear HJ
          obtain ⟨wd, hwd⟩ : ∃ x, x = wc := ⟨_, rfl⟩
          subst hwd
          go_wp2_with fail
          refine (cmpQI xJ bq _ _ _ _ _ (unhide OJ).is (unhide QB) (((unhide BF).add (one_bd2 (by omega))).mono (by omega)) (one_bd2 (by omega)) ((unhide KB).1.mono (by omega)) ((unhide KB).2.mono (by omega))).mono ?_
          rintro e w5 ⟨rfl, hb⟩
          have s5 := hb.size
          replace z2 := fun o => frozen_later hb (World.block_lt_of_cell? _ _ k2_0) (z2 o)
          replace k5_0 := cell_later hb k5_0
          replace k5_1 := cell_later hb k5_1
          replace k5_2 := cell_later hb k5_2
          replace k5_3 := cell_later hb k5_3
          replace k2_0 := cell_later hb k2_0
          replace k2_1 := cell_later hb k2_1
          replace k2_2 := cell_later hb k2_2
          replace k2_3 := cell_later hb k2_3
          clear k1_0 k1_1 k1_2 k1_3
          replace QA := hide ((unhide QA).later hb)
          replace QB := hide ((unhide QB).later hb)
          replace OF := hide ((unhide OF).later hb)
          replace OG := hide ((unhide OG).later hb)
          replace OJ := hide ((unhide OJ).later hb)
          replace HB := hide (below_on (unhide HB) hb)
          clear hb
          go_wp2
          refine bodyPost_ret (v := .agg #[.bool xJ.num.g, .slice xJ.num.a xJ.num.n xJ.num.c, .bool xJ.den.g, .slice xJ.den.a xJ.den.n xJ.den.c]) (by simp [results, Try.results104, go_sem, k2_0, k2_1, k2_2, k2_3]) rfl ?_
          obtain ⟨xs, us, k1, k2, k3, k4⟩ := unhide OJ
          exact outQ_fin (q := xJ) (R := w.heap.size + 1 + 1) (by omega) (unhide HB) (metQ_but (w5 := w5) (v := xJ) (G := w.heap.size + 1 + 1)) (k1.wide (by omega) (by omega)) k2 k3 k4
    · have t1 : decide (0 ≤ cmpZ (an * bd) (bn * ad)) = false := cmpZ_ge0 c0
      have t2 : decide (cmpZ ((an / ad + 1) * bd) bn < 0) = false := by have := cmpZ_lt0 c1; rw [Int.mul_one] at this; exact this
      rw [smp_mid c0 c1]
      clear c0 c1
      have BF := hide (floor_bd (unhide PA) (unhide KA).1)
      have B0 := hide (show Below w.heap.size w (((w.alloc (.cells #[.bool aq.num.g, .slice aq.num.a aq.num.n aq.num.c, .bool aq.den.g, .slice aq.den.a aq.den.n aq.den.c] 40)).alloc (.cells #[.bool bq.num.g, .slice bq.num.a bq.num.n bq.num.c, .bool bq.den.g, .slice bq.den.a bq.den.n bq.den.c] 40)).alloc (.cells #[.bool false, .slice none 0 0, .bool false, .slice none 0 0] 40)) from ((((Below.refl _ _).alloc (by simp) _).alloc (by simp) _).alloc (by simp <;> omega) _))
      go_enter Try.func104, Try.ntmps104
      go_wp2_with fail
      refine (cmpQI aq bq _ _ _ _ _ ((unhide QA).later (unhide B0)) ((unhide QB).later (unhide B0)) ((unhide KA).1.mono (by omega)) ((unhide KA).2.mono (by omega)) ((unhide KB).1.mono (by omega)) ((unhide KB).2.mono (by omega))).mono ?_
      rintro e w1 ⟨rfl, hb⟩
      have s1 : w.heap.size + 1 + 1 < w1.heap.size := by have := hb.size; simp at this; omega
      have k0_0 : w1.cell? ⟨w.heap.size, 0, none⟩ = some (.bool aq.num.g) := cell_later hb (by simp [go_sem])
      have k0_1 : w1.cell? ⟨w.heap.size, 1, none⟩ = some (.slice aq.num.a aq.num.n aq.num.c) := cell_later hb (by simp [go_sem])
      have k0_2 : w1.cell? ⟨w.heap.size, 2, none⟩ = some (.bool aq.den.g) := cell_later hb (by simp [go_sem])
      have k0_3 : w1.cell? ⟨w.heap.size, 3, none⟩ = some (.slice aq.den.a aq.den.n aq.den.c) := cell_later hb (by simp [go_sem])
      have k1_0 : w1.cell? ⟨w.heap.size + 1, 0, none⟩ = some (.bool bq.num.g) := cell_later hb (by simp [go_sem])
      have k1_1 : w1.cell? ⟨w.heap.size + 1, 1, none⟩ = some (.slice bq.num.a bq.num.n bq.num.c) := cell_later hb (by simp [go_sem])
      have k1_2 : w1.cell? ⟨w.heap.size + 1, 2, none⟩ = some (.bool bq.den.g) := cell_later hb (by simp [go_sem])
      have k1_3 : w1.cell? ⟨w.heap.size + 1, 3, none⟩ = some (.slice bq.den.a bq.den.n bq.den.c) := cell_later hb (by simp [go_sem])
      have k2_0 : w1.cell? ⟨w.heap.size + 1 + 1, 0, none⟩ = some (.bool false) := cell_later hb (by simp [go_sem])
      have k2_1 : w1.cell? ⟨w.heap.size + 1 + 1, 1, none⟩ = some (.slice none 0 0) := cell_later hb (by simp [go_sem])
      have k2_2 : w1.cell? ⟨w.heap.size + 1 + 1, 2, none⟩ = some (.bool false) := cell_later hb (by simp [go_sem])
      have k2_3 : w1.cell? ⟨w.heap.size + 1 + 1, 3, none⟩ = some (.slice none 0 0) := cell_later hb (by simp [go_sem])
      have z2 : ∀ o, w1.frozen? ⟨w.heap.size + 1 + 1, o, none⟩ = false := fun o => frozen_later hb (by simp) (by simp [go_sem])
      have HB := hide (below_on (unhide B0) hb)
      clear hb
      replace QA := hide ((unhide QA).later (unhide HB))
      replace QB := hide ((unhide QB).later (unhide HB))
      go_wp2_with fail
      refine (floorO aq _ _ _ (unhide QA) (unhide PA) ((unhide KA).1.mono (by omega)) ((unhide KA).2.mono (by omega))).mono ?_
      rintro e w2 ⟨xf, lf, rfl, hb, of, af, nf⟩
      have s2 := hb.size
      replace z2 := fun o => frozen_later hb (World.block_lt_of_cell? _ _ k2_0) (z2 o)
      replace k0_0 := cell_later hb k0_0
      replace k0_1 := cell_later hb k0_1
      replace k0_2 := cell_later hb k0_2
      replace k0_3 := cell_later hb k0_3
      replace k1_0 := cell_later hb k1_0
      replace k1_1 := cell_later hb k1_1
      replace k1_2 := cell_later hb k1_2
      replace k1_3 := cell_later hb k1_3
      replace k2_0 := cell_later hb k2_0
      replace k2_1 := cell_later hb k2_1
      replace k2_2 := cell_later hb k2_2
      replace k2_3 := cell_later hb k2_3
      replace QA := hide ((unhide QA).later hb)
      replace QB := hide ((unhide QB).later hb)
      have OF := hide (outN_ow of af nf)
      replace HB := hide (below_on (unhide HB) hb)
      clear hb
      clear of af nf
      go_upto_region 4 with fail
      have hb : Below w2.heap.size w2 (w2.alloc (.cells #[.bool xf.g, .slice xf.a xf.n xf.c] 26)) := ((Below.refl _ _).alloc (by simp) _)
      replace k0_0 : (w2.alloc (.cells #[.bool xf.g, .slice xf.a xf.n xf.c] 26)).cell? ⟨w.heap.size, 0, none⟩ = some (.bool aq.num.g) := (ca_other k0_0)
      replace k0_1 : (w2.alloc (.cells #[.bool xf.g, .slice xf.a xf.n xf.c] 26)).cell? ⟨w.heap.size, 1, none⟩ = some (.slice aq.num.a aq.num.n aq.num.c) := (ca_other k0_1)
      replace k0_2 : (w2.alloc (.cells #[.bool xf.g, .slice xf.a xf.n xf.c] 26)).cell? ⟨w.heap.size, 2, none⟩ = some (.bool aq.den.g) := (ca_other k0_2)
      replace k0_3 : (w2.alloc (.cells #[.bool xf.g, .slice xf.a xf.n xf.c] 26)).cell? ⟨w.heap.size, 3, none⟩ = some (.slice aq.den.a aq.den.n aq.den.c) := (ca_other k0_3)
      replace k1_0 : (w2.alloc (.cells #[.bool xf.g, .slice xf.a xf.n xf.c] 26)).cell? ⟨w.heap.size + 1, 0, none⟩ = some (.bool bq.num.g) := (ca_other k1_0)
      replace k1_1 : (w2.alloc (.cells #[.bool xf.g, .slice xf.a xf.n xf.c] 26)).cell? ⟨w.heap.size + 1, 1, none⟩ = some (.slice bq.num.a bq.num.n bq.num.c) := (ca_other k1_1)
      replace k1_2 : (w2.alloc (.cells #[.bool xf.g, .slice xf.a xf.n xf.c] 26)).cell? ⟨w.heap.size + 1, 2, none⟩ = some (.bool bq.den.g) := (ca_other k1_2)
      replace k1_3 : (w2.alloc (.cells #[.bool xf.g, .slice xf.a xf.n xf.c] 26)).cell? ⟨w.heap.size + 1, 3, none⟩ = some (.slice bq.den.a bq.den.n bq.den.c) := (ca_other k1_3)
      replace k2_0 : (w2.alloc (.cells #[.bool xf.g, .slice xf.a xf.n xf.c] 26)).cell? ⟨w.heap.size + 1 + 1, 0, none⟩ = some (.bool false) := (ca_other k2_0)
      replace k2_1 : (w2.alloc (.cells #[.bool xf.g, .slice xf.a xf.n xf.c] 26)).cell? ⟨w.heap.size + 1 + 1, 1, none⟩ = some (.slice none 0 0) := (ca_other k2_1)
      replace k2_2 : (w2.alloc (.cells #[.bool xf.g, .slice xf.a xf.n xf.c] 26)).cell? ⟨w.heap.size + 1 + 1, 2, none⟩ = some (.bool false) := (ca_other k2_2)
      replace k2_3 : (w2.alloc (.cells #[.bool xf.g, .slice xf.a xf.n xf.c] 26)).cell? ⟨w.heap.size + 1 + 1, 3, none⟩ = some (.slice none 0 0) := (ca_other k2_3)
      have k3_0 : (w2.alloc (.cells #[.bool xf.g, .slice xf.a xf.n xf.c] 26)).cell? ⟨w2.heap.size, 0, none⟩ = some (.bool xf.g) := by simp [go_sem]
      have k3_1 : (w2.alloc (.cells #[.bool xf.g, .slice xf.a xf.n xf.c] 26)).cell? ⟨w2.heap.size, 1, none⟩ = some (.slice xf.a xf.n xf.c) := by simp [go_sem]
      replace z2 : ∀ o, (w2.alloc (.cells #[.bool xf.g, .slice xf.a xf.n xf.c] 26)).frozen? ⟨w.heap.size + 1 + 1, o, none⟩ = false := fun o => frozen_later hb (by omega) (z2 o)
      replace QA := hide ((unhide QA).later hb)
      replace QB := hide ((unhide QB).later hb)
      replace OF := hide ((unhide OF).later hb)
      replace HB := hide (below_on (unhide HB) hb)
      have szw3 := hb.size
      clear hb
      generalize (w2.alloc (.cells #[.bool xf.g, .slice xf.a xf.n xf.c] 26)) = w3 at *
      have lt5 : w2.heap.size < w3.heap.size := World.block_lt_of_cell? _ _ k3_0
      go_upto_region 4 with fail
      go_cut [6] (fun p wx => ∃ (G : Nat) (x : QV), p = .pointer (some ⟨G, 0, none⟩) ∧ Hid (BxA w wx G x (an / ad) 1) ∧ Hid (Below w3.heap.size w3 wx) ∧ w3.heap.size ≤ G)
      case first =>
        go_region_held3 (fun w' => w'.cell? ⟨w2.heap.size, 0, none⟩ = some (.bool xf.g) ∧ w'.cell? ⟨w2.heap.size, 1, none⟩ = some (.slice xf.a xf.n xf.c)) (with_reducible (first | exact ⟨k3_0, k3_1⟩ | exact ⟨cd_other k3_0, cd_other k3_1⟩ | exact ⟨ca_other k3_0, ca_other k3_1⟩ | exact ⟨cd_other (ca_other k3_0), cd_other (ca_other k3_1)⟩ | exact ⟨cs_other (cs_other (cs_other (cs_other (k3_0) (by omega)) (by omega)) (by omega)) (by omega), cs_other (cs_other (cs_other (cs_other (k3_1) (by omega)) (by omega)) (by omega)) (by omega)⟩ | fail))
          (first
          | (go_at_call 165; refine (ofI_v 1 _ (by omega) (by omega)).mono ?_; rintro e wo1 ⟨y1, ly1, rfl, hb, oy, ay, ny⟩; have hbx : Below w3.heap.size w3 wo1 := (by first | exact below_of_drew hb | exact bad hb); have szwo1 := hbx.size; replace z2 := fun o => frozen_later hbx (World.block_lt_of_cell? _ _ k2_0) (z2 o); replace k0_0 := cell_later hbx k0_0; replace k0_1 := cell_later hbx k0_1; replace k0_2 := cell_later hbx k0_2; replace k0_3 := cell_later hbx k0_3; replace k1_0 := cell_later hbx k1_0; replace k1_1 := cell_later hbx k1_1; replace k1_2 := cell_later hbx k1_2; replace k1_3 := cell_later hbx k1_3; replace k2_0 := cell_later hbx k2_0; replace k2_1 := cell_later hbx k2_1; replace k2_2 := cell_later hbx k2_2; replace k2_3 := cell_later hbx k2_3; replace k3_0 := cell_later hbx k3_0; replace k3_1 := cell_later hbx k3_1; replace QA := hide ((unhide QA).later hbx); replace QB := hide ((unhide QB).later hbx); replace OF := hide ((unhide OF).later hbx); have Py1 := hide (outN_ow oy ay ny); (try (replace gf := fun o => frozen_later hbx (World.block_lt_of_cell? _ _ g0) (gf o); replace g0 := cell_later hbx g0; replace g1 := cell_later hbx g1; replace g2 := cell_later hbx g2; replace g3 := cell_later hbx g3)); (try (refine cutP (p := wo1.cell? ⟨w3.heap.size, 0, none⟩ = some (.bool false) ∧ wo1.cell? ⟨w3.heap.size, 1, none⟩ = some (.slice none 0 0) ∧ wo1.cell? ⟨w3.heap.size, 2, none⟩ = some (.bool false) ∧ wo1.cell? ⟨w3.heap.size, 3, none⟩ = some (.slice none 0 0) ∧ ∀ o, wo1.frozen? ⟨w3.heap.size, o, none⟩ = false) ?_ (fun dd => ?_); (focus (refine ⟨cell_later hb ?_, cell_later hb ?_, cell_later hb ?_, cell_later hb ?_, fun o => frozen_later hb ?_ ?_⟩ <;> (simp [go_sem]; done))); obtain ⟨g0, g1, g2, g3, gf⟩ := dd)); have zz := hb.size; (try simp at zz); have HBr := hide hbx; clear hbx hb oy ay ny))
        all_goals go_wp2_with fail
        all_goals go_meet
        all_goals first
          | (with_reducible refine ⟨_, ⟨xf, y1⟩, rfl, hide (bxA_alloc (x := ⟨xf, y1⟩) 40 (below_on (unhide HB) (unhide HBr)) (unhide OF) (unhide Py1) ?_ ?_ ?_ ?_ ?_), hide ((unhide HBr).alloc (unhide HBr).size _), (unhide HBr).size⟩ <;> first | omega | (simp; done) | (simp; omega))
          | (with_reducible refine ⟨_, ⟨xf, y1⟩, rfl, hide (bxA_set (x := ⟨xf, y1⟩) (below_on (unhide HB) (unhide HBr)) (unhide OF) (unhide Py1) ?_ ?_ ?_ ?_ ?_ ?_ ?_ ?_ g0 g1 g2 g3 gf), hide ((metQ_but (v := ⟨xf, y1⟩)).below (unhide HBr) ?_ (unhide HBr).size), ?_⟩ <;> first | omega | (simp; done) | (simp; omega))
      case rest =>
        obtain ⟨G, xG, rfl, HG, hb0, loG⟩ := hcut
        have hb := unhide hb0
        clear hb0
        have hiG := (unhide HG).hi
        have szG := hb.size
        replace z2 := fun o => frozen_later hb (World.block_lt_of_cell? _ _ k2_0) (z2 o)
        replace k0_0 := cell_later hb k0_0
        replace k0_1 := cell_later hb k0_1
        replace k0_2 := cell_later hb k0_2
        replace k0_3 := cell_later hb k0_3
        replace k1_0 := cell_later hb k1_0
        replace k1_1 := cell_later hb k1_1
        replace k1_2 := cell_later hb k1_2
        replace k1_3 := cell_later hb k1_3
        replace k2_0 := cell_later hb k2_0
        replace k2_1 := cell_later hb k2_1
        replace k2_2 := cell_later hb k2_2
        replace k2_3 := cell_later hb k2_3
        replace k3_0 := cell_later hb k3_0
        replace k3_1 := cell_later hb k3_1
        replace QA := hide ((unhide QA).later hb)
        replace QB := hide ((unhide QB).later hb)
        replace OF := hide ((unhide OF).later hb)
        have OG := hide ((unhide HG).ow)
        replace HB := hide (below_on (unhide HB) hb)
        clear hb
        have k4_0 := (unhide HG).c0
        have k4_1 := (unhide HG).c1
        have k4_2 := (unhide HG).c2
        have k4_3 := (unhide HG).c3
        clear HG
        obtain ⟨w4, hw4⟩ : ∃ x, x = wc := ⟨_, rfl⟩
        subst hw4
        go_upto_region 5 with fail
        go_cut [7] (fun p wx => ∃ (G : Nat) (x : QV), p = .pointer (some ⟨G, 0, none⟩) ∧ Hid (BxA w4 wx G x (an / ad + 1) 1) ∧ Hid (Below w4.heap.size w4 wx) ∧ w4.heap.size ≤ G)
        case first =>
          go_region_held3 (fun w' => w'.cell? ⟨w2.heap.size, 0, none⟩ = some (.bool xf.g) ∧ w'.cell? ⟨w2.heap.size, 1, none⟩ = some (.slice xf.a xf.n xf.c)) (with_reducible (first | exact ⟨k3_0, k3_1⟩ | exact ⟨cd_other k3_0, cd_other k3_1⟩ | exact ⟨ca_other k3_0, ca_other k3_1⟩ | exact ⟨cd_other (ca_other k3_0), cd_other (ca_other k3_1)⟩ | exact ⟨cs_other (cs_other (cs_other (cs_other (k3_0) (by omega)) (by omega)) (by omega)) (by omega), cs_other (cs_other (cs_other (cs_other (k3_1) (by omega)) (by omega)) (by omega)) (by omega)⟩ | fail))
            (first
            | (have chk := Px1; clear chk; go_at_call 165; refine (ofI_v 1 _ (by omega) (by omega)).mono ?_; rintro e wo3 ⟨y3, ly3, rfl, hb, oy, ay, ny⟩; have hbx : Below wa.heap.size wa wo3 := (by first | exact hb | exact ba hb); have szwo3 := hbx.size; replace z2 := fun o => frozen_later hbx (World.block_lt_of_cell? _ _ k2_0) (z2 o); replace k0_0 := cell_later hbx k0_0; replace k0_1 := cell_later hbx k0_1; replace k0_2 := cell_later hbx k0_2; replace k0_3 := cell_later hbx k0_3; replace k1_0 := cell_later hbx k1_0; replace k1_1 := cell_later hbx k1_1; replace k1_2 := cell_later hbx k1_2; replace k1_3 := cell_later hbx k1_3; replace k2_0 := cell_later hbx k2_0; replace k2_1 := cell_later hbx k2_1; replace k2_2 := cell_later hbx k2_2; replace k2_3 := cell_later hbx k2_3; replace k3_0 := cell_later hbx k3_0; replace k3_1 := cell_later hbx k3_1; replace k4_0 := cell_later hbx k4_0; replace k4_1 := cell_later hbx k4_1; replace k4_2 := cell_later hbx k4_2; replace k4_3 := cell_later hbx k4_3; replace QA := hide ((unhide QA).later hbx); replace QB := hide ((unhide QB).later hbx); replace OF := hide ((unhide OF).later hbx); replace OG := hide ((unhide OG).later hbx); replace Py2 := hide ((unhide Py2).later hbx); replace Px1 := hide ((unhide Px1).later hbx); have Py3 := hide (outN_ow oy ay ny); (try (replace gf := fun o => frozen_later hbx (World.block_lt_of_cell? _ _ g0) (gf o); replace g0 := cell_later hbx g0; replace g1 := cell_later hbx g1; replace g2 := cell_later hbx g2; replace g3 := cell_later hbx g3)); (try (refine cutP (p := wo3.cell? ⟨wa.heap.size, 0, none⟩ = some (.bool false) ∧ wo3.cell? ⟨wa.heap.size, 1, none⟩ = some (.slice none 0 0) ∧ wo3.cell? ⟨wa.heap.size, 2, none⟩ = some (.bool false) ∧ wo3.cell? ⟨wa.heap.size, 3, none⟩ = some (.slice none 0 0) ∧ ∀ o, wo3.frozen? ⟨wa.heap.size, o, none⟩ = false) ?_ (fun dd => ?_); (focus (refine ⟨cell_later hb ?_, cell_later hb ?_, cell_later hb ?_, cell_later hb ?_, fun o => frozen_later hb ?_ ?_⟩ <;> (simp [go_sem]; done))); obtain ⟨g0, g1, g2, g3, gf⟩ := dd)); have zz := hb.size; (try simp at zz); have HBr := hide (below_on (unhide HBr) hbx); clear hbx hb oy ay ny)
            | (go_at_call 167; refine (addI_v xf y2 _ _ _ ?_ ?_ ((unhide BF).mono (by omega)) (one_bd2 (by omega))).mono ?_; (first | exact (unhide OF).is.later (Below.refl _ _) | exact (unhide OF).is.later ((Below.refl _ _).alloc (Nat.le_refl _) _)); (first | exact (unhide Py2).is.later (Below.refl _ _) | exact (unhide Py2).is.later ((Below.refl _ _).alloc (Nat.le_refl _) _)); rintro e wa ⟨x1, l1, rfl, hb, o1, a1, n1⟩; have hbx : Below wo2.heap.size wo2 wa := (by first | exact hb | exact ba hb); have szwa := hbx.size; replace z2 := fun o => frozen_later hbx (World.block_lt_of_cell? _ _ k2_0) (z2 o); replace k0_0 := cell_later hbx k0_0; replace k0_1 := cell_later hbx k0_1; replace k0_2 := cell_later hbx k0_2; replace k0_3 := cell_later hbx k0_3; replace k1_0 := cell_later hbx k1_0; replace k1_1 := cell_later hbx k1_1; replace k1_2 := cell_later hbx k1_2; replace k1_3 := cell_later hbx k1_3; replace k2_0 := cell_later hbx k2_0; replace k2_1 := cell_later hbx k2_1; replace k2_2 := cell_later hbx k2_2; replace k2_3 := cell_later hbx k2_3; replace k3_0 := cell_later hbx k3_0; replace k3_1 := cell_later hbx k3_1; replace k4_0 := cell_later hbx k4_0; replace k4_1 := cell_later hbx k4_1; replace k4_2 := cell_later hbx k4_2; replace k4_3 := cell_later hbx k4_3; replace QA := hide ((unhide QA).later hbx); replace QB := hide ((unhide QB).later hbx); replace OF := hide ((unhide OF).later hbx); replace OG := hide ((unhide OG).later hbx); replace Py2 := hide ((unhide Py2).later hbx); have Px1 := hide (outN_ow o1 a1 n1); (try (replace gf := fun o => frozen_later hbx (World.block_lt_of_cell? _ _ g0) (gf o); replace g0 := cell_later hbx g0; replace g1 := cell_later hbx g1; replace g2 := cell_later hbx g2; replace g3 := cell_later hbx g3)); (try (refine cutP (p := wa.cell? ⟨wo2.heap.size, 0, none⟩ = some (.bool false) ∧ wa.cell? ⟨wo2.heap.size, 1, none⟩ = some (.slice none 0 0) ∧ wa.cell? ⟨wo2.heap.size, 2, none⟩ = some (.bool false) ∧ wa.cell? ⟨wo2.heap.size, 3, none⟩ = some (.slice none 0 0) ∧ ∀ o, wa.frozen? ⟨wo2.heap.size, o, none⟩ = false) ?_ (fun dd => ?_); (focus (refine ⟨cell_later hb ?_, cell_later hb ?_, cell_later hb ?_, cell_later hb ?_, fun o => frozen_later hb ?_ ?_⟩ <;> (simp [go_sem]; done))); obtain ⟨g0, g1, g2, g3, gf⟩ := dd)); have zz := hb.size; (try simp at zz); have HBr := hide (below_on (unhide HBr) hbx); clear hbx hb o1 a1 n1)
            | (go_at_call 165; refine (ofI_v 1 _ (by omega) (by omega)).mono ?_; rintro e wo2 ⟨y2, ly2, rfl, hb, oy, ay, ny⟩; have hbx : Below w4.heap.size w4 wo2 := (by first | exact below_of_drew hb | exact bad hb); have szwo2 := hbx.size; replace z2 := fun o => frozen_later hbx (World.block_lt_of_cell? _ _ k2_0) (z2 o); replace k0_0 := cell_later hbx k0_0; replace k0_1 := cell_later hbx k0_1; replace k0_2 := cell_later hbx k0_2; replace k0_3 := cell_later hbx k0_3; replace k1_0 := cell_later hbx k1_0; replace k1_1 := cell_later hbx k1_1; replace k1_2 := cell_later hbx k1_2; replace k1_3 := cell_later hbx k1_3; replace k2_0 := cell_later hbx k2_0; replace k2_1 := cell_later hbx k2_1; replace k2_2 := cell_later hbx k2_2; replace k2_3 := cell_later hbx k2_3; replace k3_0 := cell_later hbx k3_0; replace k3_1 := cell_later hbx k3_1; replace k4_0 := cell_later hbx k4_0; replace k4_1 := cell_later hbx k4_1; replace k4_2 := cell_later hbx k4_2; replace k4_3 := cell_later hbx k4_3; replace QA := hide ((unhide QA).later hbx); replace QB := hide ((unhide QB).later hbx); replace OF := hide ((unhide OF).later hbx); replace OG := hide ((unhide OG).later hbx); have Py2 := hide (outN_ow oy ay ny); (try (replace gf := fun o => frozen_later hbx (World.block_lt_of_cell? _ _ g0) (gf o); replace g0 := cell_later hbx g0; replace g1 := cell_later hbx g1; replace g2 := cell_later hbx g2; replace g3 := cell_later hbx g3)); (try (refine cutP (p := wo2.cell? ⟨w4.heap.size, 0, none⟩ = some (.bool false) ∧ wo2.cell? ⟨w4.heap.size, 1, none⟩ = some (.slice none 0 0) ∧ wo2.cell? ⟨w4.heap.size, 2, none⟩ = some (.bool false) ∧ wo2.cell? ⟨w4.heap.size, 3, none⟩ = some (.slice none 0 0) ∧ ∀ o, wo2.frozen? ⟨w4.heap.size, o, none⟩ = false) ?_ (fun dd => ?_); (focus (refine ⟨cell_later hb ?_, cell_later hb ?_, cell_later hb ?_, cell_later hb ?_, fun o => frozen_later hb ?_ ?_⟩ <;> (simp [go_sem]; done))); obtain ⟨g0, g1, g2, g3, gf⟩ := dd)); have zz := hb.size; (try simp at zz); have HBr := hide hbx; clear hbx hb oy ay ny))
          all_goals go_wp2_with fail
          all_goals go_meet
          all_goals first
            | (with_reducible refine ⟨_, ⟨x1, y3⟩, rfl, hide (bxA_alloc (x := ⟨x1, y3⟩) 40 (unhide HBr) (unhide Px1) (unhide Py3) ?_ ?_ ?_ ?_ ?_), hide ((unhide HBr).alloc (unhide HBr).size _), (unhide HBr).size⟩ <;> first | omega | (simp; done) | (simp; omega))
            | (with_reducible refine ⟨_, ⟨x1, y3⟩, rfl, hide (bxA_set (x := ⟨x1, y3⟩) (unhide HBr) (unhide Px1) (unhide Py3) ?_ ?_ ?_ ?_ ?_ ?_ ?_ ?_ g0 g1 g2 g3 gf), hide ((metQ_but (v := ⟨x1, y3⟩)).below (unhide HBr) ?_ (unhide HBr).size), ?_⟩ <;> first | omega | (simp; done) | (simp; omega))
        case rest =>
          obtain ⟨J, xJ, rfl, HJ, hb0, loJ⟩ := hcut
          have hb := unhide hb0
          clear hb0
          have hiJ := (unhide HJ).hi
          have szJ := hb.size
          replace z2 := fun o => frozen_later hb (World.block_lt_of_cell? _ _ k2_0) (z2 o)
          replace k0_0 := cell_later hb k0_0
          replace k0_1 := cell_later hb k0_1
          replace k0_2 := cell_later hb k0_2
          replace k0_3 := cell_later hb k0_3
          replace k1_0 := cell_later hb k1_0
          replace k1_1 := cell_later hb k1_1
          replace k1_2 := cell_later hb k1_2
          replace k1_3 := cell_later hb k1_3
          replace k2_0 := cell_later hb k2_0
          replace k2_1 := cell_later hb k2_1
          replace k2_2 := cell_later hb k2_2
          replace k2_3 := cell_later hb k2_3
          replace k4_0 := cell_later hb k4_0
          replace k4_1 := cell_later hb k4_1
          replace k4_2 := cell_later hb k4_2
          replace k4_3 := cell_later hb k4_3
          clear k3_0 k3_1
          replace QA := hide ((unhide QA).later hb)
          replace QB := hide ((unhide QB).later hb)
          replace OF := hide ((unhide OF).later hb)
          replace OG := hide ((unhide OG).later hb)
          have OJ := hide ((unhide HJ).ow)
          replace HB := hide (below_on (unhide HB) hb)
          clear hb
          have k5_0 := (unhide HJ).c0
          have k5_1 := (unhide HJ).c1
          have k5_2 := (unhide HJ).c2
          have k5_3 := (unhide HJ).c3
          clear HJ
          obtain ⟨wd, hwd⟩ : ∃ x, x = wc := ⟨_, rfl⟩
          subst hwd
          go_wp2_with fail
          refine (cmpQI xJ bq _ _ _ _ _ (unhide OJ).is (unhide QB) (((unhide BF).add (one_bd2 (by omega))).mono (by omega)) (one_bd2 (by omega)) ((unhide KB).1.mono (by omega)) ((unhide KB).2.mono (by omega))).mono ?_
          rintro e w5 ⟨rfl, hb⟩
          have s5 := hb.size
          replace z2 := fun o => frozen_later hb (World.block_lt_of_cell? _ _ k2_0) (z2 o)
          replace k0_0 := cell_later hb k0_0
          replace k0_1 := cell_later hb k0_1
          replace k0_2 := cell_later hb k0_2
          replace k0_3 := cell_later hb k0_3
          replace k1_0 := cell_later hb k1_0
          replace k1_1 := cell_later hb k1_1
          replace k1_2 := cell_later hb k1_2
          replace k1_3 := cell_later hb k1_3
          replace k2_0 := cell_later hb k2_0
          replace k2_1 := cell_later hb k2_1
          replace k2_2 := cell_later hb k2_2
          replace k2_3 := cell_later hb k2_3
          replace k4_0 := cell_later hb k4_0
          replace k4_1 := cell_later hb k4_1
          replace k4_2 := cell_later hb k4_2
          replace k4_3 := cell_later hb k4_3
          replace k5_0 := cell_later hb k5_0
          replace k5_1 := cell_later hb k5_1
          replace k5_2 := cell_later hb k5_2
          replace k5_3 := cell_later hb k5_3
          replace QA := hide ((unhide QA).later hb)
          replace QB := hide ((unhide QB).later hb)
          replace OF := hide ((unhide OF).later hb)
          replace OG := hide ((unhide OG).later hb)
          replace OJ := hide ((unhide OJ).later hb)
          replace HB := hide (below_on (unhide HB) hb)
          clear hb
          go_wp2_with fail
          refine (midI_v xG xJ aq bq _ _ _ _ _ _ _ _ _ (unhide OG).is (unhide OJ).is (unhide QA) (unhide QB) ⟨(unhide BF).mono (by omega), one_bd2 (by omega)⟩ ⟨((unhide BF).add (one_bd2 (by omega))).mono (by omega), one_bd2 (by omega)⟩ ⟨(unhide KA).1.mono (by omega), (unhide KA).2.mono (by omega)⟩ ⟨(unhide KB).1.mono (by omega), (unhide KB).2.mono (by omega)⟩).mono ?_
          rintro e w6 ⟨r, xs, us, rfl, hb, k1, k2, k3, k4⟩
          have s6 := hb.size
          have OR := hide (And.intro k1 (And.intro k2 (And.intro k3 k4)))
          replace z2 := fun o => frozen_later hb (World.block_lt_of_cell? _ _ k2_0) (z2 o)
          replace k2_0 := cell_later hb k2_0
          replace k2_1 := cell_later hb k2_1
          replace k2_2 := cell_later hb k2_2
          replace k2_3 := cell_later hb k2_3
          clear k0_0 k0_1 k0_2 k0_3 k1_0 k1_1 k1_2 k1_3 k4_0 k4_1 k4_2 k4_3 k5_0 k5_1 k5_2 k5_3
          replace QA := hide ((unhide QA).later hb)
          replace QB := hide ((unhide QB).later hb)
          replace OF := hide ((unhide OF).later hb)
          replace OG := hide ((unhide OG).later hb)
          replace OJ := hide ((unhide OJ).later hb)
          replace HB := hide (below_on (unhide HB) hb)
          clear hb
          clear k1 k2 k3 k4
          go_wp2
          refine bodyPost_ret (v := .agg #[.bool r.num.g, .slice r.num.a r.num.n r.num.c, .bool r.den.g, .slice r.den.a r.den.n r.den.c]) (by simp [results, Try.results104, go_sem, k2_0, k2_1, k2_2, k2_3]) rfl ?_
          exact outQ_fin (q := r) (R := w.heap.size + 1 + 1) (by omega) (unhide HB) (metQ_but (w5 := w6) (v := r) (G := w.heap.size + 1 + 1)) ((unhide OR).1.wide (by omega) (by omega)) (unhide OR).2.1 (unhide OR).2.2.1 (unhide OR).2.2.2
end Go.Proofs.Ytfmjbpfnhgkhkaa
namespace Go.Proofs.Ytfmjbpfnhgkhkaa
open Go.RowKit
set_option linter.unusedVariables false
set_option maxRecDepth 100000
set_option linter.unusedSimpArgs false

def pS (d d' : QD) : Bool := (gQ d && gQ d') && decide ((smp (nQ d) (dQ d) (nQ d') (dQ d')).2 ≠ 0)
theorem pS_bad {d d' : QD} (h : (gQ d && gQ d') = false) : pS d d' = false := by unfold pS; rw [h]; rfl
theorem pS_none {d d' : QD} (h : (smp (nQ d) (dQ d) (nQ d') (dQ d')) = (0, 0)) : pS d d' = false := by unfold pS; rw [h]; cases (gQ d && gQ d') <;> rfl
theorem pS_some {d d' : QD} (h : (gQ d && gQ d') = true) (k : (smp (nQ d) (dQ d) (nQ d') (dQ d')).2 ≠ 0) : pS d d' = true := by unfold pS; rw [h, decide_eq_true k]; rfl

set_option maxHeartbeats 4000000 in
theorem ofSimp (q q' : QV) (d d' : QD) (w : World) (h : AllAr w [(q.num, d.num), (q.den, d.den)]) (h' : AllAr w [(q'.num, d'.num), (q'.den, d'.den)]) :
    Calls Try.prog 103 #[.agg #[.bool q.num.g, .slice q.num.a q.num.n q.num.c, .bool q.den.g, .slice q.den.a q.den.n q.den.c], .agg #[.bool q'.num.g, .slice q'.num.a q'.num.n q'.num.c, .bool q'.den.g, .slice q'.den.a q'.den.n q'.den.c], .func (Fn.func 104) #[] #[], .func (Fn.func 99) #[] #[]] w (RetQ w (AnsQ (pS d d') (smp (nQ d) (dQ d) (nQ d') (dQ d')).1 (smp (nQ d) (dQ d) (nQ d') (dQ d')).2)) := by
  have H1 := hide h
  have H2 := hide h'
  clear h h'
  cases hg1 : gQ d
  · have G1 := hide (fun w1 (k : AllAr w1 [(q.num, d.num), (q.den, d.den)]) => goodQI q d w1 k)
    rw [hg1] at G1
    rw [pS_bad (by rw [hg1]; rfl)]
    clear hg1
    have B0 := hide (show Below w.heap.size w (((w.alloc (.cells #[.bool q.num.g, .slice q.num.a q.num.n q.num.c, .bool q.den.g, .slice q.den.a q.den.n q.den.c] 40)).alloc (.cells #[.bool q'.num.g, .slice q'.num.a q'.num.n q'.num.c, .bool q'.den.g, .slice q'.den.a q'.den.n q'.den.c] 40)).alloc (.cells #[.bool false, .slice none 0 0, .bool false, .slice none 0 0] 40)) from ((((Below.refl _ _).alloc (by simp) _).alloc (by simp) _).alloc (by simp <;> omega) _))
    go_enter Try.func103, Try.ntmps103
    go_wp2_with fail
    refine (unhide G1 _ ((unhide H1).later (unhide B0))).mono ?_
    rintro e w1 ⟨rfl, hb⟩
    have s1 : w.heap.size + 1 + 1 < w1.heap.size := by have := hb.size; simp at this; omega
    have k2_0 : w1.cell? ⟨w.heap.size + 1 + 1, 0, none⟩ = some (.bool false) := cell_later hb (by simp [go_sem])
    have k2_1 : w1.cell? ⟨w.heap.size + 1 + 1, 1, none⟩ = some (.slice none 0 0) := cell_later hb (by simp [go_sem])
    have k2_2 : w1.cell? ⟨w.heap.size + 1 + 1, 2, none⟩ = some (.bool false) := cell_later hb (by simp [go_sem])
    have k2_3 : w1.cell? ⟨w.heap.size + 1 + 1, 3, none⟩ = some (.slice none 0 0) := cell_later hb (by simp [go_sem])
    have z2 : ∀ o, w1.frozen? ⟨w.heap.size + 1 + 1, o, none⟩ = false := fun o => frozen_later hb (by simp) (by simp [go_sem])
    have HB := hide (below_on (unhide B0) hb)
    clear hb
    go_upto_region 3 with fail
    have hb : Below w1.heap.size w1 (w1.alloc (.cells #[.bool false, .slice none 0 0, .bool false, .slice none 0 0] 40)) := ((Below.refl _ _).alloc (by simp) _)
    have k3_0 : (w1.alloc (.cells #[.bool false, .slice none 0 0, .bool false, .slice none 0 0] 40)).cell? ⟨w1.heap.size, 0, none⟩ = some (.bool false) := by simp [go_sem]
    have k3_1 : (w1.alloc (.cells #[.bool false, .slice none 0 0, .bool false, .slice none 0 0] 40)).cell? ⟨w1.heap.size, 1, none⟩ = some (.slice none 0 0) := by simp [go_sem]
    have k3_2 : (w1.alloc (.cells #[.bool false, .slice none 0 0, .bool false, .slice none 0 0] 40)).cell? ⟨w1.heap.size, 2, none⟩ = some (.bool false) := by simp [go_sem]
    have k3_3 : (w1.alloc (.cells #[.bool false, .slice none 0 0, .bool false, .slice none 0 0] 40)).cell? ⟨w1.heap.size, 3, none⟩ = some (.slice none 0 0) := by simp [go_sem]
    replace k2_0 : (w1.alloc (.cells #[.bool false, .slice none 0 0, .bool false, .slice none 0 0] 40)).cell? ⟨w.heap.size + 1 + 1, 0, none⟩ = some (.bool false) := (ca_other k2_0)
    replace k2_1 : (w1.alloc (.cells #[.bool false, .slice none 0 0, .bool false, .slice none 0 0] 40)).cell? ⟨w.heap.size + 1 + 1, 1, none⟩ = some (.slice none 0 0) := (ca_other k2_1)
    replace k2_2 : (w1.alloc (.cells #[.bool false, .slice none 0 0, .bool false, .slice none 0 0] 40)).cell? ⟨w.heap.size + 1 + 1, 2, none⟩ = some (.bool false) := (ca_other k2_2)
    replace k2_3 : (w1.alloc (.cells #[.bool false, .slice none 0 0, .bool false, .slice none 0 0] 40)).cell? ⟨w.heap.size + 1 + 1, 3, none⟩ = some (.slice none 0 0) := (ca_other k2_3)
    replace z2 : ∀ o, (w1.alloc (.cells #[.bool false, .slice none 0 0, .bool false, .slice none 0 0] 40)).frozen? ⟨w.heap.size + 1 + 1, o, none⟩ = false := fun o => frozen_later hb (by omega) (z2 o)
    replace HB := hide (below_on (unhide HB) hb)
    have szwz := hb.size
    clear hb
    generalize (w1.alloc (.cells #[.bool false, .slice none 0 0, .bool false, .slice none 0 0] 40)) = wz at *
    go_wp2
    refine bodyPost_ret (v := .tuple #[.agg #[.bool false, .slice none 0 0, .bool false, .slice none 0 0], .bool false]) (by simp [results, Try.results103, go_sem, k2_0, k2_1, k2_2, k2_3]) rfl ?_
    exact retQ_fin (v := (⟨⟨false, none, 0, 0⟩, ⟨false, none, 0, 0⟩⟩ : QV)) (d := (⟨⟨false, []⟩, ⟨false, []⟩⟩ : QD)) (R := w.heap.size + 1 + 1) (by omega) (unhide HB) (metQ_but (w5 := wz) (v := (⟨⟨false, none, 0, 0⟩, ⟨false, none, 0, 0⟩⟩ : QV)) (G := w.heap.size + 1 + 1)) (zeroQ _ _ _) (ansQ_none _ _)
  · cases hg2 : gQ d'
    · have G1 := hide (fun w1 (k : AllAr w1 [(q.num, d.num), (q.den, d.den)]) => goodQI q d w1 k)
      have G2 := hide (fun w1 (k : AllAr w1 [(q'.num, d'.num), (q'.den, d'.den)]) => goodQI q' d' w1 k)
      rw [hg1] at G1
      rw [hg2] at G2
      rw [pS_bad (by rw [hg1, hg2]; rfl)]
      clear hg1 hg2
      have B0 := hide (show Below w.heap.size w (((w.alloc (.cells #[.bool q.num.g, .slice q.num.a q.num.n q.num.c, .bool q.den.g, .slice q.den.a q.den.n q.den.c] 40)).alloc (.cells #[.bool q'.num.g, .slice q'.num.a q'.num.n q'.num.c, .bool q'.den.g, .slice q'.den.a q'.den.n q'.den.c] 40)).alloc (.cells #[.bool false, .slice none 0 0, .bool false, .slice none 0 0] 40)) from ((((Below.refl _ _).alloc (by simp) _).alloc (by simp) _).alloc (by simp <;> omega) _))
      go_enter Try.func103, Try.ntmps103
      go_wp2_with fail
      refine (unhide G1 _ ((unhide H1).later (unhide B0))).mono ?_
      rintro e w1 ⟨rfl, hb⟩
      have s1 : w.heap.size + 1 + 1 < w1.heap.size := by have := hb.size; simp at this; omega
      have k1_0 : w1.cell? ⟨w.heap.size + 1, 0, none⟩ = some (.bool q'.num.g) := cell_later hb (by simp [go_sem])
      have k1_1 : w1.cell? ⟨w.heap.size + 1, 1, none⟩ = some (.slice q'.num.a q'.num.n q'.num.c) := cell_later hb (by simp [go_sem])
      have k1_2 : w1.cell? ⟨w.heap.size + 1, 2, none⟩ = some (.bool q'.den.g) := cell_later hb (by simp [go_sem])
      have k1_3 : w1.cell? ⟨w.heap.size + 1, 3, none⟩ = some (.slice q'.den.a q'.den.n q'.den.c) := cell_later hb (by simp [go_sem])
      have k2_0 : w1.cell? ⟨w.heap.size + 1 + 1, 0, none⟩ = some (.bool false) := cell_later hb (by simp [go_sem])
      have k2_1 : w1.cell? ⟨w.heap.size + 1 + 1, 1, none⟩ = some (.slice none 0 0) := cell_later hb (by simp [go_sem])
      have k2_2 : w1.cell? ⟨w.heap.size + 1 + 1, 2, none⟩ = some (.bool false) := cell_later hb (by simp [go_sem])
      have k2_3 : w1.cell? ⟨w.heap.size + 1 + 1, 3, none⟩ = some (.slice none 0 0) := cell_later hb (by simp [go_sem])
      have z2 : ∀ o, w1.frozen? ⟨w.heap.size + 1 + 1, o, none⟩ = false := fun o => frozen_later hb (by simp) (by simp [go_sem])
      have HB := hide (below_on (unhide B0) hb)
      clear hb
      go_wp2_with fail
      refine (unhide G2 _ ((unhide H2).later (unhide HB))).mono ?_
      rintro e w2 ⟨rfl, hb⟩
      have s2 := hb.size
      replace z2 := fun o => frozen_later hb (World.block_lt_of_cell? _ _ k2_0) (z2 o)
      replace k2_0 := cell_later hb k2_0
      replace k2_1 := cell_later hb k2_1
      replace k2_2 := cell_later hb k2_2
      replace k2_3 := cell_later hb k2_3
      clear k1_0 k1_1 k1_2 k1_3
      replace HB := hide (below_on (unhide HB) hb)
      clear hb
      go_upto_region 3 with fail
      have hb : Below w2.heap.size w2 (w2.alloc (.cells #[.bool false, .slice none 0 0, .bool false, .slice none 0 0] 40)) := ((Below.refl _ _).alloc (by simp) _)
      have k3_0 : (w2.alloc (.cells #[.bool false, .slice none 0 0, .bool false, .slice none 0 0] 40)).cell? ⟨w2.heap.size, 0, none⟩ = some (.bool false) := by simp [go_sem]
      have k3_1 : (w2.alloc (.cells #[.bool false, .slice none 0 0, .bool false, .slice none 0 0] 40)).cell? ⟨w2.heap.size, 1, none⟩ = some (.slice none 0 0) := by simp [go_sem]
      have k3_2 : (w2.alloc (.cells #[.bool false, .slice none 0 0, .bool false, .slice none 0 0] 40)).cell? ⟨w2.heap.size, 2, none⟩ = some (.bool false) := by simp [go_sem]
      have k3_3 : (w2.alloc (.cells #[.bool false, .slice none 0 0, .bool false, .slice none 0 0] 40)).cell? ⟨w2.heap.size, 3, none⟩ = some (.slice none 0 0) := by simp [go_sem]
      replace k2_0 : (w2.alloc (.cells #[.bool false, .slice none 0 0, .bool false, .slice none 0 0] 40)).cell? ⟨w.heap.size + 1 + 1, 0, none⟩ = some (.bool false) := (ca_other k2_0)
      replace k2_1 : (w2.alloc (.cells #[.bool false, .slice none 0 0, .bool false, .slice none 0 0] 40)).cell? ⟨w.heap.size + 1 + 1, 1, none⟩ = some (.slice none 0 0) := (ca_other k2_1)
      replace k2_2 : (w2.alloc (.cells #[.bool false, .slice none 0 0, .bool false, .slice none 0 0] 40)).cell? ⟨w.heap.size + 1 + 1, 2, none⟩ = some (.bool false) := (ca_other k2_2)
      replace k2_3 : (w2.alloc (.cells #[.bool false, .slice none 0 0, .bool false, .slice none 0 0] 40)).cell? ⟨w.heap.size + 1 + 1, 3, none⟩ = some (.slice none 0 0) := (ca_other k2_3)
      replace z2 : ∀ o, (w2.alloc (.cells #[.bool false, .slice none 0 0, .bool false, .slice none 0 0] 40)).frozen? ⟨w.heap.size + 1 + 1, o, none⟩ = false := fun o => frozen_later hb (by omega) (z2 o)
      replace HB := hide (below_on (unhide HB) hb)
      have szwz := hb.size
      clear hb
      generalize (w2.alloc (.cells #[.bool false, .slice none 0 0, .bool false, .slice none 0 0] 40)) = wz at *
      go_wp2
      refine bodyPost_ret (v := .tuple #[.agg #[.bool false, .slice none 0 0, .bool false, .slice none 0 0], .bool false]) (by simp [results, Try.results103, go_sem, k2_0, k2_1, k2_2, k2_3]) rfl ?_
      exact retQ_fin (v := (⟨⟨false, none, 0, 0⟩, ⟨false, none, 0, 0⟩⟩ : QV)) (d := (⟨⟨false, []⟩, ⟨false, []⟩⟩ : QD)) (R := w.heap.size + 1 + 1) (by omega) (unhide HB) (metQ_but (w5 := wz) (v := (⟨⟨false, none, 0, 0⟩, ⟨false, none, 0, 0⟩⟩ : QV)) (G := w.heap.size + 1 + 1)) (zeroQ _ _ _) (ansQ_none _ _)
    · by_cases hs : (smp (nQ d) (dQ d) (nQ d') (dQ d')).2 ≠ 0
      · have G1 := hide (fun w1 (k : AllAr w1 [(q.num, d.num), (q.den, d.den)]) => goodQI q d w1 k)
        have G2 := hide (fun w1 (k : AllAr w1 [(q'.num, d'.num), (q'.den, d'.den)]) => goodQI q' d' w1 k)
        rw [hg1] at G1
        rw [hg2] at G2
        have J1 := hide (isGood_of (unhide H1) hg1)
        have J2 := hide (isGood_of (unhide H2) hg2)
        rw [pS_some (by rw [hg1, hg2]; rfl) hs]
        have HS := hide hs
        clear hg1 hg2 hs
        have B0 := hide (show Below w.heap.size w (((w.alloc (.cells #[.bool q.num.g, .slice q.num.a q.num.n q.num.c, .bool q.den.g, .slice q.den.a q.den.n q.den.c] 40)).alloc (.cells #[.bool q'.num.g, .slice q'.num.a q'.num.n q'.num.c, .bool q'.den.g, .slice q'.den.a q'.den.n q'.den.c] 40)).alloc (.cells #[.bool false, .slice none 0 0, .bool false, .slice none 0 0] 40)) from ((((Below.refl _ _).alloc (by simp) _).alloc (by simp) _).alloc (by simp <;> omega) _))
        go_enter Try.func103, Try.ntmps103
        go_wp2_with fail
        refine (unhide G1 _ ((unhide H1).later (unhide B0))).mono ?_
        rintro e w1 ⟨rfl, hb⟩
        have s1 : w.heap.size + 1 + 1 < w1.heap.size := by have := hb.size; simp at this; omega
        have k0_0 : w1.cell? ⟨w.heap.size, 0, none⟩ = some (.bool q.num.g) := cell_later hb (by simp [go_sem])
        have k0_1 : w1.cell? ⟨w.heap.size, 1, none⟩ = some (.slice q.num.a q.num.n q.num.c) := cell_later hb (by simp [go_sem])
        have k0_2 : w1.cell? ⟨w.heap.size, 2, none⟩ = some (.bool q.den.g) := cell_later hb (by simp [go_sem])
        have k0_3 : w1.cell? ⟨w.heap.size, 3, none⟩ = some (.slice q.den.a q.den.n q.den.c) := cell_later hb (by simp [go_sem])
        have k1_0 : w1.cell? ⟨w.heap.size + 1, 0, none⟩ = some (.bool q'.num.g) := cell_later hb (by simp [go_sem])
        have k1_1 : w1.cell? ⟨w.heap.size + 1, 1, none⟩ = some (.slice q'.num.a q'.num.n q'.num.c) := cell_later hb (by simp [go_sem])
        have k1_2 : w1.cell? ⟨w.heap.size + 1, 2, none⟩ = some (.bool q'.den.g) := cell_later hb (by simp [go_sem])
        have k1_3 : w1.cell? ⟨w.heap.size + 1, 3, none⟩ = some (.slice q'.den.a q'.den.n q'.den.c) := cell_later hb (by simp [go_sem])
        have k2_0 : w1.cell? ⟨w.heap.size + 1 + 1, 0, none⟩ = some (.bool false) := cell_later hb (by simp [go_sem])
        have k2_1 : w1.cell? ⟨w.heap.size + 1 + 1, 1, none⟩ = some (.slice none 0 0) := cell_later hb (by simp [go_sem])
        have k2_2 : w1.cell? ⟨w.heap.size + 1 + 1, 2, none⟩ = some (.bool false) := cell_later hb (by simp [go_sem])
        have k2_3 : w1.cell? ⟨w.heap.size + 1 + 1, 3, none⟩ = some (.slice none 0 0) := cell_later hb (by simp [go_sem])
        have z2 : ∀ o, w1.frozen? ⟨w.heap.size + 1 + 1, o, none⟩ = false := fun o => frozen_later hb (by simp) (by simp [go_sem])
        have HB := hide (below_on (unhide B0) hb)
        clear hb
        go_wp2_with fail
        refine (unhide G2 _ ((unhide H2).later (unhide HB))).mono ?_
        rintro e w2 ⟨rfl, hb⟩
        have s2 := hb.size
        replace z2 := fun o => frozen_later hb (World.block_lt_of_cell? _ _ k2_0) (z2 o)
        replace k0_0 := cell_later hb k0_0
        replace k0_1 := cell_later hb k0_1
        replace k0_2 := cell_later hb k0_2
        replace k0_3 := cell_later hb k0_3
        replace k1_0 := cell_later hb k1_0
        replace k1_1 := cell_later hb k1_1
        replace k1_2 := cell_later hb k1_2
        replace k1_3 := cell_later hb k1_3
        replace k2_0 := cell_later hb k2_0
        replace k2_1 := cell_later hb k2_1
        replace k2_2 := cell_later hb k2_2
        replace k2_3 := cell_later hb k2_3
        replace HB := hide (below_on (unhide HB) hb)
        clear hb
        go_wp2_with fail
        refine (simpI_v q q' _ _ _ _ _ ((unhide J1).is.later (unhide HB)) ((unhide J2).is.later (unhide HB)) (unhide J1).pos (unhide J2).pos ⟨(unhide J1).kn, (unhide J1).kd⟩ ⟨(unhide J2).kn, (unhide J2).kd⟩).mono ?_
        rintro e w3 ⟨r, zs, us, rfl, hb, or, ar, nz, nu⟩
        have s3 := hb.size
        have RM : r.den.n ≤ maxLen := Nat.le_trans ar.tail.head.ar.cap ar.tail.head.ar.top
        have NN := hide (And.intro nz nu)
        replace z2 := fun o => frozen_later hb (World.block_lt_of_cell? _ _ k2_0) (z2 o)
        replace k2_0 := cell_later hb k2_0
        replace k2_1 := cell_later hb k2_1
        replace k2_2 := cell_later hb k2_2
        replace k2_3 := cell_later hb k2_3
        clear k0_0 k0_1 k0_2 k0_3 k1_0 k1_1 k1_2 k1_3
        have OR := hide (or)
        replace HB := hide (below_on (unhide HB) hb)
        clear hb
        clear or ar nz nu
        go_wp2_with fail
        refine (whereQ r _ _ zs us w2.heap.size w3.heap.size _ (unhide OR) (Nat.le_refl _) RM (unhide NN).1 (unhide NN).2 (unhide HS)).mono ?_
        rintro e w4 ⟨v, dv, ok, rfl, hb, ov, hu⟩
        have s4 := hb.size
        have UU := hide hu
        replace z2 := fun o => frozen_later hb (World.block_lt_of_cell? _ _ k2_0) (z2 o)
        replace k2_0 := cell_later hb k2_0
        replace k2_1 := cell_later hb k2_1
        replace k2_2 := cell_later hb k2_2
        replace k2_3 := cell_later hb k2_3
        replace OR := hide ((unhide OR).later hb)
        have OV := hide (ov)
        replace HB := hide (below_on (unhide HB) hb)
        clear hb
        clear ov hu
        go_wp2
        refine bodyPost_ret (v := .tuple #[.agg #[.bool v.num.g, .slice v.num.a v.num.n v.num.c, .bool v.den.g, .slice v.den.a v.den.n v.den.c], .bool ok]) (by simp [results, Try.results103, go_sem, k2_0, k2_1, k2_2, k2_3]) rfl ?_
        exact retQ_fin (v := v) (d := dv) (R := w.heap.size + 1 + 1) (by omega) (unhide HB) (metQ_but (w5 := w4) (v := v) (G := w.heap.size + 1 + 1)) ((unhide OV).wide (by omega) (by omega)) (unhide UU)
      · have G1 := hide (fun w1 (k : AllAr w1 [(q.num, d.num), (q.den, d.den)]) => goodQI q d w1 k)
        have G2 := hide (fun w1 (k : AllAr w1 [(q'.num, d'.num), (q'.den, d'.den)]) => goodQI q' d' w1 k)
        rw [hg1] at G1
        rw [hg2] at G2
        have J1 := hide (isGood_of (unhide H1) hg1)
        have J2 := hide (isGood_of (unhide H2) hg2)
        have HS := hide (show (smp (nQ d) (dQ d) (nQ d') (dQ d')).2 = 0 from Classical.byContradiction hs)
        rw [pS_none (by rcases smp_pos (an := nQ d) (ad := dQ d) (bn := nQ d') (bd := dQ d') with e | e; exact e; exact absurd (unhide HS) (by omega))]
        clear hg1 hg2 hs
        have B0 := hide (show Below w.heap.size w (((w.alloc (.cells #[.bool q.num.g, .slice q.num.a q.num.n q.num.c, .bool q.den.g, .slice q.den.a q.den.n q.den.c] 40)).alloc (.cells #[.bool q'.num.g, .slice q'.num.a q'.num.n q'.num.c, .bool q'.den.g, .slice q'.den.a q'.den.n q'.den.c] 40)).alloc (.cells #[.bool false, .slice none 0 0, .bool false, .slice none 0 0] 40)) from ((((Below.refl _ _).alloc (by simp) _).alloc (by simp) _).alloc (by simp <;> omega) _))
        go_enter Try.func103, Try.ntmps103
        go_wp2_with fail
        refine (unhide G1 _ ((unhide H1).later (unhide B0))).mono ?_
        rintro e w1 ⟨rfl, hb⟩
        have s1 : w.heap.size + 1 + 1 < w1.heap.size := by have := hb.size; simp at this; omega
        have k0_0 : w1.cell? ⟨w.heap.size, 0, none⟩ = some (.bool q.num.g) := cell_later hb (by simp [go_sem])
        have k0_1 : w1.cell? ⟨w.heap.size, 1, none⟩ = some (.slice q.num.a q.num.n q.num.c) := cell_later hb (by simp [go_sem])
        have k0_2 : w1.cell? ⟨w.heap.size, 2, none⟩ = some (.bool q.den.g) := cell_later hb (by simp [go_sem])
        have k0_3 : w1.cell? ⟨w.heap.size, 3, none⟩ = some (.slice q.den.a q.den.n q.den.c) := cell_later hb (by simp [go_sem])
        have k1_0 : w1.cell? ⟨w.heap.size + 1, 0, none⟩ = some (.bool q'.num.g) := cell_later hb (by simp [go_sem])
        have k1_1 : w1.cell? ⟨w.heap.size + 1, 1, none⟩ = some (.slice q'.num.a q'.num.n q'.num.c) := cell_later hb (by simp [go_sem])
        have k1_2 : w1.cell? ⟨w.heap.size + 1, 2, none⟩ = some (.bool q'.den.g) := cell_later hb (by simp [go_sem])
        have k1_3 : w1.cell? ⟨w.heap.size + 1, 3, none⟩ = some (.slice q'.den.a q'.den.n q'.den.c) := cell_later hb (by simp [go_sem])
        have k2_0 : w1.cell? ⟨w.heap.size + 1 + 1, 0, none⟩ = some (.bool false) := cell_later hb (by simp [go_sem])
        have k2_1 : w1.cell? ⟨w.heap.size + 1 + 1, 1, none⟩ = some (.slice none 0 0) := cell_later hb (by simp [go_sem])
        have k2_2 : w1.cell? ⟨w.heap.size + 1 + 1, 2, none⟩ = some (.bool false) := cell_later hb (by simp [go_sem])
        have k2_3 : w1.cell? ⟨w.heap.size + 1 + 1, 3, none⟩ = some (.slice none 0 0) := cell_later hb (by simp [go_sem])
        have z2 : ∀ o, w1.frozen? ⟨w.heap.size + 1 + 1, o, none⟩ = false := fun o => frozen_later hb (by simp) (by simp [go_sem])
        have HB := hide (below_on (unhide B0) hb)
        clear hb
        go_wp2_with fail
        refine (unhide G2 _ ((unhide H2).later (unhide HB))).mono ?_
        rintro e w2 ⟨rfl, hb⟩
        have s2 := hb.size
        replace z2 := fun o => frozen_later hb (World.block_lt_of_cell? _ _ k2_0) (z2 o)
        replace k0_0 := cell_later hb k0_0
        replace k0_1 := cell_later hb k0_1
        replace k0_2 := cell_later hb k0_2
        replace k0_3 := cell_later hb k0_3
        replace k1_0 := cell_later hb k1_0
        replace k1_1 := cell_later hb k1_1
        replace k1_2 := cell_later hb k1_2
        replace k1_3 := cell_later hb k1_3
        replace k2_0 := cell_later hb k2_0
        replace k2_1 := cell_later hb k2_1
        replace k2_2 := cell_later hb k2_2
        replace k2_3 := cell_later hb k2_3
        replace HB := hide (below_on (unhide HB) hb)
        clear hb
        go_wp2_with fail
        refine (simpI_v q q' _ _ _ _ _ ((unhide J1).is.later (unhide HB)) ((unhide J2).is.later (unhide HB)) (unhide J1).pos (unhide J2).pos ⟨(unhide J1).kn, (unhide J1).kd⟩ ⟨(unhide J2).kn, (unhide J2).kd⟩).mono ?_
        rintro e w3 ⟨r, zs, us, rfl, hb, or, ar, nz, nu⟩
        have s3 := hb.size
        have RM : r.den.n ≤ maxLen := Nat.le_trans ar.tail.head.ar.cap ar.tail.head.ar.top
        have NN := hide (And.intro nz nu)
        have DZ : Hid (decide (r.den.n ≠ 0 ∧ r.num.n ≤ 40 ∧ r.den.n ≤ 40) = false) := hide (decide_eq_false (fun hh => hh.1 (by have e1 := ar.tail.head.ar.len; rw [← e1]; have e2 := nu.nil_iff.2 (by rw [unhide HS]; rfl); rw [e2]; rfl)))
        replace z2 := fun o => frozen_later hb (World.block_lt_of_cell? _ _ k2_0) (z2 o)
        replace k2_0 := cell_later hb k2_0
        replace k2_1 := cell_later hb k2_1
        replace k2_2 := cell_later hb k2_2
        replace k2_3 := cell_later hb k2_3
        clear k0_0 k0_1 k0_2 k0_3 k1_0 k1_1 k1_2 k1_3
        have OR := hide (or)
        replace HB := hide (below_on (unhide HB) hb)
        clear hb
        clear or ar nz nu
        go_wp2_with fail
        refine (whereQ_no r w2.heap.size w3.heap.size _ RM (unhide DZ)).mono ?_
        rintro e w4 ⟨v, dv, ok, rfl, hb, ov, hu, hk⟩
        have s4 := hb.size
        have UU : Hid (AnsQ false (smp (nQ d) (dQ d) (nQ d') (dQ d')).1 (smp (nQ d) (dQ d) (nQ d') (dQ d')).2 dv ok) := hide (.inr ⟨rfl, hk, hu⟩)
        replace z2 := fun o => frozen_later hb (World.block_lt_of_cell? _ _ k2_0) (z2 o)
        replace k2_0 := cell_later hb k2_0
        replace k2_1 := cell_later hb k2_1
        replace k2_2 := cell_later hb k2_2
        replace k2_3 := cell_later hb k2_3
        replace OR := hide ((unhide OR).later hb)
        have OV := hide (ov)
        replace HB := hide (below_on (unhide HB) hb)
        clear hb
        clear ov hu hk
        go_wp2
        refine bodyPost_ret (v := .tuple #[.agg #[.bool v.num.g, .slice v.num.a v.num.n v.num.c, .bool v.den.g, .slice v.den.a v.den.n v.den.c], .bool ok]) (by simp [results, Try.results103, go_sem, k2_0, k2_1, k2_2, k2_3]) rfl ?_
        exact retQ_fin (v := v) (d := dv) (R := w.heap.size + 1 + 1) (by omega) (unhide HB) (metQ_but (w5 := w4) (v := v) (G := w.heap.size + 1 + 1)) ((unhide OV).wide (by omega) (by omega)) (unhide UU)

set_option maxHeartbeats 2000000 in
theorem SimpRI (q q' : QV) (d d' : QD) (w : World) (h : AllAr w [(q.num, d.num), (q.den, d.den)]) (h' : AllAr w [(q'.num, d'.num), (q'.den, d'.den)]) :
    Calls Try.prog 40 #[.agg #[.bool q.num.g, .slice q.num.a q.num.n q.num.c, .bool q.den.g, .slice q.den.a q.den.n q.den.c], .agg #[.bool q'.num.g, .slice q'.num.a q'.num.n q'.num.c, .bool q'.den.g, .slice q'.den.a q'.den.n q'.den.c]] w (RetQ w (AnsQ (pS d d') (smp (nQ d) (dQ d) (nQ d') (dQ d')).1 (smp (nQ d) (dQ d) (nQ d') (dQ d')).2)) := by
  have H1 := hide h
  have H2 := hide h'
  clear h h'
  have B0 := hide (show Below w.heap.size w (((w.alloc (.cells #[.bool q.num.g, .slice q.num.a q.num.n q.num.c, .bool q.den.g, .slice q.den.a q.den.n q.den.c] 40)).alloc (.cells #[.bool q'.num.g, .slice q'.num.a q'.num.n q'.num.c, .bool q'.den.g, .slice q'.den.a q'.den.n q'.den.c] 40)).alloc (.cells #[.bool false, .slice none 0 0, .bool false, .slice none 0 0] 40)) from ((((Below.refl _ _).alloc (by simp) _).alloc (by simp) _).alloc (by simp <;> omega) _))
  go_enter Try.func40, Try.ntmps40
  go_wp2_with fail
  refine (ofSimp q q' d d' _ ((unhide H1).later (unhide B0)) ((unhide H2).later (unhide B0))).mono ?_
  rintro e w2 ⟨v, dv, ok, rfl, hb, ov, hu⟩
  have s2 : w.heap.size + 1 + 1 < w2.heap.size := by have := hb.size; simp at this; omega
  have UU := hide hu
  have k2_0 : w2.cell? ⟨w.heap.size + 1 + 1, 0, none⟩ = some (.bool false) := cell_later hb (by simp [go_sem])
  have k2_1 : w2.cell? ⟨w.heap.size + 1 + 1, 1, none⟩ = some (.slice none 0 0) := cell_later hb (by simp [go_sem])
  have k2_2 : w2.cell? ⟨w.heap.size + 1 + 1, 2, none⟩ = some (.bool false) := cell_later hb (by simp [go_sem])
  have k2_3 : w2.cell? ⟨w.heap.size + 1 + 1, 3, none⟩ = some (.slice none 0 0) := cell_later hb (by simp [go_sem])
  have z2 : ∀ o, w2.frozen? ⟨w.heap.size + 1 + 1, o, none⟩ = false := fun o => frozen_later hb (by simp) (by simp [go_sem])
  have OV := hide (ov)
  have HB := hide (below_on (unhide B0) hb)
  clear hb
  clear ov hu
  go_wp2
  refine bodyPost_ret (v := .tuple #[.agg #[.bool v.num.g, .slice v.num.a v.num.n v.num.c, .bool v.den.g, .slice v.den.a v.den.n v.den.c], .bool ok]) (by simp [results, Try.results40, go_sem, k2_0, k2_1, k2_2, k2_3]) rfl ?_
  exact retQ_fin (v := v) (d := dv) (R := w.heap.size + 1 + 1) (by omega) (unhide HB) (metQ_but (w5 := w2) (v := v) (G := w.heap.size + 1 + 1)) ((unhide OV).wide (by simp) (by omega)) (unhide UU)

/-- A fraction whose limbs lie neither in block L nor in block J. -/
def NotB (L J : Nat) (b : BV) (V : Int) : Prop := V = 0 ∨ ∃ p : Addr, b.a = some p ∧ p.block ≠ L ∧ p.block ≠ J
structure IsQ2 (L J : Nat) (w : World) (q : QV) (N D : Int) : Prop where
  is : IsQ w q N D
  n : NotB L J q.num N
  d : NotB L J q.den D
theorem IsQ2.later {L J : Nat} {w w' : World} {q : QV} {N D : Int} (h : IsQ2 L J w q N D) (hb : Below w.heap.size w w') : IsQ2 L J w' q N D := ⟨h.is.later hb, h.n, h.d⟩
theorem isB_but1 {L J G : Nat} {w w' : World} {b : BV} {V : Int} (h : IsB w b V) (hn : NotB L J b V) (hG : G = L ∨ G = J) (hb : But G (G + 1) w w') : IsB w' b V := by
  obtain ⟨xs, h1, h2⟩ := h
  refine ⟨xs, ⟨h1.sg, ⟨?_, h1.ar.len, h1.ar.cap, h1.ar.top, h1.ar.addr⟩⟩, h2⟩
  rcases h1.ar.sl with e | ⟨b', off, e, hlt, hc⟩
  · exact .inl e
  · rcases hn with e0 | ⟨p, hp, hd1, hd2⟩
    · exact .inl (h2.nil_iff.2 (by omega))
    · rw [e] at hp
      obtain rfl := Option.some.inj hp
      have k1 : b' ≠ L := hd1
      have k2 : b' ≠ J := hd2
      exact .inr ⟨b', off, e, Nat.lt_of_lt_of_le hlt hb.size, fun i hi => hb.cell (hc i hi) (by omega)⟩
theorem IsQ2.but {L J G : Nat} {w w' : World} {q : QV} {N D : Int} (h : IsQ2 L J w q N D) (hG : G = L ∨ G = J) (hb : But G (G + 1) w w') : IsQ2 L J w' q N D :=
  ⟨⟨isB_but1 h.is.1 h.n hG hb, isB_but1 h.is.2 h.d hG hb⟩, h.n, h.d⟩
theorem notB_low {L J : Nat} {w : World} {b : BV} {V : Int} (h : IsB w b V) (h1 : w.heap.size ≤ L) (h2 : w.heap.size ≤ J) : NotB L J b V := by
  obtain ⟨xs, k1, k2⟩ := h
  rcases k1.ar.sl with e | ⟨b', off, e, hlt, hc⟩
  · exact .inl (by have := k2.nil_iff.1 e; omega)
  · exact .inr ⟨_, e, by show b' ≠ L; omega, by show b' ≠ J; omega⟩
theorem notB_own {L J lo hi : Nat} {w : World} {b : BV} {V : Int} (h : Ow lo hi w b V) (h1 : L < lo ∨ hi ≤ L) (h2 : J < lo ∨ hi ≤ J) : NotB L J b V := by
  obtain ⟨xs, k1, _, k2⟩ := h
  rcases (k1.own (b, ⟨decide (V < 0), xs⟩) (by simp)).own with e | ⟨b', cur, e, e1, e2, _⟩
  · exact .inl (by have := k2.nil_iff.1 e; omega)
  · exact .inr ⟨_, e, by show b' ≠ L; omega, by show b' ≠ J; omega⟩
theorem OwQ.notB {L J lo hi : Nat} {w : World} {x : QV} {N D : Int} (h : OwQ lo hi w x N D) (h1 : L < lo) (h2 : J < lo) : IsQ2 L J w x N D := by
  have hi' := h.is
  obtain ⟨xs, us, k1, k2, k3, k4⟩ := h
  refine ⟨hi', ?_, ?_⟩
  · rcases (k1.own (x.num, ⟨decide (N < 0), xs⟩) (by simp)).own with e | ⟨b', cur, e, e1, e2, _⟩
    · exact .inl (by have := k3.nil_iff.1 e; omega)
    · exact .inr ⟨_, e, by show b' ≠ L; omega, by show b' ≠ J; omega⟩
  · rcases (k1.own (x.den, ⟨decide (D < 0), us⟩) (by simp)).own with e | ⟨b', cur, e, e1, e2, _⟩
    · exact .inl (by have := k4.nil_iff.1 e; omega)
    · exact .inr ⟨_, e, by show b' ≠ L; omega, by show b' ≠ J; omega⟩
theorem isQ_pair {w : World} {x y : BV} {N D : Int} (h : IsB w x N) (k : IsB w y D) : IsQ w ⟨x, y⟩ N D := ⟨h, k⟩
theorem low_int (N : Int) : lowN N 1 = N ∧ lowD N 1 = 1 := by
  have h := low_low (N := N) (D := 1) (by decide)
  have c := low_cross (N := N) (D := 1) (by decide)
  rw [Int.mul_one] at c
  have hd : lowD N 1 = 1 := by
    have := lowD_le N 1
    have := lowD_pos (N := N) (D := 1) (by decide)
    omega
  rw [hd, Int.mul_one] at c
  exact ⟨c, hd⟩
theorem low_next (f : Int) : lowN (f * 1 + 1 * 1) (1 * 1) = f + 1 ∧ lowD (f * 1 + 1 * 1) (1 * 1) = 1 := by
  rw [Int.mul_one, Int.mul_one]
  exact low_int _
/-- The variable hi: its box, apart from its own limbs and from lo's box. -/
structure BxH (L : Nat) (wk wx : World) (G : Nat) (x : QV) (N D : Int) : Prop where
  lo : wk.heap.size ≤ G
  hi : G < wx.heap.size
  c0 : wx.cell? ⟨G, 0, none⟩ = some (.bool x.num.g)
  c1 : wx.cell? ⟨G, 1, none⟩ = some (.slice x.num.a x.num.n x.num.c)
  c2 : wx.cell? ⟨G, 2, none⟩ = some (.bool x.den.g)
  c3 : wx.cell? ⟨G, 3, none⟩ = some (.slice x.den.a x.den.n x.den.c)
  fz : ∀ o, wx.frozen? ⟨G, o, none⟩ = false
  is : IsQ2 L G wx x N D
  bel : Below wk.heap.size wk wx
theorem bxH_alloc {L B : Nat} {wk w5 : World} {x : QV} {N D : Int} (t : TypeId) (hk : Below wk.heap.size wk w5) (how1 : Ow B w5.heap.size w5 x.num N) (how2 : Ow B w5.heap.size w5 x.den D) (hL : L < B) : BxH L wk (w5.alloc (.cells #[.bool x.num.g, .slice x.num.a x.num.n x.num.c, .bool x.den.g, .slice x.den.a x.den.n x.den.c] t)) w5.heap.size x N D := by
  have al : Below w5.heap.size w5 (w5.alloc (.cells #[.bool x.num.g, .slice x.num.a x.num.n x.num.c, .bool x.den.g, .slice x.den.a x.den.n x.den.c] t)) := (Below.refl _ _).alloc (Nat.le_refl _) _
  exact ⟨hk.size, by simp, by simp [go_sem], by simp [go_sem], by simp [go_sem], by simp [go_sem], fun o => by simp [go_sem], ⟨⟨how1.is.later al, how2.is.later al⟩, notB_own how1 (.inl hL) (.inr (Nat.le_refl _)), notB_own how2 (.inl hL) (.inr (Nat.le_refl _))⟩, hk.alloc hk.size _⟩
theorem bxH_set {L B G : Nat} {wk w5 : World} {x : QV} {N D : Int} {z0 : Value} {z1 : Value} {z2 : Value} {z3 : Value} (hk : Below wk.heap.size wk w5) (how1 : Ow B w5.heap.size w5 x.num N) (how2 : Ow B w5.heap.size w5 x.den D) (hL : L < B) (hG : wk.heap.size ≤ G) (hGB : G < B) (e0 : w5.cell? ⟨G, 0, none⟩ = some z0) (e1 : w5.cell? ⟨G, 1, none⟩ = some z1) (e2 : w5.cell? ⟨G, 2, none⟩ = some z2) (e3 : w5.cell? ⟨G, 3, none⟩ = some z3) (ef : ∀ o, w5.frozen? ⟨G, o, none⟩ = false) : BxH L wk ((((w5.setCell ⟨G, 0, none⟩ (.bool x.num.g)).setCell ⟨G, 1, none⟩ (.slice x.num.a x.num.n x.num.c)).setCell ⟨G, 2, none⟩ (.bool x.den.g)).setCell ⟨G, 3, none⟩ (.slice x.den.a x.den.n x.den.c)) G x N D := by
  have hb := metQ_but (w5 := w5) (v := x) (G := G)
  have hlt : G < w5.heap.size := World.block_lt_of_cell? _ _ e0
  have n1 : NotB L G x.num N := notB_own how1 (.inl hL) (.inl hGB)
  have n2 : NotB L G x.den D := notB_own how2 (.inl hL) (.inl hGB)
  refine ⟨hG, by have := hb.size; omega, ?_, ?_, ?_, ?_, fun o => by simp [go_sem, ef o], (⟨⟨how1.is, how2.is⟩, n1, n2⟩ : IsQ2 L G w5 x N D).but (.inr rfl) hb, hb.below hk hG hk.size⟩
  · simp [go_sem, e0, e1, e2, e3]
  · simp [go_sem, e0, e1, e2, e3]
  · simp [go_sem, e0, e1, e2, e3]
  · simp [go_sem, e0, e1, e2, e3]
/-- The boxes of SimplestIn's loop. -/
structure MiS (L J : Nat) (w wr : World) (lq hq q q' : QV) : Prop where
  p0_0 : wr.cell? ⟨L, 0, none⟩ = some (.bool lq.num.g)
  p0_1 : wr.cell? ⟨L, 1, none⟩ = some (.slice lq.num.a lq.num.n lq.num.c)
  p0_2 : wr.cell? ⟨L, 2, none⟩ = some (.bool lq.den.g)
  p0_3 : wr.cell? ⟨L, 3, none⟩ = some (.slice lq.den.a lq.den.n lq.den.c)
  p1_0 : wr.cell? ⟨J, 0, none⟩ = some (.bool hq.num.g)
  p1_1 : wr.cell? ⟨J, 1, none⟩ = some (.slice hq.num.a hq.num.n hq.num.c)
  p1_2 : wr.cell? ⟨J, 2, none⟩ = some (.bool hq.den.g)
  p1_3 : wr.cell? ⟨J, 3, none⟩ = some (.slice hq.den.a hq.den.n hq.den.c)
  p2_0 : wr.cell? ⟨w.heap.size, 0, none⟩ = some (.bool q.num.g)
  p2_1 : wr.cell? ⟨w.heap.size, 1, none⟩ = some (.slice q.num.a q.num.n q.num.c)
  p2_2 : wr.cell? ⟨w.heap.size, 2, none⟩ = some (.bool q.den.g)
  p2_3 : wr.cell? ⟨w.heap.size, 3, none⟩ = some (.slice q.den.a q.den.n q.den.c)
  p3_0 : wr.cell? ⟨w.heap.size + 1, 0, none⟩ = some (.bool q'.num.g)
  p3_1 : wr.cell? ⟨w.heap.size + 1, 1, none⟩ = some (.slice q'.num.a q'.num.n q'.num.c)
  p3_2 : wr.cell? ⟨w.heap.size + 1, 2, none⟩ = some (.bool q'.den.g)
  p3_3 : wr.cell? ⟨w.heap.size + 1, 3, none⟩ = some (.slice q'.den.a q'.den.n q'.den.c)
  p4_0 : wr.cell? ⟨w.heap.size + 1 + 1, 0, none⟩ = some (.bool false)
  p4_1 : wr.cell? ⟨w.heap.size + 1 + 1, 1, none⟩ = some (.slice none 0 0)
  p4_2 : wr.cell? ⟨w.heap.size + 1 + 1, 2, none⟩ = some (.bool false)
  p4_3 : wr.cell? ⟨w.heap.size + 1 + 1, 3, none⟩ = some (.slice none 0 0)
  f0 : ∀ o, wr.frozen? ⟨L, o, none⟩ = false
  f1 : ∀ o, wr.frozen? ⟨J, o, none⟩ = false
  f4 : ∀ o, wr.frozen? ⟨w.heap.size + 1 + 1, o, none⟩ = false
  bel : Below w.heap.size w wr
theorem MiS.later {L J : Nat} {w wr wy : World} {lq hq q q' : QV} (h : MiS L J w wr lq hq q q') (hb : Below wr.heap.size wr wy) : MiS L J w wy lq hq q q' :=
  ⟨cell_later hb h.p0_0, cell_later hb h.p0_1, cell_later hb h.p0_2, cell_later hb h.p0_3, cell_later hb h.p1_0, cell_later hb h.p1_1, cell_later hb h.p1_2, cell_later hb h.p1_3, cell_later hb h.p2_0, cell_later hb h.p2_1, cell_later hb h.p2_2, cell_later hb h.p2_3, cell_later hb h.p3_0, cell_later hb h.p3_1, cell_later hb h.p3_2, cell_later hb h.p3_3, cell_later hb h.p4_0, cell_later hb h.p4_1, cell_later hb h.p4_2, cell_later hb h.p4_3, fun o => frozen_later hb (World.block_lt_of_cell? _ _ h.p0_0) (h.f0 o), fun o => frozen_later hb (World.block_lt_of_cell? _ _ h.p1_0) (h.f1 o), fun o => frozen_later hb (World.block_lt_of_cell? _ _ h.p4_0) (h.f4 o), below_on h.bel hb⟩
theorem MiS.set0 {L J : Nat} {w wr : World} {lq hq q q' x : QV} (h : MiS L J w wr lq hq q q') (hL : w.heap.size + 1 + 1 < L) (hJ : L < J) : MiS L J w ((((wr.setCell ⟨L, 0, none⟩ (.bool x.num.g)).setCell ⟨L, 1, none⟩ (.slice x.num.a x.num.n x.num.c)).setCell ⟨L, 2, none⟩ (.bool x.den.g)).setCell ⟨L, 3, none⟩ (.slice x.den.a x.den.n x.den.c)) x hq q q' :=
  ⟨by simp [go_sem, h.p0_0, h.p0_1, h.p0_2, h.p0_3], by simp [go_sem, h.p0_0, h.p0_1, h.p0_2, h.p0_3], by simp [go_sem, h.p0_0, h.p0_1, h.p0_2, h.p0_3], by simp [go_sem, h.p0_0, h.p0_1, h.p0_2, h.p0_3], cs_other (cs_other (cs_other (cs_other h.p1_0 (by omega)) (by omega)) (by omega)) (by omega), cs_other (cs_other (cs_other (cs_other h.p1_1 (by omega)) (by omega)) (by omega)) (by omega), cs_other (cs_other (cs_other (cs_other h.p1_2 (by omega)) (by omega)) (by omega)) (by omega), cs_other (cs_other (cs_other (cs_other h.p1_3 (by omega)) (by omega)) (by omega)) (by omega), cs_other (cs_other (cs_other (cs_other h.p2_0 (by omega)) (by omega)) (by omega)) (by omega), cs_other (cs_other (cs_other (cs_other h.p2_1 (by omega)) (by omega)) (by omega)) (by omega), cs_other (cs_other (cs_other (cs_other h.p2_2 (by omega)) (by omega)) (by omega)) (by omega), cs_other (cs_other (cs_other (cs_other h.p2_3 (by omega)) (by omega)) (by omega)) (by omega), cs_other (cs_other (cs_other (cs_other h.p3_0 (by omega)) (by omega)) (by omega)) (by omega), cs_other (cs_other (cs_other (cs_other h.p3_1 (by omega)) (by omega)) (by omega)) (by omega), cs_other (cs_other (cs_other (cs_other h.p3_2 (by omega)) (by omega)) (by omega)) (by omega), cs_other (cs_other (cs_other (cs_other h.p3_3 (by omega)) (by omega)) (by omega)) (by omega), cs_other (cs_other (cs_other (cs_other h.p4_0 (by omega)) (by omega)) (by omega)) (by omega), cs_other (cs_other (cs_other (cs_other h.p4_1 (by omega)) (by omega)) (by omega)) (by omega), cs_other (cs_other (cs_other (cs_other h.p4_2 (by omega)) (by omega)) (by omega)) (by omega), cs_other (cs_other (cs_other (cs_other h.p4_3 (by omega)) (by omega)) (by omega)) (by omega), fun o => by simp [go_sem, h.f0 o], fun o => by simp [go_sem, h.f1 o], fun o => by simp [go_sem, h.f4 o], ((((h.bel.setCell (by show w.heap.size ≤ L; omega) _).setCell (by show w.heap.size ≤ L; omega) _).setCell (by show w.heap.size ≤ L; omega) _).setCell (by show w.heap.size ≤ L; omega) _)⟩
theorem MiS.set1 {L J : Nat} {w wr : World} {lq hq q q' x : QV} (h : MiS L J w wr lq hq q q') (hL : w.heap.size + 1 + 1 < L) (hJ : L < J) : MiS L J w ((((wr.setCell ⟨J, 0, none⟩ (.bool x.num.g)).setCell ⟨J, 1, none⟩ (.slice x.num.a x.num.n x.num.c)).setCell ⟨J, 2, none⟩ (.bool x.den.g)).setCell ⟨J, 3, none⟩ (.slice x.den.a x.den.n x.den.c)) lq x q q' :=
  ⟨cs_other (cs_other (cs_other (cs_other h.p0_0 (by omega)) (by omega)) (by omega)) (by omega), cs_other (cs_other (cs_other (cs_other h.p0_1 (by omega)) (by omega)) (by omega)) (by omega), cs_other (cs_other (cs_other (cs_other h.p0_2 (by omega)) (by omega)) (by omega)) (by omega), cs_other (cs_other (cs_other (cs_other h.p0_3 (by omega)) (by omega)) (by omega)) (by omega), by simp [go_sem, h.p1_0, h.p1_1, h.p1_2, h.p1_3], by simp [go_sem, h.p1_0, h.p1_1, h.p1_2, h.p1_3], by simp [go_sem, h.p1_0, h.p1_1, h.p1_2, h.p1_3], by simp [go_sem, h.p1_0, h.p1_1, h.p1_2, h.p1_3], cs_other (cs_other (cs_other (cs_other h.p2_0 (by omega)) (by omega)) (by omega)) (by omega), cs_other (cs_other (cs_other (cs_other h.p2_1 (by omega)) (by omega)) (by omega)) (by omega), cs_other (cs_other (cs_other (cs_other h.p2_2 (by omega)) (by omega)) (by omega)) (by omega), cs_other (cs_other (cs_other (cs_other h.p2_3 (by omega)) (by omega)) (by omega)) (by omega), cs_other (cs_other (cs_other (cs_other h.p3_0 (by omega)) (by omega)) (by omega)) (by omega), cs_other (cs_other (cs_other (cs_other h.p3_1 (by omega)) (by omega)) (by omega)) (by omega), cs_other (cs_other (cs_other (cs_other h.p3_2 (by omega)) (by omega)) (by omega)) (by omega), cs_other (cs_other (cs_other (cs_other h.p3_3 (by omega)) (by omega)) (by omega)) (by omega), cs_other (cs_other (cs_other (cs_other h.p4_0 (by omega)) (by omega)) (by omega)) (by omega), cs_other (cs_other (cs_other (cs_other h.p4_1 (by omega)) (by omega)) (by omega)) (by omega), cs_other (cs_other (cs_other (cs_other h.p4_2 (by omega)) (by omega)) (by omega)) (by omega), cs_other (cs_other (cs_other (cs_other h.p4_3 (by omega)) (by omega)) (by omega)) (by omega), fun o => by simp [go_sem, h.f0 o], fun o => by simp [go_sem, h.f1 o], fun o => by simp [go_sem, h.f4 o], ((((h.bel.setCell (by show w.heap.size ≤ J; omega) _).setCell (by show w.heap.size ≤ J; omega) _).setCell (by show w.heap.size ≤ J; omega) _).setCell (by show w.heap.size ≤ J; omega) _)⟩

set_option maxHeartbeats 8000000 in
theorem SimpRS (q q' : QV) (d d' : QD) (w : World) (h : AllAr w [(q.num, d.num), (q.den, d.den)]) (h' : AllAr w [(q'.num, d'.num), (q'.den, d'.den)]) :
    Calls Try.prog 39 #[.agg #[.bool q.num.g, .slice q.num.a q.num.n q.num.c, .bool q.den.g, .slice q.den.a q.den.n q.den.c], .agg #[.bool q'.num.g, .slice q'.num.a q'.num.n q'.num.c, .bool q'.den.g, .slice q'.den.a q'.den.n q'.den.c]] w (RetQ w (AnsQ (pS d d') (smp (nQ d) (dQ d) (nQ d') (dQ d')).1 (smp (nQ d) (dQ d) (nQ d') (dQ d')).2)) := by
  have H1 := hide h
  have H2 := hide h'
  clear h h'
  cases hg : (gQ d && gQ d')
  · have GB := hide (fun w1 (k : AllAr w1 [(q.num, d.num), (q.den, d.den)]) (k' : AllAr w1 [(q'.num, d'.num), (q'.den, d'.den)]) => bothQS q q' d d' w1 k k')
    rw [hg] at GB
    rw [pS_bad hg]
    clear hg
    have B0 := hide (show Below w.heap.size w (((w.alloc (.cells #[.bool q.num.g, .slice q.num.a q.num.n q.num.c, .bool q.den.g, .slice q.den.a q.den.n q.den.c] 40)).alloc (.cells #[.bool q'.num.g, .slice q'.num.a q'.num.n q'.num.c, .bool q'.den.g, .slice q'.den.a q'.den.n q'.den.c] 40)).alloc (.cells #[.bool false, .slice none 0 0, .bool false, .slice none 0 0] 40)) from ((((Below.refl _ _).alloc (by simp) _).alloc (by simp) _).alloc (by simp <;> omega) _))
    go_enter Try.func39, Try.ntmps39
    go_wp2_with fail
    refine (unhide GB _ ((unhide H1).later (unhide B0)) ((unhide H2).later (unhide B0))).mono ?_
    rintro e w1 ⟨rfl, hb⟩
    have s1 : w.heap.size + 1 + 1 < w1.heap.size := by have := hb.size; simp at this; omega
    have k2_0 : w1.cell? ⟨w.heap.size + 1 + 1, 0, none⟩ = some (.bool false) := cell_later hb (by simp [go_sem])
    have k2_1 : w1.cell? ⟨w.heap.size + 1 + 1, 1, none⟩ = some (.slice none 0 0) := cell_later hb (by simp [go_sem])
    have k2_2 : w1.cell? ⟨w.heap.size + 1 + 1, 2, none⟩ = some (.bool false) := cell_later hb (by simp [go_sem])
    have k2_3 : w1.cell? ⟨w.heap.size + 1 + 1, 3, none⟩ = some (.slice none 0 0) := cell_later hb (by simp [go_sem])
    have z2 : ∀ o, w1.frozen? ⟨w.heap.size + 1 + 1, o, none⟩ = false := fun o => frozen_later hb (by simp) (by simp [go_sem])
    have HB := hide (below_on (unhide B0) hb)
    clear hb
    go_wp2
    refine bodyPost_ret (v := .tuple #[.agg #[.bool false, .slice none 0 0, .bool false, .slice none 0 0], .bool false]) (by simp [results, Try.results39, go_sem, k2_0, k2_1, k2_2, k2_3]) rfl ?_
    exact retQ_fin (v := (⟨⟨false, none, 0, 0⟩, ⟨false, none, 0, 0⟩⟩ : QV)) (d := (⟨⟨false, []⟩, ⟨false, []⟩⟩ : QD)) (R := w.heap.size + 1 + 1) (by omega) (unhide HB) (metQ_but (w5 := w1) (v := (⟨⟨false, none, 0, 0⟩, ⟨false, none, 0, 0⟩⟩ : QV)) (G := w.heap.size + 1 + 1)) (zeroQ _ _ _) (ansQ_none _ _)
  · by_cases c0 : nQ d' * dQ d ≤ nQ d * dQ d'
    · have GB := hide (fun w1 (k : AllAr w1 [(q.num, d.num), (q.den, d.den)]) (k' : AllAr w1 [(q'.num, d'.num), (q'.den, d'.den)]) => bothQS q q' d d' w1 k k')
      rw [hg] at GB
      have hgs : gQ d = true ∧ gQ d' = true := by revert hg; cases gQ d <;> cases gQ d' <;> simp
      have J1 := hide (isGood_of (unhide H1) hgs.1)
      have J2 := hide (isGood_of (unhide H2) hgs.2)
      have t1 : decide (0 ≤ cmpZ (nQ d * dQ d') (nQ d' * dQ d)) = true := cmpZ_ge1 c0
      rw [pS_none (smp_no c0)]
      clear hg hgs c0
      have B0 := hide (show Below w.heap.size w (((w.alloc (.cells #[.bool q.num.g, .slice q.num.a q.num.n q.num.c, .bool q.den.g, .slice q.den.a q.den.n q.den.c] 40)).alloc (.cells #[.bool q'.num.g, .slice q'.num.a q'.num.n q'.num.c, .bool q'.den.g, .slice q'.den.a q'.den.n q'.den.c] 40)).alloc (.cells #[.bool false, .slice none 0 0, .bool false, .slice none 0 0] 40)) from ((((Below.refl _ _).alloc (by simp) _).alloc (by simp) _).alloc (by simp <;> omega) _))
      go_enter Try.func39, Try.ntmps39
      go_wp2_with fail
      refine (unhide GB _ ((unhide H1).later (unhide B0)) ((unhide H2).later (unhide B0))).mono ?_
      rintro e w1 ⟨rfl, hb⟩
      have s1 : w.heap.size + 1 + 1 < w1.heap.size := by have := hb.size; simp at this; omega
      have k0_0 : w1.cell? ⟨w.heap.size, 0, none⟩ = some (.bool q.num.g) := cell_later hb (by simp [go_sem])
      have k0_1 : w1.cell? ⟨w.heap.size, 1, none⟩ = some (.slice q.num.a q.num.n q.num.c) := cell_later hb (by simp [go_sem])
      have k0_2 : w1.cell? ⟨w.heap.size, 2, none⟩ = some (.bool q.den.g) := cell_later hb (by simp [go_sem])
      have k0_3 : w1.cell? ⟨w.heap.size, 3, none⟩ = some (.slice q.den.a q.den.n q.den.c) := cell_later hb (by simp [go_sem])
      have k1_0 : w1.cell? ⟨w.heap.size + 1, 0, none⟩ = some (.bool q'.num.g) := cell_later hb (by simp [go_sem])
      have k1_1 : w1.cell? ⟨w.heap.size + 1, 1, none⟩ = some (.slice q'.num.a q'.num.n q'.num.c) := cell_later hb (by simp [go_sem])
      have k1_2 : w1.cell? ⟨w.heap.size + 1, 2, none⟩ = some (.bool q'.den.g) := cell_later hb (by simp [go_sem])
      have k1_3 : w1.cell? ⟨w.heap.size + 1, 3, none⟩ = some (.slice q'.den.a q'.den.n q'.den.c) := cell_later hb (by simp [go_sem])
      have k2_0 : w1.cell? ⟨w.heap.size + 1 + 1, 0, none⟩ = some (.bool false) := cell_later hb (by simp [go_sem])
      have k2_1 : w1.cell? ⟨w.heap.size + 1 + 1, 1, none⟩ = some (.slice none 0 0) := cell_later hb (by simp [go_sem])
      have k2_2 : w1.cell? ⟨w.heap.size + 1 + 1, 2, none⟩ = some (.bool false) := cell_later hb (by simp [go_sem])
      have k2_3 : w1.cell? ⟨w.heap.size + 1 + 1, 3, none⟩ = some (.slice none 0 0) := cell_later hb (by simp [go_sem])
      have z2 : ∀ o, w1.frozen? ⟨w.heap.size + 1 + 1, o, none⟩ = false := fun o => frozen_later hb (by simp) (by simp [go_sem])
      have HB := hide (below_on (unhide B0) hb)
      clear hb
      go_wp2_with fail
      refine (cmpQS q q' _ _ _ _ _ ((unhide J1).is.later (unhide HB)) ((unhide J2).is.later (unhide HB)) ((unhide J1).kn.mono (by omega)) ((unhide J1).kd.mono (by omega)) ((unhide J2).kn.mono (by omega)) ((unhide J2).kd.mono (by omega))).mono ?_
      rintro e w2 ⟨rfl, hb⟩
      have s2 := hb.size
      replace z2 := fun o => frozen_later hb (World.block_lt_of_cell? _ _ k2_0) (z2 o)
      replace k2_0 := cell_later hb k2_0
      replace k2_1 := cell_later hb k2_1
      replace k2_2 := cell_later hb k2_2
      replace k2_3 := cell_later hb k2_3
      clear k0_0 k0_1 k0_2 k0_3 k1_0 k1_1 k1_2 k1_3
      replace HB := hide (below_on (unhide HB) hb)
      clear hb
      go_wp2
      refine bodyPost_ret (v := .tuple #[.agg #[.bool false, .slice none 0 0, .bool false, .slice none 0 0], .bool false]) (by simp [results, Try.results39, go_sem, k2_0, k2_1, k2_2, k2_3]) rfl ?_
      exact retQ_fin (v := (⟨⟨false, none, 0, 0⟩, ⟨false, none, 0, 0⟩⟩ : QV)) (d := (⟨⟨false, []⟩, ⟨false, []⟩⟩ : QD)) (R := w.heap.size + 1 + 1) (by omega) (unhide HB) (metQ_but (w5 := w2) (v := (⟨⟨false, none, 0, 0⟩, ⟨false, none, 0, 0⟩⟩ : QV)) (G := w.heap.size + 1 + 1)) (zeroQ _ _ _) (ansQ_none _ _)
    · by_cases c1 : ((nQ d / dQ d) + 1) * dQ d' < nQ d' * 1
      · have GB := hide (fun w1 (k : AllAr w1 [(q.num, d.num), (q.den, d.den)]) (k' : AllAr w1 [(q'.num, d'.num), (q'.den, d'.den)]) => bothQS q q' d d' w1 k k')
        rw [hg] at GB
        have hgs : gQ d = true ∧ gQ d' = true := by revert hg; cases gQ d <;> cases gQ d' <;> simp
        have J1 := hide (isGood_of (unhide H1) hgs.1)
        have J2 := hide (isGood_of (unhide H2) hgs.2)
        have t1 : decide (0 ≤ cmpZ (nQ d * dQ d') (nQ d' * dQ d)) = false := cmpZ_ge0 c0
        have t2 : decide (cmpZ (((nQ d / dQ d) + 1) * dQ d') (nQ d') < 0) = true := by have := cmpZ_lt1 c1; rw [Int.mul_one] at this; exact this
        have SE := hide (smp_next c0 c1)
        have HG := hide hg
        have BF := hide (floor_bd (unhide J1).pos (unhide J1).kn)
        clear hg hgs c0 c1
        have B0 := hide (show Below w.heap.size w (((w.alloc (.cells #[.bool q.num.g, .slice q.num.a q.num.n q.num.c, .bool q.den.g, .slice q.den.a q.den.n q.den.c] 40)).alloc (.cells #[.bool q'.num.g, .slice q'.num.a q'.num.n q'.num.c, .bool q'.den.g, .slice q'.den.a q'.den.n q'.den.c] 40)).alloc (.cells #[.bool false, .slice none 0 0, .bool false, .slice none 0 0] 40)) from ((((Below.refl _ _).alloc (by simp) _).alloc (by simp) _).alloc (by simp <;> omega) _))
        go_enter Try.func39, Try.ntmps39
        go_wp2_with fail
        refine (unhide GB _ ((unhide H1).later (unhide B0)) ((unhide H2).later (unhide B0))).mono ?_
        rintro e w1 ⟨rfl, hb⟩
        have s1 : w.heap.size + 1 + 1 < w1.heap.size := by have := hb.size; simp at this; omega
        have k0_0 : w1.cell? ⟨w.heap.size, 0, none⟩ = some (.bool q.num.g) := cell_later hb (by simp [go_sem])
        have k0_1 : w1.cell? ⟨w.heap.size, 1, none⟩ = some (.slice q.num.a q.num.n q.num.c) := cell_later hb (by simp [go_sem])
        have k0_2 : w1.cell? ⟨w.heap.size, 2, none⟩ = some (.bool q.den.g) := cell_later hb (by simp [go_sem])
        have k0_3 : w1.cell? ⟨w.heap.size, 3, none⟩ = some (.slice q.den.a q.den.n q.den.c) := cell_later hb (by simp [go_sem])
        have k1_0 : w1.cell? ⟨w.heap.size + 1, 0, none⟩ = some (.bool q'.num.g) := cell_later hb (by simp [go_sem])
        have k1_1 : w1.cell? ⟨w.heap.size + 1, 1, none⟩ = some (.slice q'.num.a q'.num.n q'.num.c) := cell_later hb (by simp [go_sem])
        have k1_2 : w1.cell? ⟨w.heap.size + 1, 2, none⟩ = some (.bool q'.den.g) := cell_later hb (by simp [go_sem])
        have k1_3 : w1.cell? ⟨w.heap.size + 1, 3, none⟩ = some (.slice q'.den.a q'.den.n q'.den.c) := cell_later hb (by simp [go_sem])
        have k2_0 : w1.cell? ⟨w.heap.size + 1 + 1, 0, none⟩ = some (.bool false) := cell_later hb (by simp [go_sem])
        have k2_1 : w1.cell? ⟨w.heap.size + 1 + 1, 1, none⟩ = some (.slice none 0 0) := cell_later hb (by simp [go_sem])
        have k2_2 : w1.cell? ⟨w.heap.size + 1 + 1, 2, none⟩ = some (.bool false) := cell_later hb (by simp [go_sem])
        have k2_3 : w1.cell? ⟨w.heap.size + 1 + 1, 3, none⟩ = some (.slice none 0 0) := cell_later hb (by simp [go_sem])
        have z2 : ∀ o, w1.frozen? ⟨w.heap.size + 1 + 1, o, none⟩ = false := fun o => frozen_later hb (by simp) (by simp [go_sem])
        have HB := hide (below_on (unhide B0) hb)
        clear hb
        have QA := hide ((unhide J1).is.later (unhide HB))
        have QB := hide ((unhide J2).is.later (unhide HB))
        go_wp2_with fail
        refine (cmpQS q q' _ _ _ _ _ (unhide QA) (unhide QB) ((unhide J1).kn.mono (by omega)) ((unhide J1).kd.mono (by omega)) ((unhide J2).kn.mono (by omega)) ((unhide J2).kd.mono (by omega))).mono ?_
        rintro e w2 ⟨rfl, hb⟩
        have s2 := hb.size
        replace z2 := fun o => frozen_later hb (World.block_lt_of_cell? _ _ k2_0) (z2 o)
        replace k0_0 := cell_later hb k0_0
        replace k0_1 := cell_later hb k0_1
        replace k0_2 := cell_later hb k0_2
        replace k0_3 := cell_later hb k0_3
        replace k1_0 := cell_later hb k1_0
        replace k1_1 := cell_later hb k1_1
        replace k1_2 := cell_later hb k1_2
        replace k1_3 := cell_later hb k1_3
        replace k2_0 := cell_later hb k2_0
        replace k2_1 := cell_later hb k2_1
        replace k2_2 := cell_later hb k2_2
        replace k2_3 := cell_later hb k2_3
        replace QA := hide ((unhide QA).later hb)
        replace QB := hide ((unhide QB).later hb)
        replace HB := hide (below_on (unhide HB) hb)
        clear hb
        go_wp2_with fail
        refine (floorS q _ _ _ (unhide QA) (unhide J1).pos ((unhide J1).kn.mono (by omega)) ((unhide J1).kd.mono (by omega))).mono ?_
        rintro e w3 ⟨xf, lf, rfl, hb, of, af, nf⟩
        have s3 := hb.size
        replace z2 := fun o => frozen_later hb (World.block_lt_of_cell? _ _ k2_0) (z2 o)
        replace k0_0 := cell_later hb k0_0
        replace k0_1 := cell_later hb k0_1
        replace k0_2 := cell_later hb k0_2
        replace k0_3 := cell_later hb k0_3
        replace k1_0 := cell_later hb k1_0
        replace k1_1 := cell_later hb k1_1
        replace k1_2 := cell_later hb k1_2
        replace k1_3 := cell_later hb k1_3
        replace k2_0 := cell_later hb k2_0
        replace k2_1 := cell_later hb k2_1
        replace k2_2 := cell_later hb k2_2
        replace k2_3 := cell_later hb k2_3
        replace QA := hide ((unhide QA).later hb)
        replace QB := hide ((unhide QB).later hb)
        have OF := hide (outN_ow of af nf)
        replace HB := hide (below_on (unhide HB) hb)
        clear hb
        clear of af nf
        go_wp2_with fail
        refine (ofS_v 1 _ (by omega) (by omega)).mono ?_
        rintro e w4 ⟨y1, ly1, rfl, hb, oy, ay, ny⟩
        have s4 := hb.size
        replace z2 := fun o => frozen_later hb (World.block_lt_of_cell? _ _ k2_0) (z2 o)
        replace k0_0 := cell_later hb k0_0
        replace k0_1 := cell_later hb k0_1
        replace k0_2 := cell_later hb k0_2
        replace k0_3 := cell_later hb k0_3
        replace k1_0 := cell_later hb k1_0
        replace k1_1 := cell_later hb k1_1
        replace k1_2 := cell_later hb k1_2
        replace k1_3 := cell_later hb k1_3
        replace k2_0 := cell_later hb k2_0
        replace k2_1 := cell_later hb k2_1
        replace k2_2 := cell_later hb k2_2
        replace k2_3 := cell_later hb k2_3
        replace QA := hide ((unhide QA).later hb)
        replace QB := hide ((unhide QB).later hb)
        replace OF := hide ((unhide OF).later hb)
        have OY := hide (outN_ow oy ay ny)
        replace HB := hide (below_on (unhide HB) hb)
        clear hb
        clear oy ay ny
        go_upto_region 4 with fail
        have hb : Below w4.heap.size w4 (w4.alloc (.cells #[.bool xf.g, .slice xf.a xf.n xf.c, .bool y1.g, .slice y1.a y1.n y1.c] 40)) := ((Below.refl _ _).alloc (by simp) _)
        replace k0_0 : (w4.alloc (.cells #[.bool xf.g, .slice xf.a xf.n xf.c, .bool y1.g, .slice y1.a y1.n y1.c] 40)).cell? ⟨w.heap.size, 0, none⟩ = some (.bool q.num.g) := (ca_other k0_0)
        replace k0_1 : (w4.alloc (.cells #[.bool xf.g, .slice xf.a xf.n xf.c, .bool y1.g, .slice y1.a y1.n y1.c] 40)).cell? ⟨w.heap.size, 1, none⟩ = some (.slice q.num.a q.num.n q.num.c) := (ca_other k0_1)
        replace k0_2 : (w4.alloc (.cells #[.bool xf.g, .slice xf.a xf.n xf.c, .bool y1.g, .slice y1.a y1.n y1.c] 40)).cell? ⟨w.heap.size, 2, none⟩ = some (.bool q.den.g) := (ca_other k0_2)
        replace k0_3 : (w4.alloc (.cells #[.bool xf.g, .slice xf.a xf.n xf.c, .bool y1.g, .slice y1.a y1.n y1.c] 40)).cell? ⟨w.heap.size, 3, none⟩ = some (.slice q.den.a q.den.n q.den.c) := (ca_other k0_3)
        replace k1_0 : (w4.alloc (.cells #[.bool xf.g, .slice xf.a xf.n xf.c, .bool y1.g, .slice y1.a y1.n y1.c] 40)).cell? ⟨w.heap.size + 1, 0, none⟩ = some (.bool q'.num.g) := (ca_other k1_0)
        replace k1_1 : (w4.alloc (.cells #[.bool xf.g, .slice xf.a xf.n xf.c, .bool y1.g, .slice y1.a y1.n y1.c] 40)).cell? ⟨w.heap.size + 1, 1, none⟩ = some (.slice q'.num.a q'.num.n q'.num.c) := (ca_other k1_1)
        replace k1_2 : (w4.alloc (.cells #[.bool xf.g, .slice xf.a xf.n xf.c, .bool y1.g, .slice y1.a y1.n y1.c] 40)).cell? ⟨w.heap.size + 1, 2, none⟩ = some (.bool q'.den.g) := (ca_other k1_2)
        replace k1_3 : (w4.alloc (.cells #[.bool xf.g, .slice xf.a xf.n xf.c, .bool y1.g, .slice y1.a y1.n y1.c] 40)).cell? ⟨w.heap.size + 1, 3, none⟩ = some (.slice q'.den.a q'.den.n q'.den.c) := (ca_other k1_3)
        replace k2_0 : (w4.alloc (.cells #[.bool xf.g, .slice xf.a xf.n xf.c, .bool y1.g, .slice y1.a y1.n y1.c] 40)).cell? ⟨w.heap.size + 1 + 1, 0, none⟩ = some (.bool false) := (ca_other k2_0)
        replace k2_1 : (w4.alloc (.cells #[.bool xf.g, .slice xf.a xf.n xf.c, .bool y1.g, .slice y1.a y1.n y1.c] 40)).cell? ⟨w.heap.size + 1 + 1, 1, none⟩ = some (.slice none 0 0) := (ca_other k2_1)
        replace k2_2 : (w4.alloc (.cells #[.bool xf.g, .slice xf.a xf.n xf.c, .bool y1.g, .slice y1.a y1.n y1.c] 40)).cell? ⟨w.heap.size + 1 + 1, 2, none⟩ = some (.bool false) := (ca_other k2_2)
        replace k2_3 : (w4.alloc (.cells #[.bool xf.g, .slice xf.a xf.n xf.c, .bool y1.g, .slice y1.a y1.n y1.c] 40)).cell? ⟨w.heap.size + 1 + 1, 3, none⟩ = some (.slice none 0 0) := (ca_other k2_3)
        have k3_0 : (w4.alloc (.cells #[.bool xf.g, .slice xf.a xf.n xf.c, .bool y1.g, .slice y1.a y1.n y1.c] 40)).cell? ⟨w4.heap.size, 0, none⟩ = some (.bool xf.g) := by simp [go_sem]
        have k3_1 : (w4.alloc (.cells #[.bool xf.g, .slice xf.a xf.n xf.c, .bool y1.g, .slice y1.a y1.n y1.c] 40)).cell? ⟨w4.heap.size, 1, none⟩ = some (.slice xf.a xf.n xf.c) := by simp [go_sem]
        have k3_2 : (w4.alloc (.cells #[.bool xf.g, .slice xf.a xf.n xf.c, .bool y1.g, .slice y1.a y1.n y1.c] 40)).cell? ⟨w4.heap.size, 2, none⟩ = some (.bool y1.g) := by simp [go_sem]
        have k3_3 : (w4.alloc (.cells #[.bool xf.g, .slice xf.a xf.n xf.c, .bool y1.g, .slice y1.a y1.n y1.c] 40)).cell? ⟨w4.heap.size, 3, none⟩ = some (.slice y1.a y1.n y1.c) := by simp [go_sem]
        replace z2 : ∀ o, (w4.alloc (.cells #[.bool xf.g, .slice xf.a xf.n xf.c, .bool y1.g, .slice y1.a y1.n y1.c] 40)).frozen? ⟨w.heap.size + 1 + 1, o, none⟩ = false := fun o => frozen_later hb (by omega) (z2 o)
        have z3 : ∀ o, (w4.alloc (.cells #[.bool xf.g, .slice xf.a xf.n xf.c, .bool y1.g, .slice y1.a y1.n y1.c] 40)).frozen? ⟨w4.heap.size, o, none⟩ = false := fun o => by simp [go_sem]
        replace QA := hide ((unhide QA).later hb)
        replace QB := hide ((unhide QB).later hb)
        replace OF := hide ((unhide OF).later hb)
        replace OY := hide ((unhide OY).later hb)
        replace HB := hide (below_on (unhide HB) hb)
        have szw5 := hb.size
        clear hb
        generalize (w4.alloc (.cells #[.bool xf.g, .slice xf.a xf.n xf.c, .bool y1.g, .slice y1.a y1.n y1.c] 40)) = w5 at *
        have lt6 : w4.heap.size < w5.heap.size := World.block_lt_of_cell? _ _ k3_0
        go_cut [7] (fun p wx => ∃ (G : Nat) (x : QV), p = .pointer (some ⟨G, 0, none⟩) ∧ Hid (BxH w4.heap.size w5 wx G x ((nQ d / dQ d) + 1) 1))
        case first =>
          go_region_held3 (fun w' => w'.cell? ⟨w4.heap.size, 0, none⟩ = some (.bool xf.g) ∧ w'.cell? ⟨w4.heap.size, 1, none⟩ = some (.slice xf.a xf.n xf.c) ∧ w'.cell? ⟨w4.heap.size, 2, none⟩ = some (.bool y1.g) ∧ w'.cell? ⟨w4.heap.size, 3, none⟩ = some (.slice y1.a y1.n y1.c)) (with_reducible (first | exact ⟨k3_0, k3_1, k3_2, k3_3⟩ | exact ⟨cd_other k3_0, cd_other k3_1, cd_other k3_2, cd_other k3_3⟩ | exact ⟨ca_other k3_0, ca_other k3_1, ca_other k3_2, ca_other k3_3⟩ | exact ⟨cd_other (ca_other k3_0), cd_other (ca_other k3_1), cd_other (ca_other k3_2), cd_other (ca_other k3_3)⟩ | exact ⟨cs_other (cs_other (cs_other (cs_other (k3_0) (by omega)) (by omega)) (by omega)) (by omega), cs_other (cs_other (cs_other (cs_other (k3_1) (by omega)) (by omega)) (by omega)) (by omega), cs_other (cs_other (cs_other (cs_other (k3_2) (by omega)) (by omega)) (by omega)) (by omega), cs_other (cs_other (cs_other (cs_other (k3_3) (by omega)) (by omega)) (by omega)) (by omega)⟩ | fail))
            (first
            | (go_at_call 89; refine (wholeS 1 _ (by omega) (by omega)).mono ?_; rintro e wa ⟨o1, lo1, mo1, rfl, hb, oo, ao, m1, m2⟩; have hbx : Below w5.heap.size w5 wa := (by first | exact below_of_drew hb | exact bad hb); have szwa := hbx.size; replace z2 := fun o => frozen_later hbx (World.block_lt_of_cell? _ _ k2_0) (z2 o); replace z3 := fun o => frozen_later hbx (World.block_lt_of_cell? _ _ k3_0) (z3 o); replace k0_0 := cell_later hbx k0_0; replace k0_1 := cell_later hbx k0_1; replace k0_2 := cell_later hbx k0_2; replace k0_3 := cell_later hbx k0_3; replace k1_0 := cell_later hbx k1_0; replace k1_1 := cell_later hbx k1_1; replace k1_2 := cell_later hbx k1_2; replace k1_3 := cell_later hbx k1_3; replace k2_0 := cell_later hbx k2_0; replace k2_1 := cell_later hbx k2_1; replace k2_2 := cell_later hbx k2_2; replace k2_3 := cell_later hbx k2_3; replace k3_0 := cell_later hbx k3_0; replace k3_1 := cell_later hbx k3_1; replace k3_2 := cell_later hbx k3_2; replace k3_3 := cell_later hbx k3_3; replace QA := hide ((unhide QA).later hbx); replace QB := hide ((unhide QB).later hbx); replace OF := hide ((unhide OF).later hbx); replace OY := hide ((unhide OY).later hbx); have OQ1 := hide (isQ_of ao m1 m2); (try (replace gf := fun o => frozen_later hbx (World.block_lt_of_cell? _ _ g0) (gf o); replace g0 := cell_later hbx g0; replace g1 := cell_later hbx g1; replace g2 := cell_later hbx g2; replace g3 := cell_later hbx g3)); (try (refine cutP (p := wa.cell? ⟨w5.heap.size, 0, none⟩ = some (.bool false) ∧ wa.cell? ⟨w5.heap.size, 1, none⟩ = some (.slice none 0 0) ∧ wa.cell? ⟨w5.heap.size, 2, none⟩ = some (.bool false) ∧ wa.cell? ⟨w5.heap.size, 3, none⟩ = some (.slice none 0 0) ∧ ∀ o, wa.frozen? ⟨w5.heap.size, o, none⟩ = false) ?_ (fun dd => ?_); (focus (refine ⟨cell_later hb ?_, cell_later hb ?_, cell_later hb ?_, cell_later hb ?_, fun o => frozen_later hb ?_ ?_⟩ <;> (simp [go_sem]; done))); obtain ⟨g0, g1, g2, g3, gf⟩ := dd)); have zz := hb.size; (try simp at zz); have HBr := hide hbx; clear hbx hb oo ao m1 m2)
            | (go_at_call 94; refine (addQS ⟨xf, y1⟩ o1 (nQ d / dQ d) 1 1 1 _ ?_ ?_ (by decide) ((unhide BF).mono (by omega)) (one_bd2 (by omega)) (one_bd2 (by omega)) (one_bd2 (by omega))).mono ?_; (first | exact (isQ_pair (unhide OF).is (unhide OY).is).later (Below.refl _ _) | exact (isQ_pair (unhide OF).is (unhide OY).is).later ((Below.refl _ _).alloc (Nat.le_refl _) _)); (first | exact (unhide OQ1).later (Below.refl _ _) | exact (unhide OQ1).later ((Below.refl _ _).alloc (Nat.le_refl _) _)); rintro e wb ⟨r, rfl, hb, or1, or2⟩; have hbx : Below wa.heap.size wa wb := (by first | exact hb | exact ba hb); have szwb := hbx.size; replace z2 := fun o => frozen_later hbx (World.block_lt_of_cell? _ _ k2_0) (z2 o); replace z3 := fun o => frozen_later hbx (World.block_lt_of_cell? _ _ k3_0) (z3 o); replace k0_0 := cell_later hbx k0_0; replace k0_1 := cell_later hbx k0_1; replace k0_2 := cell_later hbx k0_2; replace k0_3 := cell_later hbx k0_3; replace k1_0 := cell_later hbx k1_0; replace k1_1 := cell_later hbx k1_1; replace k1_2 := cell_later hbx k1_2; replace k1_3 := cell_later hbx k1_3; replace k2_0 := cell_later hbx k2_0; replace k2_1 := cell_later hbx k2_1; replace k2_2 := cell_later hbx k2_2; replace k2_3 := cell_later hbx k2_3; replace k3_0 := cell_later hbx k3_0; replace k3_1 := cell_later hbx k3_1; replace k3_2 := cell_later hbx k3_2; replace k3_3 := cell_later hbx k3_3; replace QA := hide ((unhide QA).later hbx); replace QB := hide ((unhide QB).later hbx); replace OF := hide ((unhide OF).later hbx); replace OY := hide ((unhide OY).later hbx); replace OQ1 := hide ((unhide OQ1).later hbx); have le := low_next (nQ d / dQ d); rw [le.1] at or1; rw [le.2] at or2; clear le; have Px1 := hide (or1); have Px2 := hide (or2); (try (replace gf := fun o => frozen_later hbx (World.block_lt_of_cell? _ _ g0) (gf o); replace g0 := cell_later hbx g0; replace g1 := cell_later hbx g1; replace g2 := cell_later hbx g2; replace g3 := cell_later hbx g3)); (try (refine cutP (p := wb.cell? ⟨wa.heap.size, 0, none⟩ = some (.bool false) ∧ wb.cell? ⟨wa.heap.size, 1, none⟩ = some (.slice none 0 0) ∧ wb.cell? ⟨wa.heap.size, 2, none⟩ = some (.bool false) ∧ wb.cell? ⟨wa.heap.size, 3, none⟩ = some (.slice none 0 0) ∧ ∀ o, wb.frozen? ⟨wa.heap.size, o, none⟩ = false) ?_ (fun dd => ?_); (focus (refine ⟨cell_later hb ?_, cell_later hb ?_, cell_later hb ?_, cell_later hb ?_, fun o => frozen_later hb ?_ ?_⟩ <;> (simp [go_sem]; done))); obtain ⟨g0, g1, g2, g3, gf⟩ := dd)); have zz := hb.size; (try simp at zz); have HBr := hide (below_on (unhide HBr) hbx); clear hbx hb or1 or2))
          all_goals go_wp2_with fail
          all_goals go_meet
          all_goals first
            | (with_reducible refine ⟨_, r, rfl, hide (bxH_alloc (x := r) 40 (unhide HBr) (unhide Px1) (unhide Px2) ?_)⟩ <;> first | omega | (simp; done) | (simp; omega))
            | (with_reducible refine ⟨_, r, rfl, hide (bxH_set (x := r) (unhide HBr) (unhide Px1) (unhide Px2) ?_ ?_ ?_ g0 g1 g2 g3 gf)⟩ <;> first | omega | (simp; done) | (simp; omega))
        case rest =>
          obtain ⟨J, xJ, rfl, HJ⟩ := hcut
          have hb := (unhide HJ).bel
          have szJ := hb.size
          have loJ := (unhide HJ).lo
          have hiJ := (unhide HJ).hi
          replace z2 := fun o => frozen_later hb (World.block_lt_of_cell? _ _ k2_0) (z2 o)
          replace z3 := fun o => frozen_later hb (World.block_lt_of_cell? _ _ k3_0) (z3 o)
          replace k0_0 := cell_later hb k0_0
          replace k0_1 := cell_later hb k0_1
          replace k0_2 := cell_later hb k0_2
          replace k0_3 := cell_later hb k0_3
          replace k1_0 := cell_later hb k1_0
          replace k1_1 := cell_later hb k1_1
          replace k1_2 := cell_later hb k1_2
          replace k1_3 := cell_later hb k1_3
          replace k2_0 := cell_later hb k2_0
          replace k2_1 := cell_later hb k2_1
          replace k2_2 := cell_later hb k2_2
          replace k2_3 := cell_later hb k2_3
          replace k3_0 := cell_later hb k3_0
          replace k3_1 := cell_later hb k3_1
          replace k3_2 := cell_later hb k3_2
          replace k3_3 := cell_later hb k3_3
          replace QA := hide ((unhide QA).later hb)
          replace QB := hide ((unhide QB).later hb)
          replace OF := hide ((unhide OF).later hb)
          replace OY := hide ((unhide OY).later hb)
          have IJ := hide ((unhide HJ).is)
          replace HB := hide (below_on (unhide HB) hb)
          clear hb
          have k4_0 := (unhide HJ).c0
          have k4_1 := (unhide HJ).c1
          have k4_2 := (unhide HJ).c2
          have k4_3 := (unhide HJ).c3
          have z4 := (unhide HJ).fz
          clear HJ
          obtain ⟨w6, hw6⟩ : ∃ x, x = wc := ⟨_, rfl⟩
          subst hw6
          go_wp2_with fail
          refine (cmpQS xJ q' _ _ _ _ _ (unhide IJ).is (unhide QB) (((unhide BF).add (one_bd2 (by omega))).mono (by omega)) (one_bd2 (by omega)) ((unhide J2).kn.mono (by omega)) ((unhide J2).kd.mono (by omega))).mono ?_
          rintro e w7 ⟨rfl, hb⟩
          have s7 := hb.size
          replace z2 := fun o => frozen_later hb (World.block_lt_of_cell? _ _ k2_0) (z2 o)
          replace k4_0 := cell_later hb k4_0
          replace k4_1 := cell_later hb k4_1
          replace k4_2 := cell_later hb k4_2
          replace k4_3 := cell_later hb k4_3
          replace k2_0 := cell_later hb k2_0
          replace k2_1 := cell_later hb k2_1
          replace k2_2 := cell_later hb k2_2
          replace k2_3 := cell_later hb k2_3
          clear k0_0 k0_1 k0_2 k0_3 k1_0 k1_1 k1_2 k1_3 k3_0 k3_1 k3_2 k3_3
          clear z3 z4
          replace QA := hide ((unhide QA).later hb)
          replace QB := hide ((unhide QB).later hb)
          replace OF := hide ((unhide OF).later hb)
          replace OY := hide ((unhide OY).later hb)
          replace IJ := hide ((unhide IJ).later hb)
          replace HB := hide (below_on (unhide HB) hb)
          clear hb
          go_wp2_with fail
          refine (fitsQS xJ _ _ _ (unhide IJ).is (by decide)).mono ?_
          rintro e w8 ⟨v, dv, ok, rfl, hb, ov, hu⟩
          have s8 := hb.size
          have UU : Hid (AnsQ (pS d d') (smp (nQ d) (dQ d) (nQ d') (dQ d')).1 (smp (nQ d) (dQ d) (nQ d') (dQ d')).2 dv ok) := hide (by have e := unhide SE; rw [pS_some (unhide HG) (by rw [e]; show (1 : Int) ≠ 0; decide), e]; exact hu)
          replace z2 := fun o => frozen_later hb (World.block_lt_of_cell? _ _ k2_0) (z2 o)
          replace k2_0 := cell_later hb k2_0
          replace k2_1 := cell_later hb k2_1
          replace k2_2 := cell_later hb k2_2
          replace k2_3 := cell_later hb k2_3
          clear k4_0 k4_1 k4_2 k4_3
          replace QA := hide ((unhide QA).later hb)
          replace QB := hide ((unhide QB).later hb)
          replace OF := hide ((unhide OF).later hb)
          replace OY := hide ((unhide OY).later hb)
          replace IJ := hide ((unhide IJ).later hb)
          have OV := hide (ov)
          replace HB := hide (below_on (unhide HB) hb)
          clear hb
          clear ov hu
          go_wp2
          refine bodyPost_ret (v := .tuple #[.agg #[.bool v.num.g, .slice v.num.a v.num.n v.num.c, .bool v.den.g, .slice v.den.a v.den.n v.den.c], .bool ok]) (by simp [results, Try.results39, go_sem, k2_0, k2_1, k2_2, k2_3]) rfl ?_
          exact retQ_fin (v := v) (d := dv) (R := w.heap.size + 1 + 1) (by omega) (unhide HB) (metQ_but (w5 := w8) (v := v) (G := w.heap.size + 1 + 1)) ((unhide OV).wide (by omega) (by omega)) (unhide UU)
      · have GB := hide (fun w1 (k : AllAr w1 [(q.num, d.num), (q.den, d.den)]) (k' : AllAr w1 [(q'.num, d'.num), (q'.den, d'.den)]) => bothQS q q' d d' w1 k k')
        rw [hg] at GB
        have hgs : gQ d = true ∧ gQ d' = true := by revert hg; cases gQ d <;> cases gQ d' <;> simp
        have J1 := hide (isGood_of (unhide H1) hgs.1)
        have J2 := hide (isGood_of (unhide H2) hgs.2)
        have t1 : decide (0 ≤ cmpZ (nQ d * dQ d') (nQ d' * dQ d)) = false := cmpZ_ge0 c0
        have t2 : decide (cmpZ (((nQ d / dQ d) + 1) * dQ d') (nQ d') < 0) = false := by have := cmpZ_lt0 c1; rw [Int.mul_one] at this; exact this
        have SE := hide (smp_mid c0 c1)
        have HG := hide hg
        have BF := hide (floor_bd (unhide J1).pos (unhide J1).kn)
        clear hg hgs c0 c1
        have B0 := hide (show Below w.heap.size w (((w.alloc (.cells #[.bool q.num.g, .slice q.num.a q.num.n q.num.c, .bool q.den.g, .slice q.den.a q.den.n q.den.c] 40)).alloc (.cells #[.bool q'.num.g, .slice q'.num.a q'.num.n q'.num.c, .bool q'.den.g, .slice q'.den.a q'.den.n q'.den.c] 40)).alloc (.cells #[.bool false, .slice none 0 0, .bool false, .slice none 0 0] 40)) from ((((Below.refl _ _).alloc (by simp) _).alloc (by simp) _).alloc (by simp <;> omega) _))
        go_enter Try.func39, Try.ntmps39
        go_wp2_with fail
        refine (unhide GB _ ((unhide H1).later (unhide B0)) ((unhide H2).later (unhide B0))).mono ?_
        rintro e w1 ⟨rfl, hb⟩
        have s1 : w.heap.size + 1 + 1 < w1.heap.size := by have := hb.size; simp at this; omega
        have k0_0 : w1.cell? ⟨w.heap.size, 0, none⟩ = some (.bool q.num.g) := cell_later hb (by simp [go_sem])
        have k0_1 : w1.cell? ⟨w.heap.size, 1, none⟩ = some (.slice q.num.a q.num.n q.num.c) := cell_later hb (by simp [go_sem])
        have k0_2 : w1.cell? ⟨w.heap.size, 2, none⟩ = some (.bool q.den.g) := cell_later hb (by simp [go_sem])
        have k0_3 : w1.cell? ⟨w.heap.size, 3, none⟩ = some (.slice q.den.a q.den.n q.den.c) := cell_later hb (by simp [go_sem])
        have k1_0 : w1.cell? ⟨w.heap.size + 1, 0, none⟩ = some (.bool q'.num.g) := cell_later hb (by simp [go_sem])
        have k1_1 : w1.cell? ⟨w.heap.size + 1, 1, none⟩ = some (.slice q'.num.a q'.num.n q'.num.c) := cell_later hb (by simp [go_sem])
        have k1_2 : w1.cell? ⟨w.heap.size + 1, 2, none⟩ = some (.bool q'.den.g) := cell_later hb (by simp [go_sem])
        have k1_3 : w1.cell? ⟨w.heap.size + 1, 3, none⟩ = some (.slice q'.den.a q'.den.n q'.den.c) := cell_later hb (by simp [go_sem])
        have k2_0 : w1.cell? ⟨w.heap.size + 1 + 1, 0, none⟩ = some (.bool false) := cell_later hb (by simp [go_sem])
        have k2_1 : w1.cell? ⟨w.heap.size + 1 + 1, 1, none⟩ = some (.slice none 0 0) := cell_later hb (by simp [go_sem])
        have k2_2 : w1.cell? ⟨w.heap.size + 1 + 1, 2, none⟩ = some (.bool false) := cell_later hb (by simp [go_sem])
        have k2_3 : w1.cell? ⟨w.heap.size + 1 + 1, 3, none⟩ = some (.slice none 0 0) := cell_later hb (by simp [go_sem])
        have z2 : ∀ o, w1.frozen? ⟨w.heap.size + 1 + 1, o, none⟩ = false := fun o => frozen_later hb (by simp) (by simp [go_sem])
        have HB := hide (below_on (unhide B0) hb)
        clear hb
        have QA := hide ((unhide J1).is.later (unhide HB))
        have QB := hide ((unhide J2).is.later (unhide HB))
        go_wp2_with fail
        refine (cmpQS q q' _ _ _ _ _ (unhide QA) (unhide QB) ((unhide J1).kn.mono (by omega)) ((unhide J1).kd.mono (by omega)) ((unhide J2).kn.mono (by omega)) ((unhide J2).kd.mono (by omega))).mono ?_
        rintro e w2 ⟨rfl, hb⟩
        have s2 := hb.size
        replace z2 := fun o => frozen_later hb (World.block_lt_of_cell? _ _ k2_0) (z2 o)
        replace k0_0 := cell_later hb k0_0
        replace k0_1 := cell_later hb k0_1
        replace k0_2 := cell_later hb k0_2
        replace k0_3 := cell_later hb k0_3
        replace k1_0 := cell_later hb k1_0
        replace k1_1 := cell_later hb k1_1
        replace k1_2 := cell_later hb k1_2
        replace k1_3 := cell_later hb k1_3
        replace k2_0 := cell_later hb k2_0
        replace k2_1 := cell_later hb k2_1
        replace k2_2 := cell_later hb k2_2
        replace k2_3 := cell_later hb k2_3
        replace QA := hide ((unhide QA).later hb)
        replace QB := hide ((unhide QB).later hb)
        replace HB := hide (below_on (unhide HB) hb)
        clear hb
        go_wp2_with fail
        refine (floorS q _ _ _ (unhide QA) (unhide J1).pos ((unhide J1).kn.mono (by omega)) ((unhide J1).kd.mono (by omega))).mono ?_
        rintro e w3 ⟨xf, lf, rfl, hb, of, af, nf⟩
        have s3 := hb.size
        replace z2 := fun o => frozen_later hb (World.block_lt_of_cell? _ _ k2_0) (z2 o)
        replace k0_0 := cell_later hb k0_0
        replace k0_1 := cell_later hb k0_1
        replace k0_2 := cell_later hb k0_2
        replace k0_3 := cell_later hb k0_3
        replace k1_0 := cell_later hb k1_0
        replace k1_1 := cell_later hb k1_1
        replace k1_2 := cell_later hb k1_2
        replace k1_3 := cell_later hb k1_3
        replace k2_0 := cell_later hb k2_0
        replace k2_1 := cell_later hb k2_1
        replace k2_2 := cell_later hb k2_2
        replace k2_3 := cell_later hb k2_3
        replace QA := hide ((unhide QA).later hb)
        replace QB := hide ((unhide QB).later hb)
        have OF := hide (outN_ow of af nf)
        replace HB := hide (below_on (unhide HB) hb)
        clear hb
        clear of af nf
        go_wp2_with fail
        refine (ofS_v 1 _ (by omega) (by omega)).mono ?_
        rintro e w4 ⟨y1, ly1, rfl, hb, oy, ay, ny⟩
        have s4 := hb.size
        replace z2 := fun o => frozen_later hb (World.block_lt_of_cell? _ _ k2_0) (z2 o)
        replace k0_0 := cell_later hb k0_0
        replace k0_1 := cell_later hb k0_1
        replace k0_2 := cell_later hb k0_2
        replace k0_3 := cell_later hb k0_3
        replace k1_0 := cell_later hb k1_0
        replace k1_1 := cell_later hb k1_1
        replace k1_2 := cell_later hb k1_2
        replace k1_3 := cell_later hb k1_3
        replace k2_0 := cell_later hb k2_0
        replace k2_1 := cell_later hb k2_1
        replace k2_2 := cell_later hb k2_2
        replace k2_3 := cell_later hb k2_3
        replace QA := hide ((unhide QA).later hb)
        replace QB := hide ((unhide QB).later hb)
        replace OF := hide ((unhide OF).later hb)
        have OY := hide (outN_ow oy ay ny)
        replace HB := hide (below_on (unhide HB) hb)
        clear hb
        clear oy ay ny
        go_upto_region 4 with fail
        have hb : Below w4.heap.size w4 (w4.alloc (.cells #[.bool xf.g, .slice xf.a xf.n xf.c, .bool y1.g, .slice y1.a y1.n y1.c] 40)) := ((Below.refl _ _).alloc (by simp) _)
        replace k0_0 : (w4.alloc (.cells #[.bool xf.g, .slice xf.a xf.n xf.c, .bool y1.g, .slice y1.a y1.n y1.c] 40)).cell? ⟨w.heap.size, 0, none⟩ = some (.bool q.num.g) := (ca_other k0_0)
        replace k0_1 : (w4.alloc (.cells #[.bool xf.g, .slice xf.a xf.n xf.c, .bool y1.g, .slice y1.a y1.n y1.c] 40)).cell? ⟨w.heap.size, 1, none⟩ = some (.slice q.num.a q.num.n q.num.c) := (ca_other k0_1)
        replace k0_2 : (w4.alloc (.cells #[.bool xf.g, .slice xf.a xf.n xf.c, .bool y1.g, .slice y1.a y1.n y1.c] 40)).cell? ⟨w.heap.size, 2, none⟩ = some (.bool q.den.g) := (ca_other k0_2)
        replace k0_3 : (w4.alloc (.cells #[.bool xf.g, .slice xf.a xf.n xf.c, .bool y1.g, .slice y1.a y1.n y1.c] 40)).cell? ⟨w.heap.size, 3, none⟩ = some (.slice q.den.a q.den.n q.den.c) := (ca_other k0_3)
        replace k1_0 : (w4.alloc (.cells #[.bool xf.g, .slice xf.a xf.n xf.c, .bool y1.g, .slice y1.a y1.n y1.c] 40)).cell? ⟨w.heap.size + 1, 0, none⟩ = some (.bool q'.num.g) := (ca_other k1_0)
        replace k1_1 : (w4.alloc (.cells #[.bool xf.g, .slice xf.a xf.n xf.c, .bool y1.g, .slice y1.a y1.n y1.c] 40)).cell? ⟨w.heap.size + 1, 1, none⟩ = some (.slice q'.num.a q'.num.n q'.num.c) := (ca_other k1_1)
        replace k1_2 : (w4.alloc (.cells #[.bool xf.g, .slice xf.a xf.n xf.c, .bool y1.g, .slice y1.a y1.n y1.c] 40)).cell? ⟨w.heap.size + 1, 2, none⟩ = some (.bool q'.den.g) := (ca_other k1_2)
        replace k1_3 : (w4.alloc (.cells #[.bool xf.g, .slice xf.a xf.n xf.c, .bool y1.g, .slice y1.a y1.n y1.c] 40)).cell? ⟨w.heap.size + 1, 3, none⟩ = some (.slice q'.den.a q'.den.n q'.den.c) := (ca_other k1_3)
        replace k2_0 : (w4.alloc (.cells #[.bool xf.g, .slice xf.a xf.n xf.c, .bool y1.g, .slice y1.a y1.n y1.c] 40)).cell? ⟨w.heap.size + 1 + 1, 0, none⟩ = some (.bool false) := (ca_other k2_0)
        replace k2_1 : (w4.alloc (.cells #[.bool xf.g, .slice xf.a xf.n xf.c, .bool y1.g, .slice y1.a y1.n y1.c] 40)).cell? ⟨w.heap.size + 1 + 1, 1, none⟩ = some (.slice none 0 0) := (ca_other k2_1)
        replace k2_2 : (w4.alloc (.cells #[.bool xf.g, .slice xf.a xf.n xf.c, .bool y1.g, .slice y1.a y1.n y1.c] 40)).cell? ⟨w.heap.size + 1 + 1, 2, none⟩ = some (.bool false) := (ca_other k2_2)
        replace k2_3 : (w4.alloc (.cells #[.bool xf.g, .slice xf.a xf.n xf.c, .bool y1.g, .slice y1.a y1.n y1.c] 40)).cell? ⟨w.heap.size + 1 + 1, 3, none⟩ = some (.slice none 0 0) := (ca_other k2_3)
        have k3_0 : (w4.alloc (.cells #[.bool xf.g, .slice xf.a xf.n xf.c, .bool y1.g, .slice y1.a y1.n y1.c] 40)).cell? ⟨w4.heap.size, 0, none⟩ = some (.bool xf.g) := by simp [go_sem]
        have k3_1 : (w4.alloc (.cells #[.bool xf.g, .slice xf.a xf.n xf.c, .bool y1.g, .slice y1.a y1.n y1.c] 40)).cell? ⟨w4.heap.size, 1, none⟩ = some (.slice xf.a xf.n xf.c) := by simp [go_sem]
        have k3_2 : (w4.alloc (.cells #[.bool xf.g, .slice xf.a xf.n xf.c, .bool y1.g, .slice y1.a y1.n y1.c] 40)).cell? ⟨w4.heap.size, 2, none⟩ = some (.bool y1.g) := by simp [go_sem]
        have k3_3 : (w4.alloc (.cells #[.bool xf.g, .slice xf.a xf.n xf.c, .bool y1.g, .slice y1.a y1.n y1.c] 40)).cell? ⟨w4.heap.size, 3, none⟩ = some (.slice y1.a y1.n y1.c) := by simp [go_sem]
        replace z2 : ∀ o, (w4.alloc (.cells #[.bool xf.g, .slice xf.a xf.n xf.c, .bool y1.g, .slice y1.a y1.n y1.c] 40)).frozen? ⟨w.heap.size + 1 + 1, o, none⟩ = false := fun o => frozen_later hb (by omega) (z2 o)
        have z3 : ∀ o, (w4.alloc (.cells #[.bool xf.g, .slice xf.a xf.n xf.c, .bool y1.g, .slice y1.a y1.n y1.c] 40)).frozen? ⟨w4.heap.size, o, none⟩ = false := fun o => by simp [go_sem]
        replace QA := hide ((unhide QA).later hb)
        replace QB := hide ((unhide QB).later hb)
        replace OF := hide ((unhide OF).later hb)
        replace OY := hide ((unhide OY).later hb)
        replace HB := hide (below_on (unhide HB) hb)
        have szw5 := hb.size
        clear hb
        generalize (w4.alloc (.cells #[.bool xf.g, .slice xf.a xf.n xf.c, .bool y1.g, .slice y1.a y1.n y1.c] 40)) = w5 at *
        have lt6 : w4.heap.size < w5.heap.size := World.block_lt_of_cell? _ _ k3_0
        go_cut [7] (fun p wx => ∃ (G : Nat) (x : QV), p = .pointer (some ⟨G, 0, none⟩) ∧ Hid (BxH w4.heap.size w5 wx G x ((nQ d / dQ d) + 1) 1))
        case first =>
          go_region_held3 (fun w' => w'.cell? ⟨w4.heap.size, 0, none⟩ = some (.bool xf.g) ∧ w'.cell? ⟨w4.heap.size, 1, none⟩ = some (.slice xf.a xf.n xf.c) ∧ w'.cell? ⟨w4.heap.size, 2, none⟩ = some (.bool y1.g) ∧ w'.cell? ⟨w4.heap.size, 3, none⟩ = some (.slice y1.a y1.n y1.c)) (with_reducible (first | exact ⟨k3_0, k3_1, k3_2, k3_3⟩ | exact ⟨cd_other k3_0, cd_other k3_1, cd_other k3_2, cd_other k3_3⟩ | exact ⟨ca_other k3_0, ca_other k3_1, ca_other k3_2, ca_other k3_3⟩ | exact ⟨cd_other (ca_other k3_0), cd_other (ca_other k3_1), cd_other (ca_other k3_2), cd_other (ca_other k3_3)⟩ | exact ⟨cs_other (cs_other (cs_other (cs_other (k3_0) (by omega)) (by omega)) (by omega)) (by omega), cs_other (cs_other (cs_other (cs_other (k3_1) (by omega)) (by omega)) (by omega)) (by omega), cs_other (cs_other (cs_other (cs_other (k3_2) (by omega)) (by omega)) (by omega)) (by omega), cs_other (cs_other (cs_other (cs_other (k3_3) (by omega)) (by omega)) (by omega)) (by omega)⟩ | fail))
            (first
            | (go_at_call 89; refine (wholeS 1 _ (by omega) (by omega)).mono ?_; rintro e wa ⟨o1, lo1, mo1, rfl, hb, oo, ao, m1, m2⟩; have hbx : Below w5.heap.size w5 wa := (by first | exact below_of_drew hb | exact bad hb); have szwa := hbx.size; replace z2 := fun o => frozen_later hbx (World.block_lt_of_cell? _ _ k2_0) (z2 o); replace z3 := fun o => frozen_later hbx (World.block_lt_of_cell? _ _ k3_0) (z3 o); replace k0_0 := cell_later hbx k0_0; replace k0_1 := cell_later hbx k0_1; replace k0_2 := cell_later hbx k0_2; replace k0_3 := cell_later hbx k0_3; replace k1_0 := cell_later hbx k1_0; replace k1_1 := cell_later hbx k1_1; replace k1_2 := cell_later hbx k1_2; replace k1_3 := cell_later hbx k1_3; replace k2_0 := cell_later hbx k2_0; replace k2_1 := cell_later hbx k2_1; replace k2_2 := cell_later hbx k2_2; replace k2_3 := cell_later hbx k2_3; replace k3_0 := cell_later hbx k3_0; replace k3_1 := cell_later hbx k3_1; replace k3_2 := cell_later hbx k3_2; replace k3_3 := cell_later hbx k3_3; replace QA := hide ((unhide QA).later hbx); replace QB := hide ((unhide QB).later hbx); replace OF := hide ((unhide OF).later hbx); replace OY := hide ((unhide OY).later hbx); have OQ1 := hide (isQ_of ao m1 m2); (try (replace gf := fun o => frozen_later hbx (World.block_lt_of_cell? _ _ g0) (gf o); replace g0 := cell_later hbx g0; replace g1 := cell_later hbx g1; replace g2 := cell_later hbx g2; replace g3 := cell_later hbx g3)); (try (refine cutP (p := wa.cell? ⟨w5.heap.size, 0, none⟩ = some (.bool false) ∧ wa.cell? ⟨w5.heap.size, 1, none⟩ = some (.slice none 0 0) ∧ wa.cell? ⟨w5.heap.size, 2, none⟩ = some (.bool false) ∧ wa.cell? ⟨w5.heap.size, 3, none⟩ = some (.slice none 0 0) ∧ ∀ o, wa.frozen? ⟨w5.heap.size, o, none⟩ = false) ?_ (fun dd => ?_); (focus (refine ⟨cell_later hb ?_, cell_later hb ?_, cell_later hb ?_, cell_later hb ?_, fun o => frozen_later hb ?_ ?_⟩ <;> (simp [go_sem]; done))); obtain ⟨g0, g1, g2, g3, gf⟩ := dd)); have zz := hb.size; (try simp at zz); have HBr := hide hbx; clear hbx hb oo ao m1 m2)
            | (go_at_call 94; refine (addQS ⟨xf, y1⟩ o1 (nQ d / dQ d) 1 1 1 _ ?_ ?_ (by decide) ((unhide BF).mono (by omega)) (one_bd2 (by omega)) (one_bd2 (by omega)) (one_bd2 (by omega))).mono ?_; (first | exact (isQ_pair (unhide OF).is (unhide OY).is).later (Below.refl _ _) | exact (isQ_pair (unhide OF).is (unhide OY).is).later ((Below.refl _ _).alloc (Nat.le_refl _) _)); (first | exact (unhide OQ1).later (Below.refl _ _) | exact (unhide OQ1).later ((Below.refl _ _).alloc (Nat.le_refl _) _)); rintro e wb ⟨r, rfl, hb, or1, or2⟩; have hbx : Below wa.heap.size wa wb := (by first | exact hb | exact ba hb); have szwb := hbx.size; replace z2 := fun o => frozen_later hbx (World.block_lt_of_cell? _ _ k2_0) (z2 o); replace z3 := fun o => frozen_later hbx (World.block_lt_of_cell? _ _ k3_0) (z3 o); replace k0_0 := cell_later hbx k0_0; replace k0_1 := cell_later hbx k0_1; replace k0_2 := cell_later hbx k0_2; replace k0_3 := cell_later hbx k0_3; replace k1_0 := cell_later hbx k1_0; replace k1_1 := cell_later hbx k1_1; replace k1_2 := cell_later hbx k1_2; replace k1_3 := cell_later hbx k1_3; replace k2_0 := cell_later hbx k2_0; replace k2_1 := cell_later hbx k2_1; replace k2_2 := cell_later hbx k2_2; replace k2_3 := cell_later hbx k2_3; replace k3_0 := cell_later hbx k3_0; replace k3_1 := cell_later hbx k3_1; replace k3_2 := cell_later hbx k3_2; replace k3_3 := cell_later hbx k3_3; replace QA := hide ((unhide QA).later hbx); replace QB := hide ((unhide QB).later hbx); replace OF := hide ((unhide OF).later hbx); replace OY := hide ((unhide OY).later hbx); replace OQ1 := hide ((unhide OQ1).later hbx); have le := low_next (nQ d / dQ d); rw [le.1] at or1; rw [le.2] at or2; clear le; have Px1 := hide (or1); have Px2 := hide (or2); (try (replace gf := fun o => frozen_later hbx (World.block_lt_of_cell? _ _ g0) (gf o); replace g0 := cell_later hbx g0; replace g1 := cell_later hbx g1; replace g2 := cell_later hbx g2; replace g3 := cell_later hbx g3)); (try (refine cutP (p := wb.cell? ⟨wa.heap.size, 0, none⟩ = some (.bool false) ∧ wb.cell? ⟨wa.heap.size, 1, none⟩ = some (.slice none 0 0) ∧ wb.cell? ⟨wa.heap.size, 2, none⟩ = some (.bool false) ∧ wb.cell? ⟨wa.heap.size, 3, none⟩ = some (.slice none 0 0) ∧ ∀ o, wb.frozen? ⟨wa.heap.size, o, none⟩ = false) ?_ (fun dd => ?_); (focus (refine ⟨cell_later hb ?_, cell_later hb ?_, cell_later hb ?_, cell_later hb ?_, fun o => frozen_later hb ?_ ?_⟩ <;> (simp [go_sem]; done))); obtain ⟨g0, g1, g2, g3, gf⟩ := dd)); have zz := hb.size; (try simp at zz); have HBr := hide (below_on (unhide HBr) hbx); clear hbx hb or1 or2))
          all_goals go_wp2_with fail
          all_goals go_meet
          all_goals first
            | (with_reducible refine ⟨_, r, rfl, hide (bxH_alloc (x := r) 40 (unhide HBr) (unhide Px1) (unhide Px2) ?_)⟩ <;> first | omega | (simp; done) | (simp; omega))
            | (with_reducible refine ⟨_, r, rfl, hide (bxH_set (x := r) (unhide HBr) (unhide Px1) (unhide Px2) ?_ ?_ ?_ g0 g1 g2 g3 gf)⟩ <;> first | omega | (simp; done) | (simp; omega))
        case rest =>
          obtain ⟨J, xJ, rfl, HJ⟩ := hcut
          have hb := (unhide HJ).bel
          have szJ := hb.size
          have loJ := (unhide HJ).lo
          have hiJ := (unhide HJ).hi
          replace z2 := fun o => frozen_later hb (World.block_lt_of_cell? _ _ k2_0) (z2 o)
          replace z3 := fun o => frozen_later hb (World.block_lt_of_cell? _ _ k3_0) (z3 o)
          replace k0_0 := cell_later hb k0_0
          replace k0_1 := cell_later hb k0_1
          replace k0_2 := cell_later hb k0_2
          replace k0_3 := cell_later hb k0_3
          replace k1_0 := cell_later hb k1_0
          replace k1_1 := cell_later hb k1_1
          replace k1_2 := cell_later hb k1_2
          replace k1_3 := cell_later hb k1_3
          replace k2_0 := cell_later hb k2_0
          replace k2_1 := cell_later hb k2_1
          replace k2_2 := cell_later hb k2_2
          replace k2_3 := cell_later hb k2_3
          replace k3_0 := cell_later hb k3_0
          replace k3_1 := cell_later hb k3_1
          replace k3_2 := cell_later hb k3_2
          replace k3_3 := cell_later hb k3_3
          replace QA := hide ((unhide QA).later hb)
          replace QB := hide ((unhide QB).later hb)
          replace OF := hide ((unhide OF).later hb)
          replace OY := hide ((unhide OY).later hb)
          have IJ := hide ((unhide HJ).is)
          replace HB := hide (below_on (unhide HB) hb)
          clear hb
          have k4_0 := (unhide HJ).c0
          have k4_1 := (unhide HJ).c1
          have k4_2 := (unhide HJ).c2
          have k4_3 := (unhide HJ).c3
          have z4 := (unhide HJ).fz
          clear HJ
          obtain ⟨w6, hw6⟩ : ∃ x, x = wc := ⟨_, rfl⟩
          subst hw6
          go_wp2_with fail
          refine (cmpQS xJ q' _ _ _ _ _ (unhide IJ).is (unhide QB) (((unhide BF).add (one_bd2 (by omega))).mono (by omega)) (one_bd2 (by omega)) ((unhide J2).kn.mono (by omega)) ((unhide J2).kd.mono (by omega))).mono ?_
          rintro e w7 ⟨rfl, hb⟩
          have s7 := hb.size
          replace z2 := fun o => frozen_later hb (World.block_lt_of_cell? _ _ k2_0) (z2 o)
          replace z3 := fun o => frozen_later hb (World.block_lt_of_cell? _ _ k3_0) (z3 o)
          replace z4 := fun o => frozen_later hb (World.block_lt_of_cell? _ _ k4_0) (z4 o)
          replace k0_0 := cell_later hb k0_0
          replace k0_1 := cell_later hb k0_1
          replace k0_2 := cell_later hb k0_2
          replace k0_3 := cell_later hb k0_3
          replace k1_0 := cell_later hb k1_0
          replace k1_1 := cell_later hb k1_1
          replace k1_2 := cell_later hb k1_2
          replace k1_3 := cell_later hb k1_3
          replace k2_0 := cell_later hb k2_0
          replace k2_1 := cell_later hb k2_1
          replace k2_2 := cell_later hb k2_2
          replace k2_3 := cell_later hb k2_3
          replace k3_0 := cell_later hb k3_0
          replace k3_1 := cell_later hb k3_1
          replace k3_2 := cell_later hb k3_2
          replace k3_3 := cell_later hb k3_3
          replace k4_0 := cell_later hb k4_0
          replace k4_1 := cell_later hb k4_1
          replace k4_2 := cell_later hb k4_2
          replace k4_3 := cell_later hb k4_3
          replace QA := hide ((unhide QA).later hb)
          replace QB := hide ((unhide QB).later hb)
          replace OF := hide ((unhide OF).later hb)
          replace OY := hide ((unhide OY).later hb)
          replace IJ := hide ((unhide IJ).later hb)
          replace HB := hide (below_on (unhide HB) hb)
          clear hb
          have M0 : Hid (MiS w4.heap.size J w w7 ⟨xf, y1⟩ xJ q q') := hide ⟨k3_0, k3_1, k3_2, k3_3, k4_0, k4_1, k4_2, k4_3, k0_0, k0_1, k0_2, k0_3, k1_0, k1_1, k1_2, k1_3, k2_0, k2_1, k2_2, k2_3, z3, z4, z2, unhide HB⟩
          have QA0 : Hid (IsQ2 w4.heap.size J w7 q (nQ d) (dQ d)) := hide ⟨unhide QA, notB_low (unhide J1).is.1 (by omega) (by omega), notB_low (unhide J1).is.2 (by omega) (by omega)⟩
          have QB0 : Hid (IsQ2 w4.heap.size J w7 q' (nQ d') (dQ d')) := hide ⟨unhide QB, notB_low (unhide J2).is.1 (by omega) (by omega), notB_low (unhide J2).is.2 (by omega) (by omega)⟩
          have QL0 : Hid (IsQ2 w4.heap.size J w7 ⟨xf, y1⟩ (nQ d / dQ d) 1) := hide ⟨⟨(unhide OF).is, (unhide OY).is⟩, notB_own (unhide OF) (.inr (by omega)) (.inr (by omega)), notB_own (unhide OY) (.inr (by omega)) (.inr (by omega))⟩
          have KL0 : Hid ((Bd (nQ d / dQ d) (60 + 0) ∧ Bd 1 (60 + 0)) ∧ (Bd ((nQ d / dQ d) + 1) (60 + 0) ∧ Bd 1 (60 + 0))) := hide ⟨⟨(unhide BF).mono (by omega), one_bd2 (by omega)⟩, ⟨((unhide BF).add (one_bd2 (by omega))).mono (by omega), one_bd2 (by omega)⟩⟩
          have hL : w.heap.size + 1 + 1 < w4.heap.size := by omega
          have hJ : w4.heap.size < J := by omega
          clear QA QB OF OY k0_0 k0_1 k0_2 k0_3 k1_0 k1_1 k1_2 k1_3 k2_0 k2_1 k2_2 k2_3 k3_0 k3_1 k3_2 k3_3 k4_0 k4_1 k4_2 k4_3 z2 z4 z3 HB
          generalize w4.heap.size = L at *
          go_wp2
          go_loopw [8] (fun iv wr => ∃ (i : Nat) (lq hq : QV) (ln ld hn hd : Int), i ≤ 200 ∧ iv = .int .i64 i ∧ 0 < ld ∧ 0 < hd ∧ Hid (midF (200 - i) ln ld hn hd (nQ d) (dQ d) (nQ d') (dQ d') = midF 200 (nQ d / dQ d) 1 ((nQ d / dQ d) + 1) 1 (nQ d) (dQ d) (nQ d') (dQ d')) ∧ Hid (IsQ2 L J wr lq ln ld) ∧ Hid (IsQ2 L J wr hq hn hd) ∧ Hid (IsQ2 L J wr q (nQ d) (dQ d)) ∧ Hid (IsQ2 L J wr q' (nQ d') (dQ d')) ∧ Hid ((Bd ln (60 + i) ∧ Bd ld (60 + i)) ∧ (Bd hn (60 + i) ∧ Bd hd (60 + i))) ∧ Hid (MiS L J w wr lq hq q q')) (fun iv _ => 200 - (intOf iv).toNat)
          case atStart => exact ⟨0, _, _, _, _, _, _, by omega, rfl, by decide, by decide, hide rfl, QL0, IJ, QA0, QB0, KL0, M0⟩
          case round =>
            clear QL0 IJ QA0 QB0 KL0 M0
            obtain ⟨i, lq, hq, ln, ld, hn, hd, hi, rfl, pl, ph, EM, QL, QH, QA, QB, BL, M⟩ := hrel
            have hszJ : J < wr.heap.size := World.block_lt_of_cell? _ _ (unhide M).p1_0
            by_cases hlt : i < 200
            · have hlt' : (i : Int) < 200 := by omega
              have K1 := hide (And.intro ((unhide BL).1.1.mono (show 60 + i ≤ 400000 by omega)) ((unhide BL).2.1.mono (show 60 + i ≤ 400000 by omega)))
              have K2 := hide (And.intro ((unhide BL).1.2.mono (show 60 + i ≤ 400000 by omega)) ((unhide BL).2.2.mono (show 60 + i ≤ 400000 by omega)))
              have BM : Hid (Bd (ln + hn) (60 + (i + 1)) ∧ Bd (ld + hd) (60 + (i + 1))) := hide ⟨((unhide BL).1.1.add (unhide BL).2.1).mono (by omega), ((unhide BL).1.2.add (unhide BL).2.2).mono (by omega)⟩
              have k0_0 := (unhide M).p0_0
              have k0_1 := (unhide M).p0_1
              have k0_2 := (unhide M).p0_2
              have k0_3 := (unhide M).p0_3
              have k1_0 := (unhide M).p1_0
              have k1_1 := (unhide M).p1_1
              have k1_2 := (unhide M).p1_2
              have k1_3 := (unhide M).p1_3
              go_upto_region 10 with fail
              go_cut [9] (fun p wx => ∃ (G : Nat) (x : QV), p = .pointer (some ⟨G, 0, none⟩) ∧ Hid (BxA wr wx G x (ln + hn) (ld + hd)))
              case first =>
                go_region_held3 (fun w' => w'.cell? ⟨L, 0, none⟩ = some (.bool lq.num.g) ∧ w'.cell? ⟨L, 1, none⟩ = some (.slice lq.num.a lq.num.n lq.num.c) ∧ w'.cell? ⟨L, 2, none⟩ = some (.bool lq.den.g) ∧ w'.cell? ⟨L, 3, none⟩ = some (.slice lq.den.a lq.den.n lq.den.c) ∧ w'.cell? ⟨J, 0, none⟩ = some (.bool hq.num.g) ∧ w'.cell? ⟨J, 1, none⟩ = some (.slice hq.num.a hq.num.n hq.num.c) ∧ w'.cell? ⟨J, 2, none⟩ = some (.bool hq.den.g) ∧ w'.cell? ⟨J, 3, none⟩ = some (.slice hq.den.a hq.den.n hq.den.c)) (with_reducible (first | exact ⟨k0_0, k0_1, k0_2, k0_3, k1_0, k1_1, k1_2, k1_3⟩ | exact ⟨cd_other k0_0, cd_other k0_1, cd_other k0_2, cd_other k0_3, cd_other k1_0, cd_other k1_1, cd_other k1_2, cd_other k1_3⟩ | exact ⟨ca_other k0_0, ca_other k0_1, ca_other k0_2, ca_other k0_3, ca_other k1_0, ca_other k1_1, ca_other k1_2, ca_other k1_3⟩ | exact ⟨cd_other (ca_other k0_0), cd_other (ca_other k0_1), cd_other (ca_other k0_2), cd_other (ca_other k0_3), cd_other (ca_other k1_0), cd_other (ca_other k1_1), cd_other (ca_other k1_2), cd_other (ca_other k1_3)⟩ | exact ⟨cs_other (cs_other (cs_other (cs_other (k0_0) (by omega)) (by omega)) (by omega)) (by omega), cs_other (cs_other (cs_other (cs_other (k0_1) (by omega)) (by omega)) (by omega)) (by omega), cs_other (cs_other (cs_other (cs_other (k0_2) (by omega)) (by omega)) (by omega)) (by omega), cs_other (cs_other (cs_other (cs_other (k0_3) (by omega)) (by omega)) (by omega)) (by omega), cs_other (cs_other (cs_other (cs_other (k1_0) (by omega)) (by omega)) (by omega)) (by omega), cs_other (cs_other (cs_other (cs_other (k1_1) (by omega)) (by omega)) (by omega)) (by omega), cs_other (cs_other (cs_other (cs_other (k1_2) (by omega)) (by omega)) (by omega)) (by omega), cs_other (cs_other (cs_other (cs_other (k1_3) (by omega)) (by omega)) (by omega)) (by omega)⟩ | fail))
                  (first
                  | (go_at_call_of 102 (Value.agg #[Value.bool lq.num.g, Value.slice lq.num.a lq.num.n lq.num.c]); refine (addS_v lq.num hq.num _ _ _ ?_ ?_ (unhide K1).1 (unhide K1).2).mono ?_; (first | exact (unhide QL).is.1.later (Below.refl _ _).drew | exact (unhide QL).is.1.later ((Below.refl _ _).alloc (Nat.le_refl _) _).drew); (first | exact (unhide QH).is.1.later (Below.refl _ _).drew | exact (unhide QH).is.1.later ((Below.refl _ _).alloc (Nat.le_refl _) _).drew); rintro e w1b ⟨x1, l1, rfl, hb, o1, a1, n1⟩; have hbx : Below wr.heap.size wr w1b := (by first | exact below_of_drew hb | exact bad hb); have szw1b := hbx.size; replace k0_0 := cell_later hbx k0_0; replace k0_1 := cell_later hbx k0_1; replace k0_2 := cell_later hbx k0_2; replace k0_3 := cell_later hbx k0_3; replace k1_0 := cell_later hbx k1_0; replace k1_1 := cell_later hbx k1_1; replace k1_2 := cell_later hbx k1_2; replace k1_3 := cell_later hbx k1_3; replace QL := hide ((unhide QL).later hbx); replace QH := hide ((unhide QH).later hbx); have Px1 := hide (outN_ow o1 a1 n1); (try (replace gf := fun o => frozen_later hbx (World.block_lt_of_cell? _ _ g0) (gf o); replace g0 := cell_later hbx g0; replace g1 := cell_later hbx g1; replace g2 := cell_later hbx g2; replace g3 := cell_later hbx g3)); (try (refine cutP (p := w1b.cell? ⟨wr.heap.size, 0, none⟩ = some (.bool false) ∧ w1b.cell? ⟨wr.heap.size, 1, none⟩ = some (.slice none 0 0) ∧ w1b.cell? ⟨wr.heap.size, 2, none⟩ = some (.bool false) ∧ w1b.cell? ⟨wr.heap.size, 3, none⟩ = some (.slice none 0 0) ∧ ∀ o, w1b.frozen? ⟨wr.heap.size, o, none⟩ = false) ?_ (fun dd => ?_); (focus (refine ⟨cell_later hb ?_, cell_later hb ?_, cell_later hb ?_, cell_later hb ?_, fun o => frozen_later hb ?_ ?_⟩ <;> (simp [go_sem]; done))); obtain ⟨g0, g1, g2, g3, gf⟩ := dd)); have zz := hb.size; (try simp at zz); have HBr := hide hbx; clear hbx hb o1 a1 n1)
                  | (go_at_call_of 102 (Value.agg #[Value.bool lq.den.g, Value.slice lq.den.a lq.den.n lq.den.c]); refine (addS_v lq.den hq.den _ _ _ ?_ ?_ (unhide K2).1 (unhide K2).2).mono ?_; (first | exact (unhide QL).is.2.later (Below.refl _ _) | exact (unhide QL).is.2.later ((Below.refl _ _).alloc (Nat.le_refl _) _)); (first | exact (unhide QH).is.2.later (Below.refl _ _) | exact (unhide QH).is.2.later ((Below.refl _ _).alloc (Nat.le_refl _) _)); rintro e w2b ⟨x2, l2, rfl, hb, o2, a2, n2⟩; have hbx : Below w1b.heap.size w1b w2b := (by first | exact hb | exact ba hb); have szw2b := hbx.size; replace k0_0 := cell_later hbx k0_0; replace k0_1 := cell_later hbx k0_1; replace k0_2 := cell_later hbx k0_2; replace k0_3 := cell_later hbx k0_3; replace k1_0 := cell_later hbx k1_0; replace k1_1 := cell_later hbx k1_1; replace k1_2 := cell_later hbx k1_2; replace k1_3 := cell_later hbx k1_3; replace QL := hide ((unhide QL).later hbx); replace QH := hide ((unhide QH).later hbx); replace Px1 := hide ((unhide Px1).later hbx); have Px2 := hide (outN_ow o2 a2 n2); (try (replace gf := fun o => frozen_later hbx (World.block_lt_of_cell? _ _ g0) (gf o); replace g0 := cell_later hbx g0; replace g1 := cell_later hbx g1; replace g2 := cell_later hbx g2; replace g3 := cell_later hbx g3)); (try (refine cutP (p := w2b.cell? ⟨w1b.heap.size, 0, none⟩ = some (.bool false) ∧ w2b.cell? ⟨w1b.heap.size, 1, none⟩ = some (.slice none 0 0) ∧ w2b.cell? ⟨w1b.heap.size, 2, none⟩ = some (.bool false) ∧ w2b.cell? ⟨w1b.heap.size, 3, none⟩ = some (.slice none 0 0) ∧ ∀ o, w2b.frozen? ⟨w1b.heap.size, o, none⟩ = false) ?_ (fun dd => ?_); (focus (refine ⟨cell_later hb ?_, cell_later hb ?_, cell_later hb ?_, cell_later hb ?_, fun o => frozen_later hb ?_ ?_⟩ <;> (simp [go_sem]; done))); obtain ⟨g0, g1, g2, g3, gf⟩ := dd)); have zz := hb.size; (try simp at zz); have HBr := hide (below_on (unhide HBr) hbx); clear hbx hb o2 a2 n2))
                all_goals go_wp2_with fail
                all_goals go_meet
                all_goals first
                  | (with_reducible refine ⟨_, ⟨x1, x2⟩, rfl, hide (bxA_alloc (x := ⟨x1, x2⟩) 40 (unhide HBr) (unhide Px1) (unhide Px2) ?_ ?_ ?_ ?_ ?_)⟩ <;> first | omega | (simp; done) | (simp; omega))
                  | (with_reducible refine ⟨_, ⟨x1, x2⟩, rfl, hide (bxA_set (x := ⟨x1, x2⟩) (unhide HBr) (unhide Px1) (unhide Px2) ?_ ?_ ?_ ?_ ?_ ?_ ?_ ?_ g0 g1 g2 g3 gf)⟩ <;> first | omega | (simp; done) | (simp; omega))
              case rest =>
                obtain ⟨G, xG, rfl, HX⟩ := hcut
                have hb := (unhide HX).bel
                have OX := hide (unhide HX).ow
                have g0 := (unhide HX).c0
                have g1 := (unhide HX).c1
                have g2 := (unhide HX).c2
                have g3 := (unhide HX).c3
                replace QL := hide ((unhide QL).later hb)
                replace QH := hide ((unhide QH).later hb)
                replace QA := hide ((unhide QA).later hb)
                replace QB := hide ((unhide QB).later hb)
                replace M := hide ((unhide M).later hb)
                have szc := hb.size
                clear hb HX k0_0 k0_1 k0_2 k0_3 k1_0 k1_1 k1_2 k1_3 K1 K2
                by_cases c1 : (ln + hn) * dQ d ≤ nQ d * (ld + hd)
                · have t1 : decide (cmpZ ((ln + hn) * dQ d) (nQ d * (ld + hd)) ≤ 0) = true := cmpZ_le1 c1
                  have EN := hide (show midF (200 - (i + 1)) (ln + hn) (ld + hd) hn hd (nQ d) (dQ d) (nQ d') (dQ d') = midF 200 (nQ d / dQ d) 1 ((nQ d / dQ d) + 1) 1 (nQ d) (dQ d) (nQ d') (dQ d') from (midF_lo c1).symm.trans (by have h := unhide EM; rw [show 200 - i = (200 - (i + 1)) + 1 by omega] at h; exact h))
                  clear c1
                  have p2_0 := (unhide M).p2_0
                  have p2_1 := (unhide M).p2_1
                  have p2_2 := (unhide M).p2_2
                  have p2_3 := (unhide M).p2_3
                  go_wp2_with fail
                  refine (cmpQS xG q _ _ _ _ _ (unhide OX).is (unhide QA).is ((unhide BM).1.mono (by omega)) ((unhide BM).2.mono (by omega)) ((unhide J1).kn.mono (by omega)) ((unhide J1).kd.mono (by omega))).mono ?_
                  rintro e w11 ⟨rfl, hb⟩
                  replace g0 := cell_later hb g0
                  replace g1 := cell_later hb g1
                  replace g2 := cell_later hb g2
                  replace g3 := cell_later hb g3
                  clear p2_0 p2_1 p2_2 p2_3
                  replace OX := hide ((unhide OX).later hb)
                  replace QL := hide ((unhide QL).later hb)
                  replace QH := hide ((unhide QH).later hb)
                  replace QA := hide ((unhide QA).later hb)
                  replace QB := hide ((unhide QB).later hb)
                  replace M := hide ((unhide M).later hb)
                  have sz11 := hb.size
                  clear hb
                  have p0_0 := (unhide M).p0_0
                  have p0_1 := (unhide M).p0_1
                  have p0_2 := (unhide M).p0_2
                  have p0_3 := (unhide M).p0_3
                  have ff := (unhide M).f0
                  have MS := hide ((unhide M).set0 (x := xG) hL hJ)
                  have bt : Hid (But L (L + 1) w11 ((((w11.setCell ⟨L, 0, none⟩ (.bool xG.num.g)).setCell ⟨L, 1, none⟩ (.slice xG.num.a xG.num.n xG.num.c)).setCell ⟨L, 2, none⟩ (.bool xG.den.g)).setCell ⟨L, 3, none⟩ (.slice xG.den.a xG.den.n xG.den.c))) := hide (metQ_but (w5 := w11) (v := xG) (G := L))
                  go_wp2
                  go_roundw
                  case rel => exact ⟨i + 1, xG, hq, (ln + hn), (ld + hd), hn, hd, by omega, by go_num, by omega, by omega, EN, hide (((unhide OX).notB (by omega) (by omega)).but (.inl rfl) (unhide bt)), hide ((unhide QH).but (.inl rfl) (unhide bt)), hide ((unhide QA).but (.inl rfl) (unhide bt)), hide ((unhide QB).but (.inl rfl) (unhide bt)), hide ⟨⟨(unhide BM).1.mono (by omega), (unhide BM).2.mono (by omega)⟩, ⟨(unhide BL).2.1.mono (by omega), (unhide BL).2.2.mono (by omega)⟩⟩, MS⟩
                  case measure => simp [intOf]; omega
                · by_cases c2 : nQ d' * (ld + hd) ≤ (ln + hn) * dQ d'
                  · have t1 : decide (cmpZ ((ln + hn) * dQ d) (nQ d * (ld + hd)) ≤ 0) = false := cmpZ_le0 c1
                    have t2 : decide (0 ≤ cmpZ ((ln + hn) * dQ d') (nQ d' * (ld + hd))) = true := cmpZ_ge1 c2
                    have EN := hide (show midF (200 - (i + 1)) ln ld (ln + hn) (ld + hd) (nQ d) (dQ d) (nQ d') (dQ d') = midF 200 (nQ d / dQ d) 1 ((nQ d / dQ d) + 1) 1 (nQ d) (dQ d) (nQ d') (dQ d') from (midF_hi c1 c2).symm.trans (by have h := unhide EM; rw [show 200 - i = (200 - (i + 1)) + 1 by omega] at h; exact h))
                    clear c1 c2
                    have p2_0 := (unhide M).p2_0
                    have p2_1 := (unhide M).p2_1
                    have p2_2 := (unhide M).p2_2
                    have p2_3 := (unhide M).p2_3
                    go_wp2_with fail
                    refine (cmpQS xG q _ _ _ _ _ (unhide OX).is (unhide QA).is ((unhide BM).1.mono (by omega)) ((unhide BM).2.mono (by omega)) ((unhide J1).kn.mono (by omega)) ((unhide J1).kd.mono (by omega))).mono ?_
                    rintro e w11 ⟨rfl, hb⟩
                    replace g0 := cell_later hb g0
                    replace g1 := cell_later hb g1
                    replace g2 := cell_later hb g2
                    replace g3 := cell_later hb g3
                    clear p2_0 p2_1 p2_2 p2_3
                    replace OX := hide ((unhide OX).later hb)
                    replace QL := hide ((unhide QL).later hb)
                    replace QH := hide ((unhide QH).later hb)
                    replace QA := hide ((unhide QA).later hb)
                    replace QB := hide ((unhide QB).later hb)
                    replace M := hide ((unhide M).later hb)
                    have sz11 := hb.size
                    clear hb
                    have p3_0 := (unhide M).p3_0
                    have p3_1 := (unhide M).p3_1
                    have p3_2 := (unhide M).p3_2
                    have p3_3 := (unhide M).p3_3
                    go_wp2_with fail
                    refine (cmpQS xG q' _ _ _ _ _ (unhide OX).is (unhide QB).is ((unhide BM).1.mono (by omega)) ((unhide BM).2.mono (by omega)) ((unhide J2).kn.mono (by omega)) ((unhide J2).kd.mono (by omega))).mono ?_
                    rintro e w12 ⟨rfl, hb⟩
                    replace g0 := cell_later hb g0
                    replace g1 := cell_later hb g1
                    replace g2 := cell_later hb g2
                    replace g3 := cell_later hb g3
                    clear p3_0 p3_1 p3_2 p3_3
                    replace OX := hide ((unhide OX).later hb)
                    replace QL := hide ((unhide QL).later hb)
                    replace QH := hide ((unhide QH).later hb)
                    replace QA := hide ((unhide QA).later hb)
                    replace QB := hide ((unhide QB).later hb)
                    replace M := hide ((unhide M).later hb)
                    have sz12 := hb.size
                    clear hb
                    have p1_0 := (unhide M).p1_0
                    have p1_1 := (unhide M).p1_1
                    have p1_2 := (unhide M).p1_2
                    have p1_3 := (unhide M).p1_3
                    have ff := (unhide M).f1
                    have MS := hide ((unhide M).set1 (x := xG) hL hJ)
                    have bt : Hid (But J (J + 1) w12 ((((w12.setCell ⟨J, 0, none⟩ (.bool xG.num.g)).setCell ⟨J, 1, none⟩ (.slice xG.num.a xG.num.n xG.num.c)).setCell ⟨J, 2, none⟩ (.bool xG.den.g)).setCell ⟨J, 3, none⟩ (.slice xG.den.a xG.den.n xG.den.c))) := hide (metQ_but (w5 := w12) (v := xG) (G := J))
                    go_wp2
                    go_roundw
                    case rel => exact ⟨i + 1, lq, xG, ln, ld, (ln + hn), (ld + hd), by omega, by go_num, by omega, by omega, EN, hide ((unhide QL).but (.inr rfl) (unhide bt)), hide (((unhide OX).notB (by omega) (by omega)).but (.inr rfl) (unhide bt)), hide ((unhide QA).but (.inr rfl) (unhide bt)), hide ((unhide QB).but (.inr rfl) (unhide bt)), hide ⟨⟨(unhide BL).1.1.mono (by omega), (unhide BL).1.2.mono (by omega)⟩, ⟨(unhide BM).1.mono (by omega), (unhide BM).2.mono (by omega)⟩⟩, MS⟩
                    case measure => simp [intOf]; omega
                  · have t1 : decide (cmpZ ((ln + hn) * dQ d) (nQ d * (ld + hd)) ≤ 0) = false := cmpZ_le0 c1
                    have t2 : decide (0 ≤ cmpZ ((ln + hn) * dQ d') (nQ d' * (ld + hd))) = false := cmpZ_ge0 c2
                    have EN := hide (show (ln + hn, ld + hd) = midF 200 (nQ d / dQ d) 1 ((nQ d / dQ d) + 1) 1 (nQ d) (dQ d) (nQ d') (dQ d') from (midF_in c1 c2).symm.trans (by have h := unhide EM; rw [show 200 - i = (200 - (i + 1)) + 1 by omega] at h; exact h))
                    clear c1 c2
                    have p2_0 := (unhide M).p2_0
                    have p2_1 := (unhide M).p2_1
                    have p2_2 := (unhide M).p2_2
                    have p2_3 := (unhide M).p2_3
                    go_wp2_with fail
                    refine (cmpQS xG q _ _ _ _ _ (unhide OX).is (unhide QA).is ((unhide BM).1.mono (by omega)) ((unhide BM).2.mono (by omega)) ((unhide J1).kn.mono (by omega)) ((unhide J1).kd.mono (by omega))).mono ?_
                    rintro e w11 ⟨rfl, hb⟩
                    replace g0 := cell_later hb g0
                    replace g1 := cell_later hb g1
                    replace g2 := cell_later hb g2
                    replace g3 := cell_later hb g3
                    clear p2_0 p2_1 p2_2 p2_3
                    replace OX := hide ((unhide OX).later hb)
                    replace QL := hide ((unhide QL).later hb)
                    replace QH := hide ((unhide QH).later hb)
                    replace QA := hide ((unhide QA).later hb)
                    replace QB := hide ((unhide QB).later hb)
                    replace M := hide ((unhide M).later hb)
                    have sz11 := hb.size
                    clear hb
                    have p3_0 := (unhide M).p3_0
                    have p3_1 := (unhide M).p3_1
                    have p3_2 := (unhide M).p3_2
                    have p3_3 := (unhide M).p3_3
                    go_wp2_with fail
                    refine (cmpQS xG q' _ _ _ _ _ (unhide OX).is (unhide QB).is ((unhide BM).1.mono (by omega)) ((unhide BM).2.mono (by omega)) ((unhide J2).kn.mono (by omega)) ((unhide J2).kd.mono (by omega))).mono ?_
                    rintro e w12 ⟨rfl, hb⟩
                    replace g0 := cell_later hb g0
                    replace g1 := cell_later hb g1
                    replace g2 := cell_later hb g2
                    replace g3 := cell_later hb g3
                    clear p3_0 p3_1 p3_2 p3_3
                    replace OX := hide ((unhide OX).later hb)
                    replace QL := hide ((unhide QL).later hb)
                    replace QH := hide ((unhide QH).later hb)
                    replace QA := hide ((unhide QA).later hb)
                    replace QB := hide ((unhide QB).later hb)
                    replace M := hide ((unhide M).later hb)
                    have sz12 := hb.size
                    clear hb
                    go_wp2_with fail
                    refine (fitsQS xG _ _ _ (unhide OX).is (by omega)).mono ?_
                    rintro e w13 ⟨v, dv, ok, rfl, hb, ov, hu⟩
                    have sz13 := hb.size
                    have UU : Hid (AnsQ (pS d d') (smp (nQ d) (dQ d) (nQ d') (dQ d')).1 (smp (nQ d) (dQ d) (nQ d') (dQ d')).2 dv ok) := hide (by have e := (unhide SE).trans (unhide EN).symm; rw [pS_some (unhide HG) (by rw [e]; show ld + hd ≠ 0; omega), e]; exact hu)
                    have OV := hide ov
                    replace M := hide ((unhide M).later hb)
                    have HB := hide (unhide M).bel
                    have p4_0 := (unhide M).p4_0
                    have p4_1 := (unhide M).p4_1
                    have p4_2 := (unhide M).p4_2
                    have p4_3 := (unhide M).p4_3
                    have ff := (unhide M).f4
                    clear hb ov hu
                    go_wp2
                    refine bodyPost_ret (v := .tuple #[.agg #[.bool v.num.g, .slice v.num.a v.num.n v.num.c, .bool v.den.g, .slice v.den.a v.den.n v.den.c], .bool ok]) (by simp [results, Try.results39, go_sem, p4_0, p4_1, p4_2, p4_3]) rfl ?_
                    exact retQ_fin (v := v) (d := dv) (R := w.heap.size + 1 + 1) (by omega) (unhide HB) (metQ_but (w5 := w13) (v := v) (G := w.heap.size + 1 + 1)) ((unhide OV).wide (by omega) (by omega)) (unhide UU)
            · obtain rfl : i = 200 := by omega
              have EN := hide (show (0, 0) = midF 200 (nQ d / dQ d) 1 ((nQ d / dQ d) + 1) 1 (nQ d) (dQ d) (nQ d') (dQ d') from unhide EM)
              have PN := hide (pS_none ((unhide SE).trans (unhide EN).symm))
              have p4_0 := (unhide M).p4_0
              have p4_1 := (unhide M).p4_1
              have p4_2 := (unhide M).p4_2
              have p4_3 := (unhide M).p4_3
              have ff := (unhide M).f4
              have HB := hide (unhide M).bel
              go_wp2
              refine bodyPost_ret (v := .tuple #[.agg #[.bool false, .slice none 0 0, .bool false, .slice none 0 0], .bool false]) (by simp [results, Try.results39, go_sem, p4_0, p4_1, p4_2, p4_3]) rfl ?_
              exact retQ_fin (v := (⟨⟨false, none, 0, 0⟩, ⟨false, none, 0, 0⟩⟩ : QV)) (d := (⟨⟨false, []⟩, ⟨false, []⟩⟩ : QD)) (R := w.heap.size + 1 + 1) (by omega) (unhide HB) (metQ_but (w5 := wr) (v := (⟨⟨false, none, 0, 0⟩, ⟨false, none, 0, 0⟩⟩ : QV)) (G := w.heap.size + 1 + 1)) (zeroQ _ _ _) (by rw [unhide PN]; exact ansQ_none _ _)
end Go.Proofs.Ytfmjbpfnhgkhkaa
namespace Go.Proofs.Ytfmjbpfnhgkhkaa
open Go.RowKit
set_option linter.unusedVariables false
set_option maxRecDepth 100000
set_option linter.unusedSimpArgs false

structure TlawSimp (w wx : World) (v0 : QV) (d0 : QD) (v1 : QV) (d1 : QD) : Prop where
  bel : Below w.heap.size w wx
  x0_0 : wx.cell? ⟨w.heap.size, 0, none⟩ = some (.bool v0.num.g)
  x0_1 : wx.cell? ⟨w.heap.size, 1, none⟩ = some (.slice v0.num.a v0.num.n v0.num.c)
  x0_2 : wx.cell? ⟨w.heap.size, 2, none⟩ = some (.bool v0.den.g)
  x0_3 : wx.cell? ⟨w.heap.size, 3, none⟩ = some (.slice v0.den.a v0.den.n v0.den.c)
  x1_0 : wx.cell? ⟨w.heap.size + 1, 0, none⟩ = some (.bool v1.num.g)
  x1_1 : wx.cell? ⟨w.heap.size + 1, 1, none⟩ = some (.slice v1.num.a v1.num.n v1.num.c)
  x1_2 : wx.cell? ⟨w.heap.size + 1, 2, none⟩ = some (.bool v1.den.g)
  x1_3 : wx.cell? ⟨w.heap.size + 1, 3, none⟩ = some (.slice v1.den.a v1.den.n v1.den.c)
  s0 : AllSl wx [(v0.num, d0.num), (v0.den, d0.den)]
  s1 : AllSl wx [(v1.num, d1.num), (v1.den, d1.den)]
theorem TlawSimp.later {w wx wy : World} {v0 : QV} {d0 : QD} {v1 : QV} {d1 : QD} (h : TlawSimp w wx v0 d0 v1 d1) (hb : Below wx.heap.size wx wy) : TlawSimp w wy v0 d0 v1 d1 :=
  ⟨below_on h.bel hb, cell_later hb h.x0_0, cell_later hb h.x0_1, cell_later hb h.x0_2, cell_later hb h.x0_3, cell_later hb h.x1_0, cell_later hb h.x1_1, cell_later hb h.x1_2, cell_later hb h.x1_3, h.s0.later hb, h.s1.later hb⟩
theorem TlawSimp.but {w wx wy : World} {v0 : QV} {d0 : QD} {v1 : QV} {d1 : QD} {lo hi : Nat} (h : TlawSimp w wx v0 d0 v1 d1) (hb : But lo hi wx wy) (hl : w.heap.size + 2 ≤ lo) (hx0 : AllSl w [(v0.num, d0.num), (v0.den, d0.den)]) (hx1 : AllSl w [(v1.num, d1.num), (v1.den, d1.den)]) : TlawSimp w wy v0 d0 v1 d1 := by
  have hB := hb.below h.bel (by omega) h.bel.size
  exact ⟨hB, hb.cell h.x0_0 (by omega), hb.cell h.x0_1 (by omega), hb.cell h.x0_2 (by omega), hb.cell h.x0_3 (by omega), hb.cell h.x1_0 (by omega), hb.cell h.x1_1 (by omega), hb.cell h.x1_2 (by omega), hb.cell h.x1_3 (by omega), hx0.later hB, hx1.later hB⟩
theorem TlawSimp.start (w : World) (v0 : QV) (d0 : QD) (v1 : QV) (d1 : QD) (t0 : TypeId) (t1 : TypeId) (hx0 : AllSl w [(v0.num, d0.num), (v0.den, d0.den)]) (hx1 : AllSl w [(v1.num, d1.num), (v1.den, d1.den)]) : TlawSimp w ((w.alloc (.cells #[.bool v0.num.g, .slice v0.num.a v0.num.n v0.num.c, .bool v0.den.g, .slice v0.den.a v0.den.n v0.den.c] t0)).alloc (.cells #[.bool v1.num.g, .slice v1.num.a v1.num.n v1.num.c, .bool v1.den.g, .slice v1.den.a v1.den.n v1.den.c] t1)) v0 d0 v1 d1 := by
  have hb : Below w.heap.size w ((w.alloc (.cells #[.bool v0.num.g, .slice v0.num.a v0.num.n v0.num.c, .bool v0.den.g, .slice v0.den.a v0.den.n v0.den.c] t0)).alloc (.cells #[.bool v1.num.g, .slice v1.num.a v1.num.n v1.num.c, .bool v1.den.g, .slice v1.den.a v1.den.n v1.den.c] t1)) := ((Below.refl _ _).alloc (Nat.le_refl _) _).alloc (by simp) _
  exact ⟨hb, by simp [go_sem], by simp [go_sem], by simp [go_sem], by simp [go_sem], by simp [go_sem], by simp [go_sem], by simp [go_sem], by simp [go_sem], hx0.later hb, hx1.later hb⟩

set_option maxHeartbeats 1000000 in
theorem lawSimp_out0 (v0 : QV) (v1 : QV) (w : World) (m0 : v0.num.n ≤ maxLen) (m1 : v0.den.n ≤ maxLen) (h0 : 0 ≤ 1048576) (h : 1048576 < v0.num.n + v0.den.n) :
    Calls Try.prog 6 #[.agg #[.bool v0.num.g, .slice v0.num.a v0.num.n v0.num.c, .bool v0.den.g, .slice v0.den.a v0.den.n v0.den.c], .agg #[.bool v1.num.g, .slice v1.num.a v1.num.n v1.num.c, .bool v1.den.g, .slice v1.den.a v1.den.n v1.den.c]] w fun e w' => e = .returned (.bool true) ∧ Below w.heap.size w w' := by
  go_enter Try.func6, Try.ntmps6
  go_wp2_with fail
  refine (szQ_out v0 _ _ (by omega) (by omega) m0 m1 (by omega)).mono ?_
  rintro e w1 ⟨rfl, hb⟩
  have HB := hide (below_two' hb)
  clear hb
  go_wp2
  go_ret
  exact ⟨rfl, unhide HB⟩

set_option maxHeartbeats 1000000 in
theorem lawSimp_out1 (v0 : QV) (v1 : QV) (w : World) (m0 : v1.num.n ≤ maxLen) (m1 : v1.den.n ≤ maxLen) (h0 : v0.num.n + v0.den.n ≤ 1048576) (h : 1048576 < v0.num.n + v0.den.n + v1.num.n + v1.den.n) :
    Calls Try.prog 6 #[.agg #[.bool v0.num.g, .slice v0.num.a v0.num.n v0.num.c, .bool v0.den.g, .slice v0.den.a v0.den.n v0.den.c], .agg #[.bool v1.num.g, .slice v1.num.a v1.num.n v1.num.c, .bool v1.den.g, .slice v1.den.a v1.den.n v1.den.c]] w fun e w' => e = .returned (.bool true) ∧ Below w.heap.size w w' := by
  have hd0 : ¬ ((1048576 : Int) - (v0.num.n : Int) - (v0.den.n : Int) < 0) := by omega
  go_enter Try.func6, Try.ntmps6
  go_wp2_with fail
  refine (szQ_in v0 _ _ (by omega) (by omega) (by omega)).mono ?_
  rintro e w1 ⟨rfl, hb⟩
  have y1_0 : w1.cell? ⟨w.heap.size + 1, 0, none⟩ = some (.bool v1.num.g) := cell_later hb (by simp [go_sem])
  have y1_1 : w1.cell? ⟨w.heap.size + 1, 1, none⟩ = some (.slice v1.num.a v1.num.n v1.num.c) := cell_later hb (by simp [go_sem])
  have y1_2 : w1.cell? ⟨w.heap.size + 1, 2, none⟩ = some (.bool v1.den.g) := cell_later hb (by simp [go_sem])
  have y1_3 : w1.cell? ⟨w.heap.size + 1, 3, none⟩ = some (.slice v1.den.a v1.den.n v1.den.c) := cell_later hb (by simp [go_sem])
  have HB := hide (below_two' hb)
  clear hb
  go_wp2_with fail
  refine (szQ_out v1 _ _ (by omega) (by omega) m0 m1 (by omega)).mono ?_
  rintro e w2 ⟨rfl, hb⟩
  replace HB := hide (below_on (unhide HB) hb)
  clear hb
  go_wp2
  go_ret
  exact ⟨rfl, unhide HB⟩

set_option maxRecDepth 100000 in
set_option maxHeartbeats 16000000 in
theorem lawSimp_in (v0 : QV) (v1 : QV) (d0 : QD) (d1 : QD) (w : World) (hx0 : AllSl w [(v0.num, d0.num), (v0.den, d0.den)]) (hx1 : AllSl w [(v1.num, d1.num), (v1.den, d1.den)])  (h : v0.num.n + v0.den.n + v1.num.n + v1.den.n ≤ 1048576) :
    Calls Try.prog 6 #[.agg #[.bool v0.num.g, .slice v0.num.a v0.num.n v0.num.c, .bool v0.den.g, .slice v0.den.a v0.den.n v0.den.c], .agg #[.bool v1.num.g, .slice v1.num.a v1.num.n v1.num.c, .bool v1.den.g, .slice v1.den.a v1.den.n v1.den.c]] w fun e w' => e = .returned (.bool true) ∧ Below w.heap.size w w' := by
  have HX0 := hide hx0
  have HX1 := hide hx1
  clear hx0 hx1
  have l0 : v0.num.n ≤ 1048576 := by omega
  have lm0 : v0.num.n ≤ maxLen := by unfold maxLen; omega
  have l1 : v0.den.n ≤ 1048576 := by omega
  have lm1 : v0.den.n ≤ maxLen := by unfold maxLen; omega
  have l2 : v1.num.n ≤ 1048576 := by omega
  have lm2 : v1.num.n ≤ maxLen := by unfold maxLen; omega
  have l3 : v1.den.n ≤ 1048576 := by omega
  have lm3 : v1.den.n ≤ maxLen := by unfold maxLen; omega
  have hd0 : ¬ ((1048576 : Int) - (v0.num.n : Int) - (v0.den.n : Int) < 0) := by omega
  have hd1 : ¬ ((1048576 : Int) - (v0.num.n : Int) - (v0.den.n : Int) - (v1.num.n : Int) - (v1.den.n : Int) < 0) := by omega
  obtain ⟨U, HU⟩ : ∃ U : QD → Bool → Prop, Hid (U = AnsQ (pS d0 d1) (smp (nQ d0) (dQ d0) (nQ d1) (dQ d1)).1 (smp (nQ d0) (dQ d0) (nQ d1) (dQ d1)).2) := ⟨_, hide rfl⟩
  have US : Hid (∀ d ok d' ok', U d ok → U d' ok' → d = d' ∧ ok = ok') := hide (by rw [unhide HU]; exact fun d ok d' ok' h k => h.same k)
  have UL : Hid (∀ d ok, U d ok → d.num.xs.length ≤ 40 ∧ d.den.xs.length ≤ 40) := hide (by rw [unhide HU]; exact fun d ok h => h.lens)
  have CS : Hid (∀ (q0 : QV) (q1 : QV) (w : World), AllAr w [(q0.num, d0.num), (q0.den, d0.den)] → AllAr w [(q1.num, d1.num), (q1.den, d1.den)] → Calls Try.prog 39 #[.agg #[.bool q0.num.g, .slice q0.num.a q0.num.n q0.num.c, .bool q0.den.g, .slice q0.den.a q0.den.n q0.den.c], .agg #[.bool q1.num.g, .slice q1.num.a q1.num.n q1.num.c, .bool q1.den.g, .slice q1.den.a q1.den.n q1.den.c]] w (RetQ w U)) := hide (by rw [unhide HU]; exact fun q0 q1 w h0 h1 => SimpRS q0 q1 d0 d1 w h0 h1)
  have CI : Hid (∀ (q0 : QV) (q1 : QV) (w : World), AllAr w [(q0.num, d0.num), (q0.den, d0.den)] → AllAr w [(q1.num, d1.num), (q1.den, d1.den)] → Calls Try.prog 40 #[.agg #[.bool q0.num.g, .slice q0.num.a q0.num.n q0.num.c, .bool q0.den.g, .slice q0.den.a q0.den.n q0.den.c], .agg #[.bool q1.num.g, .slice q1.num.a q1.num.n q1.num.c, .bool q1.den.g, .slice q1.den.a q1.den.n q1.den.c]] w (RetQ w U)) := hide (by rw [unhide HU]; exact fun q0 q1 w h0 h1 => SimpRI q0 q1 d0 d1 w h0 h1)
  clear HU
  go_enter Try.func6, Try.ntmps6
  go_wp2_with fail
  refine (szQ_in v0 _ _ (by omega) (by omega) (by omega)).mono ?_
  rintro e w1 ⟨rfl, hb⟩
  have T := hide ((TlawSimp.start w v0 d0 v1 d1 34 34 (unhide HX0) (unhide HX1)).later hb)
  have z : w.heap.size + 2 ≤ w1.heap.size := by have := hb.size; simp at this; omega
  have y0 := (unhide T).x1_0
  have y1 := (unhide T).x1_1
  have y2 := (unhide T).x1_2
  have y3 := (unhide T).x1_3
  clear hb
  go_wp2_with fail
  refine (szQ_in v1 _ _ (by omega) (by omega) (by omega)).mono ?_
  rintro e w2 ⟨rfl, hb⟩
  replace T := hide ((unhide T).later hb)
  replace z : w.heap.size + 2 ≤ w2.heap.size := Nat.le_trans z hb.size
  clear y0 y1 y2 y3
  clear hb
  go_upto_region 8 with fail
  go_cut [6, 7] (fun p q wx => ∃ (G : Nat) (v : QV) (d : QD) (ok : Bool), p = .pointer (some ⟨G, 0, none⟩) ∧ q = .bool ok ∧ Hid (MetQ w2 wx G v d) ∧ Hid (U d ok) ∧ Hid (TlawSimp w wx v0 d0 v1 d1))
  case first =>
    have ka0 := (unhide T).x0_0
    have ka1 := (unhide T).x0_1
    have ka2 := (unhide T).x0_2
    have ka3 := (unhide T).x0_3
    have ka4 := (unhide T).x1_0
    have ka5 := (unhide T).x1_1
    have ka6 := (unhide T).x1_2
    have ka7 := (unhide T).x1_3
    go_region_held3 (fun w' => w'.cell? ⟨w.heap.size, 0, none⟩ = some (.bool v0.num.g) ∧ w'.cell? ⟨w.heap.size, 1, none⟩ = some (.slice v0.num.a v0.num.n v0.num.c) ∧ w'.cell? ⟨w.heap.size, 2, none⟩ = some (.bool v0.den.g) ∧ w'.cell? ⟨w.heap.size, 3, none⟩ = some (.slice v0.den.a v0.den.n v0.den.c) ∧ w'.cell? ⟨w.heap.size + 1, 0, none⟩ = some (.bool v1.num.g) ∧ w'.cell? ⟨w.heap.size + 1, 1, none⟩ = some (.slice v1.num.a v1.num.n v1.num.c) ∧ w'.cell? ⟨w.heap.size + 1, 2, none⟩ = some (.bool v1.den.g) ∧ w'.cell? ⟨w.heap.size + 1, 3, none⟩ = some (.slice v1.den.a v1.den.n v1.den.c)) (with_reducible (first | exact ⟨ka0, ka1, ka2, ka3, ka4, ka5, ka6, ka7⟩ | exact ⟨cd_other ka0, cd_other ka1, cd_other ka2, cd_other ka3, cd_other ka4, cd_other ka5, cd_other ka6, cd_other ka7⟩ | exact ⟨ca_other ka0, ca_other ka1, ca_other ka2, ca_other ka3, ca_other ka4, ca_other ka5, ca_other ka6, ca_other ka7⟩ | exact ⟨cd_other (ca_other ka0), cd_other (ca_other ka1), cd_other (ca_other ka2), cd_other (ca_other ka3), cd_other (ca_other ka4), cd_other (ca_other ka5), cd_other (ca_other ka6), cd_other (ca_other ka7)⟩ | exact ⟨cs_other (cs_other (cs_other (cs_other (ka0) (by omega)) (by omega)) (by omega)) (by omega), cs_other (cs_other (cs_other (cs_other (ka1) (by omega)) (by omega)) (by omega)) (by omega), cs_other (cs_other (cs_other (cs_other (ka2) (by omega)) (by omega)) (by omega)) (by omega), cs_other (cs_other (cs_other (cs_other (ka3) (by omega)) (by omega)) (by omega)) (by omega), cs_other (cs_other (cs_other (cs_other (ka4) (by omega)) (by omega)) (by omega)) (by omega), cs_other (cs_other (cs_other (cs_other (ka5) (by omega)) (by omega)) (by omega)) (by omega), cs_other (cs_other (cs_other (cs_other (ka6) (by omega)) (by omega)) (by omega)) (by omega), cs_other (cs_other (cs_other (cs_other (ka7) (by omega)) (by omega)) (by omega)) (by omega)⟩ | fail))
      (first
      | (go_at_call_of 27 (Value.agg #[Value.bool v0.num.g, Value.slice v0.num.a v0.num.n v0.num.c, Value.bool v0.den.g, Value.slice v0.den.a v0.den.n v0.den.c]); refine (toQ_at v0 d0 _ ?_ l0 l1).mono ?_; (first | exact (unhide T).s0.later (Below.refl _ _).drew | exact (unhide T).s0.later ((Below.refl _ _).alloc (Nat.le_refl _) _).drew); rintro e wa0 ⟨qa0, rfl, hb, hna0, ow, ar⟩; have hbx : Below w2.heap.size w2 wa0 := (by first | exact below_of_drew hb | exact bad hb); have sz0 := hbx.size; replace T := hide ((unhide T).later hbx); replace ka0 := (unhide T).x0_0; replace ka1 := (unhide T).x0_1; replace ka2 := (unhide T).x0_2; replace ka3 := (unhide T).x0_3; replace ka4 := (unhide T).x1_0; replace ka5 := (unhide T).x1_1; replace ka6 := (unhide T).x1_2; replace ka7 := (unhide T).x1_3; (try (replace gf := fun o => frozen_later hbx (World.block_lt_of_cell? _ _ g0) (gf o); replace g0 := cell_later hbx g0; replace g1 := cell_later hbx g1; replace g2 := cell_later hbx g2; replace g3 := cell_later hbx g3)); (try (refine cutP (p := wa0.cell? ⟨w2.heap.size, 0, none⟩ = some (.bool false) ∧ wa0.cell? ⟨w2.heap.size, 1, none⟩ = some (.slice none 0 0) ∧ wa0.cell? ⟨w2.heap.size, 2, none⟩ = some (.bool false) ∧ wa0.cell? ⟨w2.heap.size, 3, none⟩ = some (.slice none 0 0) ∧ ∀ o, wa0.frozen? ⟨w2.heap.size, o, none⟩ = false) ?_ (fun dd => ?_); (focus (refine ⟨cell_later hb ?_, cell_later hb ?_, cell_later hb ?_, cell_later hb ?_, fun o => frozen_later hb ?_ ?_⟩ <;> (simp [go_sem]; done))); obtain ⟨g0, g1, g2, g3, gf⟩ := dd)); have zz0 := hb.size; (try simp at zz0); have HBr := hide hbx; have A0 := hide ar; clear hb hbx ow ar hna0)
      | (go_at_call_of 27 (Value.agg #[Value.bool v1.num.g, Value.slice v1.num.a v1.num.n v1.num.c, Value.bool v1.den.g, Value.slice v1.den.a v1.den.n v1.den.c]); refine (toQ_at v1 d1 _ ?_ l2 l3).mono ?_; (first | exact (unhide T).s1 | exact (unhide T).s1.later ((Below.refl _ _).alloc (Nat.le_refl _) _)); rintro e wa1 ⟨qa1, rfl, hb, hna1, ow, ar⟩; have hbx : Below wa0.heap.size wa0 wa1 := (by first | exact hb | exact ba hb); have sz1 := hbx.size; replace T := hide ((unhide T).later hbx); replace ka0 := (unhide T).x0_0; replace ka1 := (unhide T).x0_1; replace ka2 := (unhide T).x0_2; replace ka3 := (unhide T).x0_3; replace ka4 := (unhide T).x1_0; replace ka5 := (unhide T).x1_1; replace ka6 := (unhide T).x1_2; replace ka7 := (unhide T).x1_3; replace A0 := hide ((unhide A0).later hbx); (try (replace gf := fun o => frozen_later hbx (World.block_lt_of_cell? _ _ g0) (gf o); replace g0 := cell_later hbx g0; replace g1 := cell_later hbx g1; replace g2 := cell_later hbx g2; replace g3 := cell_later hbx g3)); (try (refine cutP (p := wa1.cell? ⟨wa0.heap.size, 0, none⟩ = some (.bool false) ∧ wa1.cell? ⟨wa0.heap.size, 1, none⟩ = some (.slice none 0 0) ∧ wa1.cell? ⟨wa0.heap.size, 2, none⟩ = some (.bool false) ∧ wa1.cell? ⟨wa0.heap.size, 3, none⟩ = some (.slice none 0 0) ∧ ∀ o, wa1.frozen? ⟨wa0.heap.size, o, none⟩ = false) ?_ (fun dd => ?_); (focus (refine ⟨cell_later hb ?_, cell_later hb ?_, cell_later hb ?_, cell_later hb ?_, fun o => frozen_later hb ?_ ?_⟩ <;> (simp [go_sem]; done))); obtain ⟨g0, g1, g2, g3, gf⟩ := dd)); have zz1 := hb.size; (try simp at zz1); have HBr := hide (below_on (unhide HBr) hbx); have A1 := hide ar; clear hb hbx ow ar hna1)
      | (go_at_call 39; refine (unhide CS _ _ _ ?_ ?_).mono ?_; (first | exact unhide A0 | exact (unhide A0).later ((Below.refl _ _).alloc (Nat.le_refl _) _)); (first | exact unhide A1 | exact (unhide A1).later ((Below.refl _ _).alloc (Nat.le_refl _) _)); rintro e w5 ⟨vr, dr, okr, rfl, hb, hown, hu⟩; have hbx : Below wa1.heap.size wa1 w5 := (by first | exact hb | exact ba hb); have sz2 := hbx.size; replace T := hide ((unhide T).later hbx); replace ka0 := (unhide T).x0_0; replace ka1 := (unhide T).x0_1; replace ka2 := (unhide T).x0_2; replace ka3 := (unhide T).x0_3; replace ka4 := (unhide T).x1_0; replace ka5 := (unhide T).x1_1; replace ka6 := (unhide T).x1_2; replace ka7 := (unhide T).x1_3; replace A0 := hide ((unhide A0).later hbx); replace A1 := hide ((unhide A1).later hbx); (try (replace gf := fun o => frozen_later hbx (World.block_lt_of_cell? _ _ g0) (gf o); replace g0 := cell_later hbx g0; replace g1 := cell_later hbx g1; replace g2 := cell_later hbx g2; replace g3 := cell_later hbx g3)); (try (refine cutP (p := w5.cell? ⟨wa1.heap.size, 0, none⟩ = some (.bool false) ∧ w5.cell? ⟨wa1.heap.size, 1, none⟩ = some (.slice none 0 0) ∧ w5.cell? ⟨wa1.heap.size, 2, none⟩ = some (.bool false) ∧ w5.cell? ⟨wa1.heap.size, 3, none⟩ = some (.slice none 0 0) ∧ ∀ o, w5.frozen? ⟨wa1.heap.size, o, none⟩ = false) ?_ (fun dd => ?_); (focus (refine ⟨cell_later hb ?_, cell_later hb ?_, cell_later hb ?_, cell_later hb ?_, fun o => frozen_later hb ?_ ?_⟩ <;> (simp [go_sem]; done))); obtain ⟨g0, g1, g2, g3, gf⟩ := dd)); have zz2 := hb.size; (try simp at zz2); have HBr := hide (below_on (unhide HBr) hbx); have O5 := hide hown; have U5 := hide hu; clear hb hbx hown hu))
    all_goals go_wp2_with fail
    all_goals go_meet
    all_goals first
      | (with_reducible refine ⟨_, vr, dr, okr, rfl, rfl, hide (metQ_alloc 40 (unhide HBr) (unhide O5) ?_), U5, hide ((unhide T).later ((Below.refl _ _).alloc (Nat.le_refl _) _))⟩; omega)
      | (with_reducible refine ⟨_, vr, dr, okr, rfl, rfl, hide (metQ_set (unhide HBr) (unhide O5) ?_ ?_ g0 g1 g2 g3), U5, hide ((unhide T).but metQ_but ?_ (unhide HX0) (unhide HX1))⟩ <;> first | omega | (simp; done) | (simp; omega))
  case rest =>
    obtain ⟨G0, vr, dr, okr, rfl, rfl, HM, UR, T3⟩ := hcut
    clear T
    have T := T3
    clear T3
    have V0 := hide (unhide HM).var
    have zG1 : w.heap.size + 2 ≤ G0 := Nat.le_trans z (unhide HM).lo
    have zG2 : G0 < wc.heap.size := (unhide HM).hi
    clear HM
    have r0 : vr.num.n ≤ 40 := by rw [← ((unhide V0).own.own (vr.num, dr.num) (by simp)).len]; exact (unhide UL _ _ (unhide UR)).1
    have rm0 : vr.num.n ≤ maxLen := by unfold maxLen; omega
    have rl0 : vr.num.n ≤ 1048576 := by omega
    have r1 : vr.den.n ≤ 40 := by rw [← ((unhide V0).own.own (vr.den, dr.den) (by simp)).len]; exact (unhide UL _ _ (unhide UR)).2
    have rm1 : vr.den.n ≤ maxLen := by unfold maxLen; omega
    have rl1 : vr.den.n ≤ 1048576 := by omega
    have p0 := (unhide T).x0_0
    have p1 := (unhide T).x0_1
    have p2 := (unhide T).x0_2
    have p3 := (unhide T).x0_3
    go_wp2_with fail
    refine (toQ_at v0 d0 _ (unhide T).s0 l0 l1).mono ?_
    rintro e wx0 ⟨y0, rfl, hb, hnn, ow0, ar0⟩
    have hn0 := hide hnn
    clear hnn
    have VX0 := hide (VarQ.start 40 ow0)
    have AX0 := hide (ar0.later ((Below.refl _ _).alloc (Nat.le_refl _) (.cells #[.bool y0.num.g, .slice y0.num.a y0.num.n y0.num.c, .bool y0.den.g, .slice y0.den.a y0.den.n y0.den.c] 40)))
    have s0 : wc.heap.size ≤ wx0.heap.size := by have := hb.size; exact this
    replace V0 := hide ((unhide V0).later hb)
    replace T := hide ((unhide T).later hb)
    replace V0 := hide ((unhide V0).later ((Below.refl _ _).alloc (Nat.le_refl _) (.cells #[.bool y0.num.g, .slice y0.num.a y0.num.n y0.num.c, .bool y0.den.g, .slice y0.den.a y0.den.n y0.den.c] 40)))
    replace T := hide ((unhide T).later ((Below.refl _ _).alloc (Nat.le_refl _) (.cells #[.bool y0.num.g, .slice y0.num.a y0.num.n y0.num.c, .bool y0.den.g, .slice y0.den.a y0.den.n y0.den.c] 40)))
    clear hb ow0 ar0 p0 p1 p2 p3
    have p0 := (unhide T).x1_0
    have p1 := (unhide T).x1_1
    have p2 := (unhide T).x1_2
    have p3 := (unhide T).x1_3
    go_wp2_with fail
    refine (toQ_at v1 d1 _ (unhide T).s1 l2 l3).mono ?_
    rintro e wx1 ⟨y1, rfl, hb, hnn, ow1, ar1⟩
    have hn1 := hide hnn
    clear hnn
    have VX1 := hide (VarQ.start 40 (ow1.wide (lo' := wx0.heap.size + 1) (by simp) (Nat.le_refl _)))
    have AX1 := hide (ar1.later ((Below.refl _ _).alloc (Nat.le_refl _) (.cells #[.bool y1.num.g, .slice y1.num.a y1.num.n y1.num.c, .bool y1.den.g, .slice y1.den.a y1.den.n y1.den.c] 40)))
    have s1 : wx0.heap.size + 1 ≤ wx1.heap.size := by have := hb.size; simp at this; omega
    replace V0 := hide ((unhide V0).later hb)
    replace T := hide ((unhide T).later hb)
    replace VX0 := hide ((unhide VX0).later hb)
    replace AX0 := hide ((unhide AX0).later hb)
    replace V0 := hide ((unhide V0).later ((Below.refl _ _).alloc (Nat.le_refl _) (.cells #[.bool y1.num.g, .slice y1.num.a y1.num.n y1.num.c, .bool y1.den.g, .slice y1.den.a y1.den.n y1.den.c] 40)))
    replace T := hide ((unhide T).later ((Below.refl _ _).alloc (Nat.le_refl _) (.cells #[.bool y1.num.g, .slice y1.num.a y1.num.n y1.num.c, .bool y1.den.g, .slice y1.den.a y1.den.n y1.den.c] 40)))
    replace VX0 := hide ((unhide VX0).later ((Below.refl _ _).alloc (Nat.le_refl _) (.cells #[.bool y1.num.g, .slice y1.num.a y1.num.n y1.num.c, .bool y1.den.g, .slice y1.den.a y1.den.n y1.den.c] 40)))
    replace AX0 := hide ((unhide AX0).later ((Below.refl _ _).alloc (Nat.le_refl _) (.cells #[.bool y1.num.g, .slice y1.num.a y1.num.n y1.num.c, .bool y1.den.g, .slice y1.den.a y1.den.n y1.den.c] 40)))
    clear hb ow1 ar1 p0 p1 p2 p3
    have p0_0 := (unhide VX0).c0
    have p0_1 := (unhide VX0).c1
    have p0_2 := (unhide VX0).c2
    have p0_3 := (unhide VX0).c3
    go_wp2_with fail
    refine (unhide CI y0 y1 _ (unhide AX0) (unhide AX1)).mono ?_
    rintro e w5 ⟨vg, dg, okg, rfl, hb, hown, hu⟩
    obtain ⟨e1, e2⟩ := unhide US _ _ _ _ (unhide UR) hu
    subst e1 e2
    have VG := hide (VarQ.start 40 (hown.wide (lo' := wx1.heap.size + 1) (by simp) (Nat.le_refl _)))
    have sg : wx1.heap.size + 1 ≤ w5.heap.size := by have := hb.size; simp at this; omega
    have en0 : vg.num.n = vr.num.n := by rw [← ((unhide VG).own.own (vg.num, dr.num) (by simp)).len, ← ((unhide V0).own.own (vr.num, dr.num) (by simp)).len]
    have q0 : vg.num.n ≤ 40 := by omega
    have qm0 : vg.num.n ≤ maxLen := by omega
    have ql0 : vg.num.n ≤ 1048576 := by omega
    have en1 : vg.den.n = vr.den.n := by rw [← ((unhide VG).own.own (vg.den, dr.den) (by simp)).len, ← ((unhide V0).own.own (vr.den, dr.den) (by simp)).len]
    have q1 : vg.den.n ≤ 40 := by omega
    have qm1 : vg.den.n ≤ maxLen := by omega
    have ql1 : vg.den.n ≤ 1048576 := by omega
    clear AX0 AX1 p0_0 p0_1 p0_2 p0_3
    replace V0 := hide ((unhide V0).later hb)
    replace T := hide ((unhide T).later hb)
    replace VX0 := hide ((unhide VX0).later hb)
    replace VX1 := hide ((unhide VX1).later hb)
    clear hb hown hu
    replace V0 := hide ((unhide V0).later ((Below.refl _ _).alloc (Nat.le_refl _) (.cells #[.bool vg.num.g, .slice vg.num.a vg.num.n vg.num.c, .bool vg.den.g, .slice vg.den.a vg.den.n vg.den.c] 40)))
    replace T := hide ((unhide T).later ((Below.refl _ _).alloc (Nat.le_refl _) (.cells #[.bool vg.num.g, .slice vg.num.a vg.num.n vg.num.c, .bool vg.den.g, .slice vg.den.a vg.den.n vg.den.c] 40)))
    replace VX0 := hide ((unhide VX0).later ((Below.refl _ _).alloc (Nat.le_refl _) (.cells #[.bool vg.num.g, .slice vg.num.a vg.num.n vg.num.c, .bool vg.den.g, .slice vg.den.a vg.den.n vg.den.c] 40)))
    replace VX1 := hide ((unhide VX1).later ((Below.refl _ _).alloc (Nat.le_refl _) (.cells #[.bool vg.num.g, .slice vg.num.a vg.num.n vg.num.c, .bool vg.den.g, .slice vg.den.a vg.den.n vg.den.c] 40)))
    have enh0 := hide en0
    clear en0
    have enh1 := hide en1
    clear en1
    have p0 := (unhide V0).c0
    have p1 := (unhide V0).c1
    have p2 := (unhide V0).c2
    have p3 := (unhide V0).c3
    go_wp2_with fail
    refine (eqQ_at vg vr dr _ (unhide VG).own.sl (unhide V0).own.sl qm0 qm1).mono ?_
    rintro e w6 ⟨rfl, hb⟩
    clear p0 p1 p2 p3
    replace V0 := hide ((unhide V0).later hb)
    replace T := hide ((unhide T).later hb)
    replace VX0 := hide ((unhide VX0).later hb)
    replace VX1 := hide ((unhide VX1).later hb)
    replace VG := hide ((unhide VG).later hb)
    clear hb
    generalize wx0.heap.size = GX0 at *
    generalize wx1.heap.size = GX1 at *
    generalize w5.heap.size = GG at *
    generalize wc.heap.size = GC at *
    go_wp2_with fail
    have ka0 := (unhide T).x0_0
    have kx0 := (unhide VX0).c0
    have ka1 := (unhide T).x0_1
    have kx1 := (unhide VX0).c1
    have ka2 := (unhide T).x0_2
    have kx2 := (unhide VX0).c2
    have ka3 := (unhide T).x0_3
    have kx3 := (unhide VX0).c3
    go_region_held3 (fun w' => w'.cell? ⟨w.heap.size, 0, none⟩ = some (.bool v0.num.g) ∧ w'.cell? ⟨w.heap.size, 1, none⟩ = some (.slice v0.num.a v0.num.n v0.num.c) ∧ w'.cell? ⟨w.heap.size, 2, none⟩ = some (.bool v0.den.g) ∧ w'.cell? ⟨w.heap.size, 3, none⟩ = some (.slice v0.den.a v0.den.n v0.den.c) ∧ w'.cell? ⟨GX0, 0, none⟩ = some (.bool y0.num.g) ∧ w'.cell? ⟨GX0, 1, none⟩ = some (.slice y0.num.a y0.num.n y0.num.c) ∧ w'.cell? ⟨GX0, 2, none⟩ = some (.bool y0.den.g) ∧ w'.cell? ⟨GX0, 3, none⟩ = some (.slice y0.den.a y0.den.n y0.den.c)) (with_reducible (first | exact ⟨ka0, ka1, ka2, ka3, kx0, kx1, kx2, kx3⟩ | exact ⟨cd_other ka0, cd_other ka1, cd_other ka2, cd_other ka3, cd_other kx0, cd_other kx1, cd_other kx2, cd_other kx3⟩ | fail))
      (first
      | (go_at_call 27; refine (toQ_at v0 d0 _ ?_ l0 l1).mono ?_; exact (unhide T).s0.later (Below.refl _ _).drew; rintro e w7 ⟨u7, rfl, hb', hn7, ow7, ar7⟩; have hb := below_of_drew hb'; replace V0 := hide ((unhide V0).later hb); replace T := hide ((unhide T).later hb); replace VX0 := hide ((unhide VX0).later hb); replace VX1 := hide ((unhide VX1).later hb); replace VG := hide ((unhide VG).later hb); replace ka0 := (unhide T).x0_0; replace kx0 := (unhide VX0).c0; replace ka1 := (unhide T).x0_1; replace kx1 := (unhide VX0).c1; replace ka2 := (unhide T).x0_2; replace kx2 := (unhide VX0).c2; replace ka3 := (unhide T).x0_3; replace kx3 := (unhide VX0).c3; have S7 := hide ow7.sl; clear hb hb' ow7 ar7 hn7)
      | (go_at_call 30; refine (eqQ_at y0 u7 d0 _ (unhide VX0).own.sl (unhide S7) (by rw [(unhide hn0).1]; exact lm0) (by rw [(unhide hn0).2]; exact lm1)).mono ?_; rintro e w8 ⟨rfl, hb⟩; replace V0 := hide ((unhide V0).later hb); replace T := hide ((unhide T).later hb); replace VX0 := hide ((unhide VX0).later hb); replace VX1 := hide ((unhide VX1).later hb); replace VG := hide ((unhide VG).later hb); replace ka0 := (unhide T).x0_0; replace kx0 := (unhide VX0).c0; replace ka1 := (unhide T).x0_1; replace kx1 := (unhide VX0).c1; replace ka2 := (unhide T).x0_2; replace kx2 := (unhide VX0).c2; replace ka3 := (unhide T).x0_3; replace kx3 := (unhide VX0).c3; clear hb))
    clear S7 ka0 kx0 ka1 kx1 ka2 kx2 ka3 kx3
    go_wp2_with fail
    have ka0 := (unhide T).x1_0
    have kx0 := (unhide VX1).c0
    have ka1 := (unhide T).x1_1
    have kx1 := (unhide VX1).c1
    have ka2 := (unhide T).x1_2
    have kx2 := (unhide VX1).c2
    have ka3 := (unhide T).x1_3
    have kx3 := (unhide VX1).c3
    go_region_held3 (fun w' => w'.cell? ⟨w.heap.size + 1, 0, none⟩ = some (.bool v1.num.g) ∧ w'.cell? ⟨w.heap.size + 1, 1, none⟩ = some (.slice v1.num.a v1.num.n v1.num.c) ∧ w'.cell? ⟨w.heap.size + 1, 2, none⟩ = some (.bool v1.den.g) ∧ w'.cell? ⟨w.heap.size + 1, 3, none⟩ = some (.slice v1.den.a v1.den.n v1.den.c) ∧ w'.cell? ⟨GX1, 0, none⟩ = some (.bool y1.num.g) ∧ w'.cell? ⟨GX1, 1, none⟩ = some (.slice y1.num.a y1.num.n y1.num.c) ∧ w'.cell? ⟨GX1, 2, none⟩ = some (.bool y1.den.g) ∧ w'.cell? ⟨GX1, 3, none⟩ = some (.slice y1.den.a y1.den.n y1.den.c)) (with_reducible (first | exact ⟨ka0, ka1, ka2, ka3, kx0, kx1, kx2, kx3⟩ | exact ⟨cd_other ka0, cd_other ka1, cd_other ka2, cd_other ka3, cd_other kx0, cd_other kx1, cd_other kx2, cd_other kx3⟩ | fail))
      (first
      | (go_at_call 27; refine (toQ_at v1 d1 _ ?_ l2 l3).mono ?_; exact (unhide T).s1.later (Below.refl _ _).drew; rintro e w7 ⟨u7, rfl, hb', hn7, ow7, ar7⟩; have hb := below_of_drew hb'; replace V0 := hide ((unhide V0).later hb); replace T := hide ((unhide T).later hb); replace VX0 := hide ((unhide VX0).later hb); replace VX1 := hide ((unhide VX1).later hb); replace VG := hide ((unhide VG).later hb); replace ka0 := (unhide T).x1_0; replace kx0 := (unhide VX1).c0; replace ka1 := (unhide T).x1_1; replace kx1 := (unhide VX1).c1; replace ka2 := (unhide T).x1_2; replace kx2 := (unhide VX1).c2; replace ka3 := (unhide T).x1_3; replace kx3 := (unhide VX1).c3; have S7 := hide ow7.sl; clear hb hb' ow7 ar7 hn7)
      | (go_at_call 30; refine (eqQ_at y1 u7 d1 _ (unhide VX1).own.sl (unhide S7) (by rw [(unhide hn1).1]; exact lm2) (by rw [(unhide hn1).2]; exact lm3)).mono ?_; rintro e w8 ⟨rfl, hb⟩; replace V0 := hide ((unhide V0).later hb); replace T := hide ((unhide T).later hb); replace VX0 := hide ((unhide VX0).later hb); replace VX1 := hide ((unhide VX1).later hb); replace VG := hide ((unhide VG).later hb); replace ka0 := (unhide T).x1_0; replace kx0 := (unhide VX1).c0; replace ka1 := (unhide T).x1_1; replace kx1 := (unhide VX1).c1; replace ka2 := (unhide T).x1_2; replace kx2 := (unhide VX1).c2; replace ka3 := (unhide T).x1_3; replace kx3 := (unhide VX1).c3; clear hb))
    clear S7 ka0 kx0 ka1 kx1 ka2 kx2 ka3 kx3
    have p0 := (unhide VX0).c0
    have p1 := (unhide VX0).c1
    have p2 := (unhide VX0).c2
    have p3 := (unhide VX0).c3
    have hl0 : y0.num.n ≤ 1048576 := by rw [(unhide hn0).1]; exact l0
    have hl1 : y0.den.n ≤ 1048576 := by rw [(unhide hn0).2]; exact l1
    go_wp2_with fail
    refine (markQ_at y0 d0 [] [] 1 (GC) GX0 _ (unhide VX0).own hl0 hl1 (by have := (unhide VX0).gt; omega) (by omega) (by have := (unhide hn0).1; have := (unhide hn0).2; omega)).mono ?_
    rintro e w10 ⟨rfl, hbt, hmk⟩
    replace T := hide ((unhide T).but hbt (by omega) (unhide HX0) (unhide HX1))
    replace V0 := hide ((unhide V0).but hbt (by omega) (by omega))
    replace VX1 := hide ((unhide VX1).but hbt (by omega) (by omega))
    replace VG := hide ((unhide VG).but hbt (by omega) (by omega))
    clear VX0 p0 p1 p2 p3 hbt hmk hl0 hl1
    have p0 := (unhide VX1).c0
    have p1 := (unhide VX1).c1
    have p2 := (unhide VX1).c2
    have p3 := (unhide VX1).c3
    have hl0 : y1.num.n ≤ 1048576 := by rw [(unhide hn1).1]; exact l2
    have hl1 : y1.den.n ≤ 1048576 := by rw [(unhide hn1).2]; exact l3
    go_wp2_with fail
    refine (markQ_at y1 d1 [] [] _ (GX0 + 1) GX1 _ (unhide VX1).own hl0 hl1 (by have := (unhide VX1).gt; omega) (by omega) (by have := (unhide hn0).1; have := (unhide hn0).2; have := (unhide hn1).1; have := (unhide hn1).2; omega)).mono ?_
    rintro e w11 ⟨rfl, hbt, hmk⟩
    replace T := hide ((unhide T).but hbt (by omega) (unhide HX0) (unhide HX1))
    replace V0 := hide ((unhide V0).but hbt (by omega) (by omega))
    replace VG := hide ((unhide VG).but hbt (by omega) (by omega))
    clear VX1 p0 p1 p2 p3 hbt hmk hl0 hl1
    have hk0 : decide ((1 : Int) + (y0.num.n : Int) + (y0.den.n : Int) + (y1.num.n : Int) + (y1.den.n : Int) < 0) = false := by simp; omega
    have p0 := (unhide VG).c0
    have pq0 := (unhide V0).c0
    have p1 := (unhide VG).c1
    have pq1 := (unhide V0).c1
    have p2 := (unhide VG).c2
    have pq2 := (unhide V0).c2
    have p3 := (unhide VG).c3
    have pq3 := (unhide V0).c3
    go_wp2_with fail
    refine (eqQ_at vg vr dr _ (unhide VG).own.sl (unhide V0).own.sl qm0 qm1).mono ?_
    rintro e w20 ⟨rfl, hb⟩
    clear p0 pq0 p1 pq1 p2 pq2 p3 pq3 hk0
    replace V0 := hide ((unhide V0).later hb)
    replace T := hide ((unhide T).later hb)
    replace VG := hide ((unhide VG).later hb)
    clear hb
    have p0 := (unhide VG).c0
    have p1 := (unhide VG).c1
    have p2 := (unhide VG).c2
    have p3 := (unhide VG).c3
    go_wp2_with fail
    refine (markQ_at vg dr [] [] 1 (GX1 + 1) GG _ (unhide VG).own ql0 ql1 (by have := (unhide VG).gt; omega) (by omega) (by omega)).mono ?_
    rintro e w21 ⟨rfl, hbt, hmk⟩
    replace T := hide ((unhide T).but hbt (by omega) (unhide HX0) (unhide HX1))
    replace V0 := hide ((unhide V0).but hbt (by omega) (by omega))
    replace VG := hide ((unhide VG).mark (d' := ⟨⟨dr.num.g, marks (1) vg.num.n⟩, ⟨dr.den.g, marks (1 + vg.num.n) vg.den.n⟩⟩) hbt (by omega) hmk)
    clear p0 p1 p2 p3 hbt hmk
    have p0 := (unhide VG).c0
    have p1 := (unhide VG).c1
    have p2 := (unhide VG).c2
    have p3 := (unhide VG).c3
    go_wp2_with fail
    refine (heldQ_at vg 1 _ ((unhide VG).own.sl (vg.num, ⟨dr.num.g, marks (1) vg.num.n⟩) (by simp)).sl ((unhide VG).own.sl (vg.den, ⟨dr.den.g, marks (1 + (vg.num.n : Int)) vg.den.n⟩) (by simp)).sl ql0 ql1 (by omega) (by omega)).mono ?_
    rintro e wk ⟨rfl, hb⟩
    replace V0 := hide ((unhide V0).later hb)
    replace T := hide ((unhide T).later hb)
    replace VG := hide ((unhide VG).later hb)
    have hr0 : ¬ ((1 : Int) + (vg.num.n : Int) + (vg.den.n : Int) < 0) := by omega
    have zk : w.heap.size + 2 ≤ wk.heap.size := by have h1 := (unhide VG).gt; omega
    clear p0 p1 p2 p3 hb
    go_upto_region 31 with fail
    go_cut [15, 16] (fun p q wx => ∃ (G : Nat) (v : QV) (d : QD) (ok : Bool), p = .pointer (some ⟨G, 0, none⟩) ∧ q = .bool ok ∧ Hid (MetQ wk wx G v d) ∧ Hid (U d ok) ∧ Hid (TlawSimp w wx v0 d0 v1 d1))
    case first =>
      have ka0 := (unhide T).x0_0
      have ka1 := (unhide T).x0_1
      have ka2 := (unhide T).x0_2
      have ka3 := (unhide T).x0_3
      have ka4 := (unhide T).x1_0
      have ka5 := (unhide T).x1_1
      have ka6 := (unhide T).x1_2
      have ka7 := (unhide T).x1_3
      go_region_held3 (fun w' => w'.cell? ⟨w.heap.size, 0, none⟩ = some (.bool v0.num.g) ∧ w'.cell? ⟨w.heap.size, 1, none⟩ = some (.slice v0.num.a v0.num.n v0.num.c) ∧ w'.cell? ⟨w.heap.size, 2, none⟩ = some (.bool v0.den.g) ∧ w'.cell? ⟨w.heap.size, 3, none⟩ = some (.slice v0.den.a v0.den.n v0.den.c) ∧ w'.cell? ⟨w.heap.size + 1, 0, none⟩ = some (.bool v1.num.g) ∧ w'.cell? ⟨w.heap.size + 1, 1, none⟩ = some (.slice v1.num.a v1.num.n v1.num.c) ∧ w'.cell? ⟨w.heap.size + 1, 2, none⟩ = some (.bool v1.den.g) ∧ w'.cell? ⟨w.heap.size + 1, 3, none⟩ = some (.slice v1.den.a v1.den.n v1.den.c)) (with_reducible (first | exact ⟨ka0, ka1, ka2, ka3, ka4, ka5, ka6, ka7⟩ | exact ⟨cd_other ka0, cd_other ka1, cd_other ka2, cd_other ka3, cd_other ka4, cd_other ka5, cd_other ka6, cd_other ka7⟩ | exact ⟨ca_other ka0, ca_other ka1, ca_other ka2, ca_other ka3, ca_other ka4, ca_other ka5, ca_other ka6, ca_other ka7⟩ | exact ⟨cd_other (ca_other ka0), cd_other (ca_other ka1), cd_other (ca_other ka2), cd_other (ca_other ka3), cd_other (ca_other ka4), cd_other (ca_other ka5), cd_other (ca_other ka6), cd_other (ca_other ka7)⟩ | exact ⟨cs_other (cs_other (cs_other (cs_other (ka0) (by omega)) (by omega)) (by omega)) (by omega), cs_other (cs_other (cs_other (cs_other (ka1) (by omega)) (by omega)) (by omega)) (by omega), cs_other (cs_other (cs_other (cs_other (ka2) (by omega)) (by omega)) (by omega)) (by omega), cs_other (cs_other (cs_other (cs_other (ka3) (by omega)) (by omega)) (by omega)) (by omega), cs_other (cs_other (cs_other (cs_other (ka4) (by omega)) (by omega)) (by omega)) (by omega), cs_other (cs_other (cs_other (cs_other (ka5) (by omega)) (by omega)) (by omega)) (by omega), cs_other (cs_other (cs_other (cs_other (ka6) (by omega)) (by omega)) (by omega)) (by omega), cs_other (cs_other (cs_other (cs_other (ka7) (by omega)) (by omega)) (by omega)) (by omega)⟩ | fail))
        (first
        | (go_at_call_of 27 (Value.agg #[Value.bool v0.num.g, Value.slice v0.num.a v0.num.n v0.num.c, Value.bool v0.den.g, Value.slice v0.den.a v0.den.n v0.den.c]); refine (toQ_at v0 d0 _ ?_ l0 l1).mono ?_; (first | exact (unhide T).s0.later (Below.refl _ _).drew | exact (unhide T).s0.later ((Below.refl _ _).alloc (Nat.le_refl _) _).drew); rintro e wa0 ⟨qa0, rfl, hb, hna0, ow, ar⟩; have hbx : Below wk.heap.size wk wa0 := (by first | exact below_of_drew hb | exact bad hb); have sz0 := hbx.size; replace T := hide ((unhide T).later hbx); replace ka0 := (unhide T).x0_0; replace ka1 := (unhide T).x0_1; replace ka2 := (unhide T).x0_2; replace ka3 := (unhide T).x0_3; replace ka4 := (unhide T).x1_0; replace ka5 := (unhide T).x1_1; replace ka6 := (unhide T).x1_2; replace ka7 := (unhide T).x1_3; (try (replace gf := fun o => frozen_later hbx (World.block_lt_of_cell? _ _ g0) (gf o); replace g0 := cell_later hbx g0; replace g1 := cell_later hbx g1; replace g2 := cell_later hbx g2; replace g3 := cell_later hbx g3)); (try (refine cutP (p := wa0.cell? ⟨wk.heap.size, 0, none⟩ = some (.bool false) ∧ wa0.cell? ⟨wk.heap.size, 1, none⟩ = some (.slice none 0 0) ∧ wa0.cell? ⟨wk.heap.size, 2, none⟩ = some (.bool false) ∧ wa0.cell? ⟨wk.heap.size, 3, none⟩ = some (.slice none 0 0) ∧ ∀ o, wa0.frozen? ⟨wk.heap.size, o, none⟩ = false) ?_ (fun dd => ?_); (focus (refine ⟨cell_later hb ?_, cell_later hb ?_, cell_later hb ?_, cell_later hb ?_, fun o => frozen_later hb ?_ ?_⟩ <;> (simp [go_sem]; done))); obtain ⟨g0, g1, g2, g3, gf⟩ := dd)); have zz0 := hb.size; (try simp at zz0); have HBr := hide hbx; have A0 := hide ar; clear hb hbx ow ar hna0)
        | (go_at_call_of 27 (Value.agg #[Value.bool v1.num.g, Value.slice v1.num.a v1.num.n v1.num.c, Value.bool v1.den.g, Value.slice v1.den.a v1.den.n v1.den.c]); refine (toQ_at v1 d1 _ ?_ l2 l3).mono ?_; (first | exact (unhide T).s1 | exact (unhide T).s1.later ((Below.refl _ _).alloc (Nat.le_refl _) _)); rintro e wa1 ⟨qa1, rfl, hb, hna1, ow, ar⟩; have hbx : Below wa0.heap.size wa0 wa1 := (by first | exact hb | exact ba hb); have sz1 := hbx.size; replace T := hide ((unhide T).later hbx); replace ka0 := (unhide T).x0_0; replace ka1 := (unhide T).x0_1; replace ka2 := (unhide T).x0_2; replace ka3 := (unhide T).x0_3; replace ka4 := (unhide T).x1_0; replace ka5 := (unhide T).x1_1; replace ka6 := (unhide T).x1_2; replace ka7 := (unhide T).x1_3; replace A0 := hide ((unhide A0).later hbx); (try (replace gf := fun o => frozen_later hbx (World.block_lt_of_cell? _ _ g0) (gf o); replace g0 := cell_later hbx g0; replace g1 := cell_later hbx g1; replace g2 := cell_later hbx g2; replace g3 := cell_later hbx g3)); (try (refine cutP (p := wa1.cell? ⟨wa0.heap.size, 0, none⟩ = some (.bool false) ∧ wa1.cell? ⟨wa0.heap.size, 1, none⟩ = some (.slice none 0 0) ∧ wa1.cell? ⟨wa0.heap.size, 2, none⟩ = some (.bool false) ∧ wa1.cell? ⟨wa0.heap.size, 3, none⟩ = some (.slice none 0 0) ∧ ∀ o, wa1.frozen? ⟨wa0.heap.size, o, none⟩ = false) ?_ (fun dd => ?_); (focus (refine ⟨cell_later hb ?_, cell_later hb ?_, cell_later hb ?_, cell_later hb ?_, fun o => frozen_later hb ?_ ?_⟩ <;> (simp [go_sem]; done))); obtain ⟨g0, g1, g2, g3, gf⟩ := dd)); have zz1 := hb.size; (try simp at zz1); have HBr := hide (below_on (unhide HBr) hbx); have A1 := hide ar; clear hb hbx ow ar hna1)
        | (go_at_call 40; refine (unhide CI _ _ _ ?_ ?_).mono ?_; (first | exact unhide A0 | exact (unhide A0).later ((Below.refl _ _).alloc (Nat.le_refl _) _)); (first | exact unhide A1 | exact (unhide A1).later ((Below.refl _ _).alloc (Nat.le_refl _) _)); rintro e w5 ⟨vr, dr, okr, rfl, hb, hown, hu⟩; have hbx : Below wa1.heap.size wa1 w5 := (by first | exact hb | exact ba hb); have sz2 := hbx.size; replace T := hide ((unhide T).later hbx); replace ka0 := (unhide T).x0_0; replace ka1 := (unhide T).x0_1; replace ka2 := (unhide T).x0_2; replace ka3 := (unhide T).x0_3; replace ka4 := (unhide T).x1_0; replace ka5 := (unhide T).x1_1; replace ka6 := (unhide T).x1_2; replace ka7 := (unhide T).x1_3; replace A0 := hide ((unhide A0).later hbx); replace A1 := hide ((unhide A1).later hbx); (try (replace gf := fun o => frozen_later hbx (World.block_lt_of_cell? _ _ g0) (gf o); replace g0 := cell_later hbx g0; replace g1 := cell_later hbx g1; replace g2 := cell_later hbx g2; replace g3 := cell_later hbx g3)); (try (refine cutP (p := w5.cell? ⟨wa1.heap.size, 0, none⟩ = some (.bool false) ∧ w5.cell? ⟨wa1.heap.size, 1, none⟩ = some (.slice none 0 0) ∧ w5.cell? ⟨wa1.heap.size, 2, none⟩ = some (.bool false) ∧ w5.cell? ⟨wa1.heap.size, 3, none⟩ = some (.slice none 0 0) ∧ ∀ o, w5.frozen? ⟨wa1.heap.size, o, none⟩ = false) ?_ (fun dd => ?_); (focus (refine ⟨cell_later hb ?_, cell_later hb ?_, cell_later hb ?_, cell_later hb ?_, fun o => frozen_later hb ?_ ?_⟩ <;> (simp [go_sem]; done))); obtain ⟨g0, g1, g2, g3, gf⟩ := dd)); have zz2 := hb.size; (try simp at zz2); have HBr := hide (below_on (unhide HBr) hbx); have O5 := hide hown; have U5 := hide hu; clear hb hbx hown hu))
      all_goals go_wp2_with fail
      all_goals go_meet
      all_goals first
        | (with_reducible refine ⟨_, vr, dr, okr, rfl, rfl, hide (metQ_alloc 40 (unhide HBr) (unhide O5) ?_), U5, hide ((unhide T).later ((Below.refl _ _).alloc (Nat.le_refl _) _))⟩; omega)
        | (with_reducible refine ⟨_, vr, dr, okr, rfl, rfl, hide (metQ_set (unhide HBr) (unhide O5) ?_ ?_ g0 g1 g2 g3), U5, hide ((unhide T).but metQ_but ?_ (unhide HX0) (unhide HX1))⟩ <;> first | omega | (simp; done) | (simp; omega))
    case rest =>
      obtain ⟨GH, vh, dh, okh, rfl, rfl, HM, UH, T9⟩ := hcut
      obtain ⟨e1, e2⟩ := unhide US _ _ _ _ (unhide UR) (unhide UH)
      subst e1 e2
      have VH := hide (unhide HM).var
      replace V0 := hide ((unhide V0).later (unhide HM).bel)
      replace VG := hide ((unhide VG).later (unhide HM).bel)
      clear HM
      clear T
      have T := T9
      clear T9
      have hm0 : vh.num.n ≤ maxLen := by rw [← ((unhide VH).own.own (vh.num, dr.num) (by simp)).len, ((unhide V0).own.own (vr.num, dr.num) (by simp)).len]; exact rm0
      have hm1 : vh.den.n ≤ maxLen := by rw [← ((unhide VH).own.own (vh.den, dr.den) (by simp)).len, ((unhide V0).own.own (vr.den, dr.den) (by simp)).len]; exact rm1
      have p0 := (unhide VH).c0
      have pq0 := (unhide V0).c0
      have p1 := (unhide VH).c1
      have pq1 := (unhide V0).c1
      have p2 := (unhide VH).c2
      have pq2 := (unhide V0).c2
      have p3 := (unhide VH).c3
      have pq3 := (unhide V0).c3
      go_wp2_with fail
      refine (eqQ_at vh vr dr _ (unhide VH).own.sl (unhide V0).own.sl hm0 hm1).mono ?_
      rintro e w30 ⟨rfl, hb⟩
      clear p0 pq0 p1 pq1 p2 pq2 p3 pq3
      replace T := hide ((unhide T).later hb)
      replace VG := hide ((unhide VG).later hb)
      clear hb VH V0
      have p0 := (unhide VG).c0
      have p1 := (unhide VG).c1
      have p2 := (unhide VG).c2
      have p3 := (unhide VG).c3
      go_wp2_with fail
      refine (heldQ_at vg 1 _ ((unhide VG).own.sl (vg.num, ⟨dr.num.g, marks (1) vg.num.n⟩) (by simp)).sl ((unhide VG).own.sl (vg.den, ⟨dr.den.g, marks (1 + (vg.num.n : Int)) vg.den.n⟩) (by simp)).sl ql0 ql1 (by omega) (by omega)).mono ?_
      rintro e w31 ⟨rfl, hb⟩
      replace T := hide ((unhide T).later hb)
      clear p0 p1 p2 p3 hb
      go_wp2
      go_ret
      exact ⟨rfl, (unhide T).bel⟩

theorem lawSimp_walk (v0 : QV) (v1 : QV) (d0 : QD) (d1 : QD) (w : World) (hx0 : AllSl w [(v0.num, d0.num), (v0.den, d0.den)]) (hx1 : AllSl w [(v1.num, d1.num), (v1.den, d1.den)])  (m0 : v0.num.n ≤ maxLen) (m1 : v0.den.n ≤ maxLen) (m2 : v1.num.n ≤ maxLen) (m3 : v1.den.n ≤ maxLen) :
    Calls Try.prog 6 #[.agg #[.bool v0.num.g, .slice v0.num.a v0.num.n v0.num.c, .bool v0.den.g, .slice v0.den.a v0.den.n v0.den.c], .agg #[.bool v1.num.g, .slice v1.num.a v1.num.n v1.num.c, .bool v1.den.g, .slice v1.den.a v1.den.n v1.den.c]] w fun e w' => e = .returned (.bool true) ∧ Below w.heap.size w w' := by
  by_cases g0 : v0.num.n + v0.den.n ≤ 1048576
  · by_cases g1 : v0.num.n + v0.den.n + v1.num.n + v1.den.n ≤ 1048576
    · exact lawSimp_in v0 v1 d0 d1 w hx0 hx1  g1
    · exact lawSimp_out1 v0 v1 w m2 m3 g0 (by omega)
  · exact lawSimp_out0 v0 v1 w m0 m1 (by omega) (by omega)
end Go.Proofs.Ytfmjbpfnhgkhkaa
namespace Go.Proofs.Ytfmjbpfnhgkhkaa
open Go.ChangeShapes Go.WideShapes Go.ChangeAt Go.RowKit Go.Joins
set_option linter.unusedVariables false
set_option maxRecDepth 100000
set_option linter.unusedSimpArgs false

set_option maxRecDepth 100000 in
theorem simp_holds_lifted (os : Os) (started : os.Started) (H : Type) (enc : TypeId × Value → H) :
    ReturnsInHanded {} Try.checked os 6 .any (Rows.fnExactSimplestInSpec.pre6 enc Try.prog Try.f6 Rows.fnExactSimplestInRow.domain false) (Rows.fnExactSimplestInSpec.post enc Try.prog Try.f6 false true false false) := by
  refine returnsInHanded_of_change (C := Try.checked) own started (by kernel_rfl) Try.func6
    (ChangeSpec.witness6 (enc := enc) (C := Try.checked) false ⟨#[], #[.agg #[.bool false, .slice none 0 0, .bool false, .slice none 0 0], .agg #[.bool false, .slice none 0 0, .bool false, .slice none 0 0]], []⟩ 8 (by kernel_rfl) (by kernel_rfl) (by kernel_rfl) (by kernel_rfl)) ?_
  intro W base args ds gs before hval0 hW hcnd _
  have hval : ∀ (j : Nat) t v, Try.f6.params[j]? = some t → args[j]? = some v → Value.okWide Try.prog W .any base t v := hval0
  have hW' := hW
  obtain ⟨p, q, hA0, hV, rfl, hfz, hnd⟩ := hW
  have hA : DataW.TrodAll enc Try.prog W 0 (fun _ => true) true Try.f6.params.toList args.toList ds p := hA0
  rw [Try.params6] at hA hval
  obtain ⟨v0, vs0, d0, ds0, p0, q0, hargs, rfl, rfl, h0, r0⟩ := trodAll_cons hA
  obtain ⟨v1, vs1, d1, ds1, p1, q1, rfl, rfl, rfl, h1, r1⟩ := trodAll_cons r0
  obtain ⟨rfl, rfl, rfl⟩ := trodAll_nil r1
  obtain rfl : args = #[v0, v1] := by cases args; simp_all
  obtain ⟨rfl, rfl⟩ := trodVars_none hV
  have lt0 : ∀ x ∈ p0, x.block < W.heap.size := by obtain ⟨m, hm⟩ := h0; exact DataW.trod_lt m _ _ _ hm
  obtain ⟨u0, e0, rfl, sl0, m0_0, m0_1⟩ := open_Q (hval 0 34 v0 rfl rfl) h0
  have lt1 : ∀ x ∈ p1, x.block < W.heap.size := by obtain ⟨m, hm⟩ := h1; exact DataW.trod_lt m _ _ _ hm
  obtain ⟨u1, e1, rfl, sl1, m1_0, m1_1⟩ := open_Q (hval 1 34 v1 rfl rfl) h1
  clear hA0 hval0
  refine (lawSimp_walk u0 u1 e0 e1 W sl0 sl1 m0_0 m0_1 m1_0 m1_1).mono fun e W' ⟨he, bel⟩ => ?_
  subst he
  exact ⟨_, rfl, _, _, _, [], _, [], hW', trodAll_mk1 (shut_bool Try.underlying4 _), (trodAll_cons_mk (Below.trod laidOut (by kernel_rfl) (of_decide_eq_true (by kernel_rfl)) h0 bel lt0) (trodAll_cons_mk (Below.trod laidOut (by kernel_rfl) (of_decide_eq_true (by kernel_rfl)) h1 bel lt1) trodAll_mk0)), rfl, bel.frame _, fun h => by cases h⟩

theorem simp_holds_c0 : (Rows.fnExactSimplestInRow.wf (OpenSpec.ofChange Rows.fnExactSimplestInSpec)) = true := by kernel_rfl
theorem simp_holds_c1 : (laidOutB Try.pinned.checked.prog) = true := by kernel_rfl
theorem simp_holds_c2 : (mapsRowed Try.pinned.checked.prog) = true := by kernel_rfl
theorem simp_holds_c3 : (Try.f6.params.all (Try.pinned.checked.prog.readableRec ·)) = true := by kernel_rfl
theorem simp_holds_c4 : (namedTie Try.pinned.checked.prog Rows.fnExactSimplestInRow.named Rows.fnExactSimplestInSpec.vars) = true := by kernel_rfl
theorem simp_holds_c5 : (Rows.fnExactSimplestInRow.stops == []) = true := by kernel_rfl
theorem simp_holds_c6 : (Try.pinned.checked.prog.stops == []) = true := by kernel_rfl
theorem simp_holds_c7 : (Rows.fnExactSimplestInRow.knobs == []) = true := by kernel_rfl
theorem simp_holds_c8 : (Try.pinned.checked.prog.stopKnobs == []) = true := by kernel_rfl
theorem simp_holds_c9 : (Rows.fnExactSimplestInRow.inPlace == Try.pinned.checked.prog.inPlace 6) = true := by kernel_rfl
theorem simp_holds_c10 : (Rows.fnExactSimplestInRow.unfollowed == Try.pinned.checked.prog.unfollowed 6) = true := by kernel_rfl
theorem simp_holds_c11 : (Rows.fnExactSimplestInRow.recurses == Try.pinned.checked.prog.recurses 6) = true := by kernel_rfl
theorem simp_holds_c12 : (Rows.fnExactSimplestInRow.named == Try.pinned.checked.prog.varsNamed 6) = true := by kernel_rfl
theorem simp_holds_c13 : (Rows.fnExactSimplestInRow.maps == (Try.f6.params.toList ++ Rows.fnExactSimplestInSpec.plain.varTypes Try.pinned.checked.prog).any (Try.pinned.checked.prog.mapsRec ·)) = true := by kernel_rfl
theorem simp_holds_c14 : (Rows.fnExactSimplestInRow.ifaces == (Try.f6.params.toList ++ Rows.fnExactSimplestInSpec.plain.varTypes Try.pinned.checked.prog).any (Try.pinned.checked.prog.ifacesRec ·)) = true := by kernel_rfl
theorem simp_holds_c15 : (Rows.fnExactSimplestInRow.mapsOut == Try.pinned.checked.prog.mapsAmong Try.f6.resultTypes.toList) = true := by kernel_rfl
theorem simp_holds_c16 : (Rows.fnExactSimplestInRow.loops == (Try.f6.params.toList ++ Rows.fnExactSimplestInSpec.plain.varTypes Try.pinned.checked.prog).any (Try.pinned.checked.prog.loopsFrom ·)) = true := by kernel_rfl
theorem simp_holds_c17 : (Rows.fnExactSimplestInRow.wideKeys == (Try.f6.params.toList ++ Rows.fnExactSimplestInSpec.plain.varTypes Try.pinned.checked.prog ++ Try.f6.resultTypes.toList).any (Try.pinned.checked.prog.wideKeysFrom ·)) = true := by kernel_rfl
theorem simp_holds_c18 : (Rows.fnExactSimplestInSpec.vars.all (Try.pinned.checked.prog.varReadable ·)) = true := by kernel_rfl
theorem simp_holds_c19 : (Try.f6.resultTypes.all (fun t => Try.pinned.checked.prog.readableRec t && decide (t < Try.pinned.checked.prog.types.size))) = true := by kernel_rfl
theorem simp_holds_c20 : (Rows.fnExactSimplestInRow.ifacesOut == Try.f6.resultTypes.toList.any (Try.pinned.checked.prog.ifacesRec ·)) = true := by kernel_rfl
theorem simp_holds_c21 : (Rows.fnExactSimplestInRow.loopsOut == Try.f6.resultTypes.toList.any (Try.pinned.checked.prog.loopsFrom ·)) = true := by kernel_rfl
theorem simp_holds_c22 : (Rows.fnExactSimplestInRow.plainKeys == Try.pinned.checked.prog.plainKeys) = true := by kernel_rfl
theorem simp_holds_c23 : (Rows.fnExactSimplestInRow.shortTexts.isNone) = true := by kernel_rfl
theorem simp_holds_c24 : (Try.pinned.checked.prog.stopsHeard) = true := by kernel_rfl
theorem simp_holds_c25 : (Try.pinned.checked.prog.mayEnter) = true := io_enter
theorem simp_holds_c26 : (Rows.fnExactSimplestInRow.lifted == Try.pinned.checked.prog.liftsFinal) = true := by rw [io_lifts]; kernel_rfl
theorem simp_holds_c27 : (Try.pinned.checked.prog.make == some Rows.fnExactSimplestInRow.make) = true := by rw [io_make]; kernel_rfl
theorem simp_holds_c28 : (Rows.fnExactSimplestInRow.kinds == (if Rows.fnExactSimplestInRow.domain.isEmpty then [] else Try.f6.params.toList.map fun t => match Try.pinned.checked.prog.underlying t with | some (.int k) => some k | _ => none)) = true := by kernel_rfl
theorem simp_holds_c29 : (Rows.fnExactSimplestInRow.pinned == Rows.fnExactSimplestInRow.pinnedBy) = true := by kernel_rfl
theorem simp_holds_c30 : (Rows.fnExactSimplestInRow.veiled == (Try.f6.params.toList ++ Rows.fnExactSimplestInSpec.plain.varTypes Try.pinned.checked.prog ++ Try.f6.resultTypes.toList).any (Try.pinned.checked.prog.veiledRec ·)) = true := by kernel_rfl
theorem simp_holds_c31 : (Rows.fnExactSimplestInRow.veiledFits Try.pinned.checked.prog Try.f6.params.toList (Try.f6.params.toList ++ Rows.fnExactSimplestInSpec.plain.varTypes Try.pinned.checked.prog ++ Try.f6.resultTypes.toList)) = true := by kernel_rfl
theorem simp_holds_and {a b : Bool} (h : a = true) (k : b = true) : (a && b) = true := by rw [h, k]; rfl
theorem simp_holds_closed : joinedFacts Try.pinned.checked.prog 6 Try.f6 Rows.fnExactSimplestInSpec Rows.fnExactSimplestInRow = true := (simp_holds_and (simp_holds_and (simp_holds_and (simp_holds_and (simp_holds_and (simp_holds_and (simp_holds_and (simp_holds_and (simp_holds_and (simp_holds_and (simp_holds_and (simp_holds_and (simp_holds_and (simp_holds_and (simp_holds_and (simp_holds_and (simp_holds_and (simp_holds_and (simp_holds_and (simp_holds_and (simp_holds_and (simp_holds_and (simp_holds_and (simp_holds_and (simp_holds_and (simp_holds_and (simp_holds_and (simp_holds_and (simp_holds_and (simp_holds_and (simp_holds_and simp_holds_c0 simp_holds_c1) simp_holds_c2) simp_holds_c3) simp_holds_c4) simp_holds_c5) simp_holds_c6) simp_holds_c7) simp_holds_c8) simp_holds_c9) simp_holds_c10) simp_holds_c11) simp_holds_c12) simp_holds_c13) simp_holds_c14) simp_holds_c15) simp_holds_c16) simp_holds_c17) simp_holds_c18) simp_holds_c19) simp_holds_c20) simp_holds_c21) simp_holds_c22) simp_holds_c23) simp_holds_c24) simp_holds_c25) simp_holds_c26) simp_holds_c27) simp_holds_c28) simp_holds_c29) simp_holds_c30) simp_holds_c31)
theorem simp_holds_named : Try.pinned.checked.prog.funcNamed Rows.fnExactSimplestInRow.func = some 6 := by kernel_rfl
theorem simp_holds_inst : Try.f6.isInstance Try.pinned.checked.prog Rows.fnExactSimplestInRow.origin Rows.fnExactSimplestInRow.targs := of_decide_eq_true (by kernel_rfl)
theorem simp_holds_wrap : Try.f6.isWrapper Try.pinned.checked.prog Rows.fnExactSimplestInRow.wrapper Rows.fnExactSimplestInRow.mainSum := by unfold Func.isWrapper; first | (rw [if_pos (by decide +kernel)]; kernel_rfl) | (rw [if_neg (by decide +kernel)]; exact ⟨rfl, rfl⟩)
theorem simp_holds : Rows.FnExactSimplestInSaid :=
  OpenClaim.holds_of_wide 6 Try.f6 rfl rfl rfl rfl rfl rfl rfl ⟨rfl, rfl, rfl, rfl, rfl⟩ rfl rfl rfl rfl rfl simp_holds_named Try.func6 simp_holds_closed simp_holds_inst simp_holds_wrap
    (fun os started H enc _ => simp_holds_lifted os started H enc)
#print axioms simp_holds
end Go.Proofs.Ytfmjbpfnhgkhkaa
