/- The laws' functions over fractions: szRat, toRat, eqRat, markRat and heldRat. No condition beyond those typed. -/
import Derived.Test.YtokajpeopijneaaLaw2
namespace Go.Proofs.Ytokajpeopijneaa
open Go.RowKit
set_option linter.unusedVariables false
set_option maxRecDepth 100000
set_option linter.unusedSimpArgs false

/-- A fraction's value without what its slices lead to. -/
structure RV where
  g : Bool
  a : Option Addr
  n : Nat
  c : Nat
  h : Bool
  b : Option Addr
  p : Nat
  d : Nat

/-- Both slices of a fraction lead to their limbs. -/
structure RSl (w : World) (r : RV) (xs us : List Int) : Prop where
  s0 : Sl w r.a xs
  l0 : xs.length = r.n
  s1 : Sl w r.b us
  l1 : us.length = r.p
theorem RSl.later {w w' : World} {r : RV} {xs us : List Int} (h : RSl w r xs us) (hb : Below w.heap.size w w') : RSl w' r xs us := ⟨h.s0.later (Nat.le_refl _) hb, h.l0, h.s1.later (Nat.le_refl _) hb, h.l1⟩
theorem RSl.drew {w : World} {r : RV} {xs us : List Int} (h : RSl w r xs us) : RSl w.drew r xs us := h.later (Below.refl _ _).drew
/-- Two slices lie in two blocks, or one of them has nothing. -/
def Dis (a : Option Addr) (zs : List Int) (a' : Option Addr) (rs : List Int) : Prop := zs = [] ∨ rs = [] ∨ ∃ b o b' o', a = some ⟨b, o, none⟩ ∧ a' = some ⟨b', o', none⟩ ∧ b ≠ b'
theorem dis_of {base : Nat} {w w' : World} {a a' : Option Addr} {zs rs : List Int} (h : Own base w a zs) (k : Own w.heap.size w' a' rs) : Dis a zs a' rs := by
  rcases h with h | ⟨b, cur, rfl, h1, hg, hc⟩
  · exact .inl h
  · rcases k with k | ⟨b', cur', rfl, k1, kg, kc⟩
    · exact .inr (.inl k)
    · exact .inr (.inr ⟨b, 0, b', 0, rfl, rfl, by have := (Array.getElem?_eq_some_iff.1 hg).1; omega⟩)
/-- Both slices of a fraction are a call's own. -/
structure ROwn (base : Nat) (w : World) (r : RV) (xs us : List Int) : Prop where
  o0 : Own base w r.a xs
  l0 : xs.length = r.n
  o1 : Own base w r.b us
  l1 : us.length = r.p
  dis : Dis r.a xs r.b us
theorem ROwn.later {base : Nat} {w w' : World} {r : RV} {xs us : List Int} (h : ROwn base w r xs us) (hb : Below w.heap.size w w') : ROwn base w' r xs us := ⟨h.o0.later hb, h.l0, h.o1.later hb, h.l1, h.dis⟩
theorem ROwn.mono {base base' : Nat} {w : World} {r : RV} {xs us : List Int} (h : ROwn base w r xs us) (hb : base' ≤ base) : ROwn base' w r xs us := ⟨h.o0.mono hb, h.l0, h.o1.mono hb, h.l1, h.dis⟩
theorem ROwn.sl {base : Nat} {w : World} {r : RV} {xs us : List Int} (h : ROwn base w r xs us) : RSl w r xs us := ⟨h.o0.sl, h.l0, h.o1.sl, h.l1⟩
/-- The same, at blocks from lo to below hi. -/
structure ROwn2 (lo hi : Nat) (w : World) (r : RV) (xs us : List Int) : Prop where
  o0 : Own2 lo hi w r.a xs
  l0 : xs.length = r.n
  o1 : Own2 lo hi w r.b us
  l1 : us.length = r.p
  dis : Dis r.a xs r.b us
theorem ROwn.two {lo : Nat} {w : World} {r : RV} {xs us : List Int} (h : ROwn lo w r xs us) : ROwn2 lo w.heap.size w r xs us := ⟨h.o0.two, h.l0, h.o1.two, h.l1, h.dis⟩
theorem ROwn2.later {lo hi : Nat} {w w' : World} {r : RV} {xs us : List Int} (h : ROwn2 lo hi w r xs us) (hb : Below w.heap.size w w') : ROwn2 lo hi w' r xs us := ⟨h.o0.later hb, h.l0, h.o1.later hb, h.l1, h.dis⟩
theorem ROwn2.but {lo hi lo' hi' : Nat} {w w' : World} {r : RV} {xs us : List Int} (h : ROwn2 lo hi w r xs us) (hb : But lo' hi' w w') (hd : hi ≤ lo' ∨ hi' ≤ lo) : ROwn2 lo hi w' r xs us := ⟨h.o0.but hb hd, h.l0, h.o1.but hb hd, h.l1, h.dis⟩
theorem ROwn2.sl {lo hi : Nat} {w : World} {r : RV} {xs us : List Int} (h : ROwn2 lo hi w r xs us) : RSl w r xs us := ⟨h.o0.sl, h.l0, h.o1.sl, h.l1⟩

theorem eq_rat (r r' : RV) (xs us : List Int) (w : World) (hx : RSl w r xs us) (hx' : RSl w r' xs us) (hg : r.g = r'.g) (hh : r.h = r'.h) (hm : r.n ≤ maxLen) (hm2 : r.p ≤ maxLen) :
    Calls Try.prog 33 #[.agg #[.bool r.g, .slice r.a r.n r.c, .bool r.h, .slice r.b r.p r.d], .agg #[.bool r'.g, .slice r'.a r'.n r'.c, .bool r'.h, .slice r'.b r'.p r'.d]] w fun e w' => e = .returned (.bool true) ∧ Below w.heap.size w w' := by
  obtain ⟨g, a, n, c, h', b, p, d⟩ := r
  obtain ⟨g2, a2, n2, c2, h2, b2, p2, d2⟩ := r'
  simp only at hg hh hm hm2 ⊢
  subst hg hh
  obtain rfl : n = n2 := hx.l0.symm.trans hx'.l0
  obtain rfl : p = p2 := hx.l1.symm.trans hx'.l1
  have HX := hide hx
  have HX' := hide hx'
  clear hx hx'
  have B2 := hide (below_two w (.cells #[.bool g, .slice a n c, .bool h', .slice b p d] 42) (.cells #[.bool g, .slice a2 n c2, .bool h', .slice b2 p d2] 42))
  go_enter Try.func33, Try.ntmps33
  go_wp2_with fail
  refine (eq_same g a a2 n c c2 xs _ ((unhide HX).s0.later (Nat.le_refl _) (unhide B2)) ((unhide HX').s0.later (Nat.le_refl _) (unhide B2)) (unhide HX).l0 hm).mono ?_
  rintro e w1 ⟨rfl, hb1⟩
  have x2 : w1.cell? ⟨w.heap.size, 2, none⟩ = some (.bool h') := cell_later hb1 (by simp [go_sem])
  have x3 : w1.cell? ⟨w.heap.size, 3, none⟩ = some (.slice b p d) := cell_later hb1 (by simp [go_sem])
  have y2 : w1.cell? ⟨w.heap.size + 1, 2, none⟩ = some (.bool h') := cell_later hb1 (by simp [go_sem])
  have y3 : w1.cell? ⟨w.heap.size + 1, 3, none⟩ = some (.slice b2 p d2) := cell_later hb1 (by simp [go_sem])
  have HB := hide (below_two' hb1)
  clear hb1
  go_wp2_with fail
  refine (eq_same h' b b2 p d d2 us _ ((unhide HX).s1.later (Nat.le_refl _) (unhide HB)) ((unhide HX').s1.later (Nat.le_refl _) (unhide HB)) (unhide HX).l1 hm2).mono ?_
  rintro e w2 ⟨rfl, hb2⟩
  have HB2 := hide (below_on (unhide HB) hb2)
  clear hb2
  go_wp2
  go_ret
  exact ⟨rfl, unhide HB2⟩
end Go.Proofs.Ytokajpeopijneaa
