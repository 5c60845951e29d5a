/- The laws' functions over fractions: szRat, toRat, eqRat, markRat and heldRat. No condition beyond those typed. -/
import Derived.Test.YtdgonpbponnnaaaGreatDoorLaw2
namespace Go.Proofs.YtdgonpbponnnaaaGreatDoor
open Go.RowKit
set_option linter.unusedVariables false
set_option maxRecDepth 100000
set_option linter.unusedSimpArgs false

/-- A fraction's value without what its slices lead to. -/
structure RV where
  g : Bool
  a : Option Addr
  n : Nat
  c : Nat
  h : Bool
  b : Option Addr
  p : Nat
  d : Nat

/-- Both slices of a fraction lead to their limbs. -/
structure RSl (w : World) (r : RV) (xs us : List Int) : Prop where
  s0 : Sl w r.a xs
  l0 : xs.length = r.n
  s1 : Sl w r.b us
  l1 : us.length = r.p
theorem RSl.later {w w' : World} {r : RV} {xs us : List Int} (h : RSl w r xs us) (hb : Below w.heap.size w w') : RSl w' r xs us := ⟨h.s0.later (Nat.le_refl _) hb, h.l0, h.s1.later (Nat.le_refl _) hb, h.l1⟩
theorem RSl.drew {w : World} {r : RV} {xs us : List Int} (h : RSl w r xs us) : RSl w.drew r xs us := h.later (Below.refl _ _).drew
/-- Two slices lie in two blocks, or one of them has nothing. -/
def Dis (a : Option Addr) (zs : List Int) (a' : Option Addr) (rs : List Int) : Prop := zs = [] ∨ rs = [] ∨ ∃ b o b' o', a = some ⟨b, o, none⟩ ∧ a' = some ⟨b', o', none⟩ ∧ b ≠ b'
theorem dis_of {base : Nat} {w w' : World} {a a' : Option Addr} {zs rs : List Int} (h : Own base w a zs) (k : Own w.heap.size w' a' rs) : Dis a zs a' rs := by
  rcases h with h | ⟨b, cur, rfl, h1, hg, hc⟩
  · exact .inl h
  · rcases k with k | ⟨b', cur', rfl, k1, kg, kc⟩
    · exact .inr (.inl k)
    · exact .inr (.inr ⟨b, 0, b', 0, rfl, rfl, by have := (Array.getElem?_eq_some_iff.1 hg).1; omega⟩)
/-- Both slices of a fraction are a call's own. -/
structure ROwn (base : Nat) (w : World) (r : RV) (xs us : List Int) : Prop where
  o0 : Own base w r.a xs
  l0 : xs.length = r.n
  o1 : Own base w r.b us
  l1 : us.length = r.p
  dis : Dis r.a xs r.b us
theorem ROwn.later {base : Nat} {w w' : World} {r : RV} {xs us : List Int} (h : ROwn base w r xs us) (hb : Below w.heap.size w w') : ROwn base w' r xs us := ⟨h.o0.later hb, h.l0, h.o1.later hb, h.l1, h.dis⟩
theorem ROwn.mono {base base' : Nat} {w : World} {r : RV} {xs us : List Int} (h : ROwn base w r xs us) (hb : base' ≤ base) : ROwn base' w r xs us := ⟨h.o0.mono hb, h.l0, h.o1.mono hb, h.l1, h.dis⟩
theorem ROwn.sl {base : Nat} {w : World} {r : RV} {xs us : List Int} (h : ROwn base w r xs us) : RSl w r xs us := ⟨h.o0.sl, h.l0, h.o1.sl, h.l1⟩
/-- The same, at blocks from lo to below hi. -/
structure ROwn2 (lo hi : Nat) (w : World) (r : RV) (xs us : List Int) : Prop where
  o0 : Own2 lo hi w r.a xs
  l0 : xs.length = r.n
  o1 : Own2 lo hi w r.b us
  l1 : us.length = r.p
  dis : Dis r.a xs r.b us
theorem ROwn.two {lo : Nat} {w : World} {r : RV} {xs us : List Int} (h : ROwn lo w r xs us) : ROwn2 lo w.heap.size w r xs us := ⟨h.o0.two, h.l0, h.o1.two, h.l1, h.dis⟩
theorem ROwn2.later {lo hi : Nat} {w w' : World} {r : RV} {xs us : List Int} (h : ROwn2 lo hi w r xs us) (hb : Below w.heap.size w w') : ROwn2 lo hi w' r xs us := ⟨h.o0.later hb, h.l0, h.o1.later hb, h.l1, h.dis⟩
theorem ROwn2.but {lo hi lo' hi' : Nat} {w w' : World} {r : RV} {xs us : List Int} (h : ROwn2 lo hi w r xs us) (hb : But lo' hi' w w') (hd : hi ≤ lo' ∨ hi' ≤ lo) : ROwn2 lo hi w' r xs us := ⟨h.o0.but hb hd, h.l0, h.o1.but hb hd, h.l1, h.dis⟩
theorem ROwn2.sl {lo hi : Nat} {w : World} {r : RV} {xs us : List Int} (h : ROwn2 lo hi w r xs us) : RSl w r xs us := ⟨h.o0.sl, h.l0, h.o1.sl, h.l1⟩

end Go.Proofs.YtdgonpbponnnaaaGreatDoor
