/- Values that are made of numbers (a sign and a slice of limbs each): what they read as, that they are the law's own, and the marks in them. No condition beyond those typed. -/
import Derived.Test.YtdgonpbponnnaaaGreatDoorRatL
namespace Go.Proofs.YtdgonpbponnnaaaGreatDoor
open Go.RowKit
set_option linter.unusedVariables false
set_option maxRecDepth 100000
set_option linter.unusedSimpArgs false

/-- A number's value, and what it reads as. -/
structure BV where
  g : Bool
  a : Option Addr
  n : Nat
  c : Nat
structure BD where
  g : Bool
  xs : List Int
structure QV where
  num : BV
  den : BV
structure QD where
  num : BD
  den : BD
structure SV where
  lo : QV
  hi : QV
structure SD where
  lo : QD
  hi : QD
def BV.zip (v : BV) (d : BD) : List (BV × BD) := [(v, d)]
def QV.zip (v : QV) (d : QD) : List (BV × BD) := [(v.num, d.num), (v.den, d.den)]
def SV.zip (v : SV) (d : SD) : List (BV × BD) := [(v.lo.num, d.lo.num), (v.lo.den, d.lo.den), (v.hi.num, d.hi.num), (v.hi.den, d.hi.den)]
def BV.len (v : BV) : Nat := v.n
def QV.len (v : QV) : Nat := v.num.n + v.den.n
def SV.len (v : SV) : Nat := v.lo.num.n + v.lo.den.n + v.hi.num.n + v.hi.den.n

structure SlB (w : World) (b : BV) (d : BD) : Prop where
  sg : b.g = d.g
  sl : Sl w b.a d.xs
  len : d.xs.length = b.n
theorem SlB.later {w w' : World} {b : BV} {d : BD} (h : SlB w b d) (hb : Below w.heap.size w w') : SlB w' b d := ⟨h.sg, h.sl.later (Nat.le_refl _) hb, h.len⟩
def AllSl (w : World) (l : List (BV × BD)) : Prop := ∀ p ∈ l, SlB w p.1 p.2
theorem AllSl.later {w w' : World} {l : List (BV × BD)} (h : AllSl w l) (hb : Below w.heap.size w w') : AllSl w' l := fun p hp => (h p hp).later hb
theorem AllSl.drew {w : World} {l : List (BV × BD)} (h : AllSl w l) : AllSl w.drew l := h.later (Below.refl _ _).drew
theorem AllSl.head {w : World} {b : BV} {d : BD} {l : List (BV × BD)} (h : AllSl w ((b, d) :: l)) : SlB w b d := h (b, d) List.mem_cons_self
theorem AllSl.tail {w : World} {p : BV × BD} {l : List (BV × BD)} (h : AllSl w (p :: l)) : AllSl w l := fun q hq => h q (List.mem_cons_of_mem _ hq)
theorem AllSl.nil (w : World) : AllSl w [] := fun p hp => by cases hp
theorem AllSl.cons {w : World} {b : BV} {d : BD} {l : List (BV × BD)} (h : SlB w b d) (k : AllSl w l) : AllSl w ((b, d) :: l) := fun p hp => by
  rcases List.mem_cons.1 hp with rfl | hp
  · exact h
  · exact k p hp

/-- A number's value that may also stand as an argument. -/
structure ArB (w : World) (b : BV) (d : BD) : Prop where
  sg : b.g = d.g
  ar : Arg w b.a b.n b.c d.xs
theorem ArB.later {w w' : World} {b : BV} {d : BD} (h : ArB w b d) (hb : Below w.heap.size w w') : ArB w' b d := ⟨h.sg, h.ar.later hb⟩
theorem ArB.sl {w : World} {b : BV} {d : BD} (h : ArB w b d) : SlB w b d := ⟨h.sg, h.ar.sl, h.ar.len⟩
def AllAr (w : World) (l : List (BV × BD)) : Prop := ∀ p ∈ l, ArB w p.1 p.2
theorem AllAr.later {w w' : World} {l : List (BV × BD)} (h : AllAr w l) (hb : Below w.heap.size w w') : AllAr w' l := fun p hp => (h p hp).later hb
theorem AllAr.drew {w : World} {l : List (BV × BD)} (h : AllAr w l) : AllAr w.drew l := h.later (Below.refl _ _).drew
theorem AllAr.sl {w : World} {l : List (BV × BD)} (h : AllAr w l) : AllSl w l := fun p hp => (h p hp).sl
theorem AllAr.head {w : World} {b : BV} {d : BD} {l : List (BV × BD)} (h : AllAr w ((b, d) :: l)) : ArB w b d := h (b, d) List.mem_cons_self
theorem AllAr.tail {w : World} {p : BV × BD} {l : List (BV × BD)} (h : AllAr w (p :: l)) : AllAr w l := fun q hq => h q (List.mem_cons_of_mem _ hq)
theorem AllAr.nil (w : World) : AllAr w [] := fun p hp => by cases hp
theorem AllAr.cons {w : World} {b : BV} {d : BD} {l : List (BV × BD)} (h : ArB w b d) (k : AllAr w l) : AllAr w ((b, d) :: l) := fun p hp => by
  rcases List.mem_cons.1 hp with rfl | hp
  · exact h
  · exact k p hp
theorem AllAr.append {w : World} {l m : List (BV × BD)} (h : AllAr w l) (k : AllAr w m) : AllAr w (l ++ m) := fun p hp => by
  rcases List.mem_append.1 hp with hp | hp
  · exact h p hp
  · exact k p hp

/-- A number's value in memory of the law's own, at blocks from lo to below hi. -/
structure OwB2 (lo hi : Nat) (w : World) (b : BV) (d : BD) : Prop where
  sg : b.g = d.g
  own : Own2 lo hi w b.a d.xs
  len : d.xs.length = b.n
def Ap (p q : BV × BD) : Prop := Dis p.1.a p.2.xs q.1.a q.2.xs
theorem Ap.symm {p q : BV × BD} (h : Ap p q) : Ap q p := by
  rcases h with h | h | ⟨b, o, b', o', h1, h2, h3⟩
  · exact .inr (.inl h)
  · exact .inl h
  · exact .inr (.inr ⟨b', o', b, o, h2, h1, fun e => h3 e.symm⟩)
structure AllOwn (lo hi : Nat) (w : World) (l : List (BV × BD)) : Prop where
  own : ∀ p ∈ l, OwB2 lo hi w p.1 p.2
  ap : l.Pairwise Ap
theorem AllOwn.later {lo hi : Nat} {w w' : World} {l : List (BV × BD)} (h : AllOwn lo hi w l) (hb : Below w.heap.size w w') : AllOwn lo hi w' l :=
  ⟨fun p hp => ⟨(h.own p hp).sg, (h.own p hp).own.later hb, (h.own p hp).len⟩, h.ap⟩
theorem AllOwn.but {lo hi lo' hi' : Nat} {w w' : World} {l : List (BV × BD)} (h : AllOwn lo hi w l) (hb : But lo' hi' w w') (hd : hi ≤ lo' ∨ hi' ≤ lo) : AllOwn lo hi w' l :=
  ⟨fun p hp => ⟨(h.own p hp).sg, (h.own p hp).own.but hb hd, (h.own p hp).len⟩, h.ap⟩
theorem Own2.wide {lo hi lo' hi' : Nat} {w : World} {a : Option Addr} {zs : List Int} (h : Own2 lo hi w a zs) (h1 : lo' ≤ lo) (h2 : hi ≤ hi') : Own2 lo' hi' w a zs := by
  rcases h with h | ⟨b, cur, rfl, k1, k2, hg, hc⟩
  · exact .inl h
  · exact .inr ⟨b, cur, rfl, by omega, by omega, hg, hc⟩
theorem AllOwn.wide {lo hi lo' hi' : Nat} {w : World} {l : List (BV × BD)} (h : AllOwn lo hi w l) (h1 : lo' ≤ lo) (h2 : hi ≤ hi') : AllOwn lo' hi' w l :=
  ⟨fun p hp => ⟨(h.own p hp).sg, (h.own p hp).own.wide h1 h2, (h.own p hp).len⟩, h.ap⟩
theorem AllOwn.sl {lo hi : Nat} {w : World} {l : List (BV × BD)} (h : AllOwn lo hi w l) : AllSl w l := fun p hp => ⟨(h.own p hp).sg, (h.own p hp).own.sl, (h.own p hp).len⟩
theorem AllOwn.nil (lo hi : Nat) (w : World) : AllOwn lo hi w [] := ⟨fun p hp => absurd hp (by simp), List.Pairwise.nil⟩
theorem AllOwn.one {lo hi : Nat} {w : World} {b : BV} {d : BD} (h : OwB2 lo hi w b d) : AllOwn lo hi w [(b, d)] := ⟨fun p hp => (List.mem_singleton.1 hp) ▸ h, List.pairwise_singleton _ _⟩
/-- What lies in earlier blocks lies apart. -/
theorem dis_parts {lo hi lo' hi' : Nat} {w w' : World} {a a' : Option Addr} {zs rs : List Int} (h : Own2 lo hi w a zs) (k : Own2 lo' hi' w' a' rs) (hd : hi ≤ lo' ∨ hi' ≤ lo) : Dis a zs a' rs := by
  rcases h with h | ⟨b, cur, rfl, h1, h2, hg, hc⟩
  · exact .inl h
  · rcases k with k | ⟨b', cur', rfl, k1, k2, kg, kc⟩
    · exact .inr (.inl k)
    · exact .inr (.inr ⟨b, 0, b', 0, rfl, rfl, by omega⟩)
theorem AllOwn.join {lo mid hi : Nat} {w : World} {l m : List (BV × BD)} (h : AllOwn lo mid w l) (k : AllOwn mid hi w m) (h1 : lo ≤ mid) (h2 : mid ≤ hi) : AllOwn lo hi w (l ++ m) := by
  refine ⟨fun p hp => ?_, List.pairwise_append.2 ⟨h.ap, k.ap, fun p hp q hq => ?_⟩⟩
  · rcases List.mem_append.1 hp with hp | hp
    · exact (h.wide (Nat.le_refl _) h2).own p hp
    · exact (k.wide h1 (Nat.le_refl _)).own p hp
  · exact dis_parts (h.own p hp).own (k.own q hq).own (.inl (Nat.le_refl _))

/-- Marks from k on, one a limb. -/
def markD (k : Int) : List (BV × BD) → List (BV × BD)
  | [] => []
  | p :: l => (p.1, ⟨p.2.g, marks k p.1.n⟩) :: markD (k + p.1.n) l
def lenL : List (BV × BD) → Nat
  | [] => 0
  | p :: l => p.1.n + lenL l

theorem AllSl.mark_head {w : World} {b : BV} {d : BD} {k : Int} {l : List (BV × BD)} (h : AllSl w ((b, ⟨d.g, marks k b.n⟩) :: l)) : Sl w b.a (marks k b.n) := h.head.sl
end Go.Proofs.YtdgonpbponnnaaaGreatDoor
