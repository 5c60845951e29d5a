/- PointSpan: the program's and the specification's, at every fraction. No condition beyond those typed. Written by mkpoint.py. -/
import Derived.Test.YtdgonpbponnnaaaGreatDoorLeast0
namespace Go.Proofs.YtdgonpbponnnaaaGreatDoor
open Go.RowKit
set_option linter.unusedVariables false
set_option maxRecDepth 100000
set_option linter.unusedSimpArgs false

def RetS (w : World) (U : SD → Bool → Prop) (e : Ending) (w' : World) : Prop := ∃ (v : SV) (d : SD) (ok : Bool), e = .returned (.tuple #[.agg #[.bool v.lo.num.g, .slice v.lo.num.a v.lo.num.n v.lo.num.c, .bool v.lo.den.g, .slice v.lo.den.a v.lo.den.n v.lo.den.c, .bool v.hi.num.g, .slice v.hi.num.a v.hi.num.n v.hi.num.c, .bool v.hi.den.g, .slice v.hi.den.a v.hi.den.n v.hi.den.c], .bool ok]) ∧ Below w.heap.size w w' ∧ AllOwn w.heap.size w'.heap.size w' [(v.lo.num, d.lo.num), (v.lo.den, d.lo.den), (v.hi.num, d.hi.num), (v.hi.den, d.hi.den)] ∧ U d ok
theorem zeroS (lo hi : Nat) (w : World) : AllOwn lo hi w [((⟨⟨⟨false, none, 0, 0⟩, ⟨false, none, 0, 0⟩⟩, ⟨⟨false, none, 0, 0⟩, ⟨false, none, 0, 0⟩⟩⟩ : SV).lo.num, (⟨⟨⟨false, []⟩, ⟨false, []⟩⟩, ⟨⟨false, []⟩, ⟨false, []⟩⟩⟩ : SD).lo.num), ((⟨⟨⟨false, none, 0, 0⟩, ⟨false, none, 0, 0⟩⟩, ⟨⟨false, none, 0, 0⟩, ⟨false, none, 0, 0⟩⟩⟩ : SV).lo.den, (⟨⟨⟨false, []⟩, ⟨false, []⟩⟩, ⟨⟨false, []⟩, ⟨false, []⟩⟩⟩ : SD).lo.den), ((⟨⟨⟨false, none, 0, 0⟩, ⟨false, none, 0, 0⟩⟩, ⟨⟨false, none, 0, 0⟩, ⟨false, none, 0, 0⟩⟩⟩ : SV).hi.num, (⟨⟨⟨false, []⟩, ⟨false, []⟩⟩, ⟨⟨false, []⟩, ⟨false, []⟩⟩⟩ : SD).hi.num), ((⟨⟨⟨false, none, 0, 0⟩, ⟨false, none, 0, 0⟩⟩, ⟨⟨false, none, 0, 0⟩, ⟨false, none, 0, 0⟩⟩⟩ : SV).hi.den, (⟨⟨⟨false, []⟩, ⟨false, []⟩⟩, ⟨⟨false, []⟩, ⟨false, []⟩⟩⟩ : SD).hi.den)] := ⟨fun p hp => by
  have hp : p = ((⟨false, none, 0, 0⟩ : BV), (⟨false, []⟩ : BD)) := by simpa using hp
  subst hp
  exact ⟨rfl, .inl rfl, rfl⟩, List.pairwise_cons.2 ⟨fun p hp => .inl rfl, List.pairwise_cons.2 ⟨fun p hp => .inl rfl, List.pairwise_cons.2 ⟨fun p hp => .inl rfl, List.pairwise_singleton _ _⟩⟩⟩⟩
def AnsS (P : Bool) (N D N' D' : Int) (d : SD) (ok : Bool) : Prop :=
  (P = true ∧ ∃ xs us ys vs, Nm xs N.natAbs ∧ Nm us D.natAbs ∧ Nm ys N'.natAbs ∧ Nm vs D'.natAbs ∧ (((xs.length ≤ 40 ∧ us.length ≤ 40) ∧ (ys.length ≤ 40 ∧ vs.length ≤ 40) ∧ ok = true ∧ d = (⟨⟨⟨decide (N < 0), xs⟩, ⟨decide (D < 0), us⟩⟩, ⟨⟨decide (N' < 0), ys⟩, ⟨decide (D' < 0), vs⟩⟩⟩ : SD)) ∨ (¬ ((xs.length ≤ 40 ∧ us.length ≤ 40) ∧ (ys.length ≤ 40 ∧ vs.length ≤ 40)) ∧ ok = false ∧ d = (⟨⟨⟨false, []⟩, ⟨false, []⟩⟩, ⟨⟨false, []⟩, ⟨false, []⟩⟩⟩ : SD)))) ∨ (P = false ∧ ok = false ∧ d = (⟨⟨⟨false, []⟩, ⟨false, []⟩⟩, ⟨⟨false, []⟩, ⟨false, []⟩⟩⟩ : SD))
theorem AnsS.same {P : Bool} {N D N' D' : Int} {d d' : SD} {ok ok' : Bool} (h : AnsS P N D N' D' d ok) (k : AnsS P N D N' D' d' ok') : d = d' ∧ ok = ok' := by
  rcases h with ⟨p, xs, us, ys, vs, h1, h2, h3, h4, h5⟩ | ⟨p, h1, h2⟩ <;> rcases k with ⟨p', xs', us', ys', vs', k1, k2, k3, k4, k5⟩ | ⟨p', k1, k2⟩
  · obtain rfl := h1.same k1
    obtain rfl := h2.same k2
    obtain rfl := h3.same k3
    obtain rfl := h4.same k4
    rcases h5 with ⟨a, b, c, e⟩ | ⟨a, c, e⟩ <;> rcases k5 with ⟨a', b', c', e'⟩ | ⟨a', c', e'⟩
    · exact ⟨e.trans e'.symm, c.trans c'.symm⟩
    · exact absurd ⟨a, b⟩ a'
    · exact absurd ⟨a', b'⟩ a
    · exact ⟨e.trans e'.symm, c.trans c'.symm⟩
  · rw [p] at p'; cases p'
  · rw [p] at p'; cases p'
  · exact ⟨h2.trans k2.symm, h1.trans k1.symm⟩
theorem AnsS.lens {P : Bool} {N D N' D' : Int} {d : SD} {ok : Bool} (h : AnsS P N D N' D' d ok) : d.lo.num.xs.length ≤ 40 ∧ d.lo.den.xs.length ≤ 40 ∧ d.hi.num.xs.length ≤ 40 ∧ d.hi.den.xs.length ≤ 40 := by
  rcases h with ⟨p, xs, us, ys, vs, h1, h2, h3, h4, ⟨a, b, c, rfl⟩ | ⟨a, c, rfl⟩⟩ | ⟨p, h1, rfl⟩
  · exact ⟨a.1, a.2, b.1, b.2⟩
  · simp
  · simp
theorem ansS_none (N D N' D' : Int) : AnsS false N D N' D' (⟨⟨⟨false, []⟩, ⟨false, []⟩⟩, ⟨⟨false, []⟩, ⟨false, []⟩⟩⟩ : SD) false := .inr ⟨rfl, rfl, rfl⟩
theorem retS_fin {w wN W : World} {R : Nat} {v : SV} {d : SD} {ok : Bool} {U : SD → Bool → Prop} (hR : w.heap.size ≤ R) (hb : Below w.heap.size w wN) (bt : But R (R + 1) wN W)
    (ho : AllOwn (R + 1) wN.heap.size wN [(v.lo.num, d.lo.num), (v.lo.den, d.lo.den), (v.hi.num, d.hi.num), (v.hi.den, d.hi.den)]) (hu : U d ok) : RetS w U (.returned (.tuple #[.agg #[.bool v.lo.num.g, .slice v.lo.num.a v.lo.num.n v.lo.num.c, .bool v.lo.den.g, .slice v.lo.den.a v.lo.den.n v.lo.den.c, .bool v.hi.num.g, .slice v.hi.num.a v.hi.num.n v.hi.num.c, .bool v.hi.den.g, .slice v.hi.den.a v.hi.den.n v.hi.den.c], .bool ok])) W :=
  ⟨v, d, ok, rfl, bt.below hb hR hb.size, (own_fin bt ho (Nat.le_refl _)).wide (by omega) bt.size, hu⟩
/-- Two answers make one. -/
theorem ansS_two {N D N' D' : Int} {d d' : QD} {ok ok' : Bool} (h : AnsQ true N D d ok) (k : AnsQ true N' D' d' ok') : AnsS true N D N' D' (if ok && ok' then ⟨d, d'⟩ else (⟨⟨⟨false, []⟩, ⟨false, []⟩⟩, ⟨⟨false, []⟩, ⟨false, []⟩⟩⟩ : SD)) (ok && ok') := by
  rcases h with ⟨_, xs, us, h1, h2, h3⟩ | ⟨p, _⟩
  · rcases k with ⟨_, ys, vs, k1, k2, k3⟩ | ⟨p, _⟩
    · refine .inl ⟨rfl, xs, us, ys, vs, h1, h2, k1, k2, ?_⟩
      rcases h3 with ⟨a, b, rfl, rfl⟩ | ⟨a, rfl, rfl⟩ <;> rcases k3 with ⟨a', b', rfl, rfl⟩ | ⟨a', rfl, rfl⟩
      · exact .inl ⟨⟨a, b⟩, ⟨a', b'⟩, rfl, rfl⟩
      · exact .inr ⟨fun h => a' h.2, rfl, rfl⟩
      · exact .inr ⟨fun h => a h.1, rfl, rfl⟩
      · exact .inr ⟨fun h => a h.1, rfl, rfl⟩
    · cases p
  · cases p

end Go.Proofs.YtdgonpbponnnaaaGreatDoor
