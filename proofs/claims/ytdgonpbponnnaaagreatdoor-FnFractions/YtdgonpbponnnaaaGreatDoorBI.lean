/- Numbers by their value: what reads as the number V, and the sums, products and comparisons of the program and of the specification by value. No condition beyond those typed. -/
import Derived.Test.YtdgonpbponnnaaaGreatDoorFlatQ
import Derived.Test.YtdgonpbponnnaaaGreatDoorRatC
import Derived.Test.YtdgonpbponnnaaaGreatDoorBigOfI
namespace Go.Proofs.YtdgonpbponnnaaaGreatDoor
open Go.RowKit
set_option linter.unusedVariables false
set_option maxRecDepth 100000
set_option linter.unusedSimpArgs false

/-- V has at most L limbs. -/
structure Bd (V : Int) (L : Nat) : Prop where
  lt : V.natAbs < 65536 ^ L
theorem Bd.mono {V : Int} {L L' : Nat} (h : Bd V L) (k : L ≤ L') : Bd V L' := ⟨Nat.lt_of_lt_of_le h.lt (Nat.pow_le_pow_right (by omega) k)⟩
theorem Bd.mul {V V' : Int} {L L' : Nat} (h : Bd V L) (k : Bd V' L') : Bd (V * V') (L + L') := by
  constructor
  rw [Int.natAbs_mul, Nat.pow_add]
  exact Nat.mul_lt_mul'' h.lt k.lt
theorem Bd.add {V V' : Int} {L : Nat} (h : Bd V L) (k : Bd V' L) : Bd (V + V') (L + 1) := by
  constructor
  have := Int.natAbs_add_le V V'
  have h1 := h.lt
  have h2 := k.lt
  rw [Nat.pow_succ]
  generalize 65536 ^ L = P at *
  omega
theorem Bd.neg {V : Int} {L : Nat} (h : Bd V L) : Bd (-V) L := ⟨by rw [Int.natAbs_neg]; exact h.lt⟩
theorem Bd.sub {V V' : Int} {L : Nat} (h : Bd V L) (k : Bd V' L) : Bd (V - V') (L + 1) := by rw [Int.sub_eq_add_neg]; exact h.add k.neg
theorem Bd.le {V V' : Int} {L : Nat} (h : Bd V L) (k : V'.natAbs ≤ V.natAbs) : Bd V' L := ⟨Nat.lt_of_le_of_lt k h.lt⟩
theorem Bd.small {V : Int} (h : V.natAbs < 65536) : Bd V 1 := ⟨by omega⟩
theorem Nm.bd {zs : List Int} {V : Int} {L : Nat} (h : Nm zs V.natAbs) (k : zs.length ≤ L) : Bd V L := by
  have h1 := val_lt h.ok
  rw [h.v] at h1
  have h2 : V.natAbs < 65536 ^ zs.length := by
    have : ((65536 ^ zs.length : Nat) : Int) = 65536 ^ zs.length := by simp
    omega
  exact ⟨Nat.lt_of_lt_of_le h2 (Nat.pow_le_pow_right (by omega) k)⟩
theorem Nm.len_le {zs : List Int} {V : Int} {L : Nat} (h : Nm zs V.natAbs) (k : Bd V L) : zs.length ≤ L := by
  by_cases hl : zs.length ≤ L
  · exact hl
  exfalso
  obtain ⟨h1, _, h3⟩ := top_pos h.ok h.tr rfl (show 1 ≤ zs.length by omega)
  rw [h.v] at h3
  have k := k.lt
  have hp : 65536 ^ L ≤ 65536 ^ (zs.length - 1) := Nat.pow_le_pow_right (by omega) (by omega)
  have hc : ((65536 ^ (zs.length - 1) : Nat) : Int) = 65536 ^ (zs.length - 1) := by simp
  have hq : (65536 : Int) ^ (zs.length - 1) * 1 ≤ 65536 ^ (zs.length - 1) * zs.getD (zs.length - 1) 0 := Int.mul_le_mul_of_nonneg_left h1 (by rw [← hc]; omega)
  omega

/-- The value b reads as the number V. -/
def IsB (w : World) (b : BV) (V : Int) : Prop := ∃ xs, ArB w b ⟨decide (V < 0), xs⟩ ∧ Nm xs V.natAbs
theorem IsB.later {w w' : World} {b : BV} {V : Int} (h : IsB w b V) (hb : Below w.heap.size w w') : IsB w' b V := by
  obtain ⟨xs, h1, h2⟩ := h
  exact ⟨xs, h1.later hb, h2⟩
theorem IsB.drew {w : World} {b : BV} {V : Int} (h : IsB w b V) : IsB w.drew b V := h.later (Below.refl _ _).drew
theorem IsB.len {w : World} {b : BV} {V : Int} {L : Nat} (h : IsB w b V) (k : Bd V L) : b.n ≤ L := by
  obtain ⟨xs, h1, h2⟩ := h
  rw [← h1.ar.len]
  exact h2.len_le k
theorem sv_is {V : Int} {xs : List Int} (h : Nm xs V.natAbs) : sv (decide (V < 0)) xs = V := by
  unfold sv
  rw [h.v]
  by_cases h0 : V < 0
  · rw [decide_eq_true h0, if_pos rfl]; omega
  · rw [decide_eq_false h0, if_neg (by simp)]; omega
theorem IsB.num {w : World} {b : BV} {V : Int} {L : Nat} (h : IsB w b V) (k : Bd V L) (hL : L ≤ 1000000) : ∃ xs, Num w b.a b.n b.c xs ∧ sv b.g xs = V ∧ b.n ≤ L ∧ Nm xs V.natAbs ∧ b.g = decide (V < 0) := by
  have hl := h.len k
  obtain ⟨xs, h1, h2⟩ := h
  exact ⟨xs, ⟨h1.ar, h2.ok, h2.tr, by omega⟩, by rw [h1.sg]; exact sv_is h2, hl, h2, h1.sg⟩
theorem IsB.zero_iff {w : World} {b : BV} {V : Int} (h : IsB w b V) : b.n = 0 ↔ V = 0 := by
  obtain ⟨xs, h1, h2⟩ := h
  rw [← h1.ar.len, List.length_eq_zero_iff, h2.nil_iff]
  omega
theorem IsB.max {w : World} {b : BV} {V : Int} (h : IsB w b V) : b.n ≤ maxLen := by
  obtain ⟨xs, h1, h2⟩ := h
  exact Nat.le_trans h1.ar.cap h1.ar.top
/-- A good number reads as what it says. -/
theorem isB_of_good {w : World} {b : BV} {d : BD} (h : ArB w b d) (hg : goodB d.g d.xs = true) : IsB w b (sv d.g d.xs) ∧ Bd (sv d.g d.xs) 40 := by
  obtain ⟨h1, h2, h3, h4⟩ := good_parts hg
  have v0 := val_nonneg h1
  have hn : Nm d.xs (sv d.g d.xs).natAbs := ⟨h1, h2, by unfold sv; split <;> omega⟩
  have hs : decide (sv d.g d.xs < 0) = d.g := by
    unfold sv
    cases e : d.g
    · rw [if_neg (by simp)]; exact decide_eq_false (by omega)
    · rw [if_pos rfl]
      refine decide_eq_true ?_
      have hne : d.xs ≠ [] := fun e0 => by have := h4 e0; rw [e] at this; cases this
      have : val d.xs ≠ 0 := fun e0 => hne ((val_zero_iff h1 h2).1 e0)
      omega
  exact ⟨⟨d.xs, ⟨by rw [hs]; exact h.sg, h.ar⟩, hn⟩, hn.bd h3⟩

/-- A call answers the number V in memory of its own. -/
def OutN (w : World) (V : Int) (e : Ending) (w' : World) : Prop :=
  ∃ (b : BV) (xs : List Int), e = .returned (.agg #[.bool b.g, .slice b.a b.n b.c]) ∧ Below w.heap.size w w' ∧ AllOwn w.heap.size w'.heap.size w' [(b, ⟨decide (V < 0), xs⟩)] ∧ AllAr w' [(b, ⟨decide (V < 0), xs⟩)] ∧ Nm xs V.natAbs
theorem OutB.toN {w : World} {V : Int} (e : Ending) (w' : World) (h : OutB w V e w') : OutN w V e w' := by
  obtain ⟨a, n, c, zs, rfl, hb, ho, ha, hn⟩ := h
  exact ⟨⟨decide (V < 0), a, n, c⟩, zs, rfl, hb, AllOwn.one ⟨rfl, ho.two, ha.len⟩, AllAr.cons ⟨rfl, ha⟩ (AllAr.nil _), hn⟩
theorem isB_of_out {w : World} {b : BV} {V : Int} {xs : List Int} (h : AllAr w [(b, ⟨decide (V < 0), xs⟩)]) (hn : Nm xs V.natAbs) : IsB w b V := ⟨xs, h.head, hn⟩
/-- The same without the memory: what the specification's inner functions answer. -/
def OutV (w : World) (V : Int) (e : Ending) (w' : World) : Prop := ∃ b : BV, e = .returned (.agg #[.bool b.g, .slice b.a b.n b.c]) ∧ Below w.heap.size w w' ∧ IsB w' b V
theorem OutN.toV {w : World} {V : Int} (e : Ending) (w' : World) (h : OutN w V e w') : OutV w V e w' := by
  obtain ⟨b, xs, rfl, hb, _, ha, hn⟩ := h
  exact ⟨b, rfl, hb, isB_of_out ha hn⟩
theorem OutB.toV {w : World} {V : Int} (e : Ending) (w' : World) (h : OutB w V e w') : OutV w V e w' := OutN.toV e w' (OutB.toN e w' h)

theorem mulI_v (b b' : BV) (V V' : Int) (w : World) (h : IsB w b V) (h' : IsB w b' V') (k : Bd V 400000) (k' : Bd V' 400000) :
    Calls Tryz.prog 65 #[.agg #[.bool b.g, .slice b.a b.n b.c], .agg #[.bool b'.g, .slice b'.a b'.n b'.c]] w (OutN w (V * V')) := by
  obtain ⟨xs, hx, e, hl, _⟩ := h.num k (by omega)
  obtain ⟨ys, hy, e', hl', _⟩ := h'.num k' (by omega)
  subst e e'
  exact (mulSgI_any b.g b'.g b.a b'.a b.n b'.n b.c b'.c xs ys w hx hy (by omega) (by omega)).mono OutB.toN
theorem mulS_v (b b' : BV) (V V' : Int) (w : World) (h : IsB w b V) (h' : IsB w b' V') (k : Bd V 400000) (k' : Bd V' 400000) :
    Calls Tryz.prog 69 #[.agg #[.bool b.g, .slice b.a b.n b.c], .agg #[.bool b'.g, .slice b'.a b'.n b'.c]] w (OutN w (V * V')) := by
  obtain ⟨xs, hx, e, hl, _⟩ := h.num k (by omega)
  obtain ⟨ys, hy, e', hl', _⟩ := h'.num k' (by omega)
  subst e e'
  exact (mulSgS_any b.g b'.g b.a b'.a b.n b'.n b.c b'.c xs ys w hx hy (by omega) (by omega)).mono OutB.toN
theorem addI_v (b b' : BV) (V V' : Int) (w : World) (h : IsB w b V) (h' : IsB w b' V') (k : Bd V 400000) (k' : Bd V' 400000) :
    Calls Tryz.prog 64 #[.agg #[.bool b.g, .slice b.a b.n b.c], .agg #[.bool b'.g, .slice b'.a b'.n b'.c]] w (OutN w (V + V')) := by
  obtain ⟨xs, hx, e, hl, _⟩ := h.num k (by omega)
  obtain ⟨ys, hy, e', hl', _⟩ := h'.num k' (by omega)
  subst e e'
  exact (addSgI_any b.g b'.g b.a b'.a b.n b'.n b.c b'.c xs ys w hx hy).mono OutB.toN
theorem addS_v (b b' : BV) (V V' : Int) (w : World) (h : IsB w b V) (h' : IsB w b' V') (k : Bd V 400000) (k' : Bd V' 400000) :
    Calls Tryz.prog 68 #[.agg #[.bool b.g, .slice b.a b.n b.c], .agg #[.bool b'.g, .slice b'.a b'.n b'.c]] w (OutN w (V + V')) := by
  obtain ⟨xs, hx, e, hl, _⟩ := h.num k (by omega)
  obtain ⟨ys, hy, e', hl', _⟩ := h'.num k' (by omega)
  subst e e'
  exact (addSgS_any b.g b'.g b.a b'.a b.n b'.n b.c b'.c xs ys w hx hy).mono OutB.toN
theorem subI_v (b b' : BV) (V V' : Int) (w : World) (h : IsB w b V) (h' : IsB w b' V') (k : Bd V 400000) (k' : Bd V' 400000) :
    Calls Tryz.prog 70 #[.agg #[.bool b.g, .slice b.a b.n b.c], .agg #[.bool b'.g, .slice b'.a b'.n b'.c]] w (OutN w (V - V')) := by
  obtain ⟨xs, hx, e, hl, _⟩ := h.num k (by omega)
  obtain ⟨ys, hy, e', hl', _⟩ := h'.num k' (by omega)
  subst e e'
  exact (subSgI_any b.g b'.g b.a b'.a b.n b'.n b.c b'.c xs ys w hx hy).mono OutB.toN
theorem ofI_v (n : Int) (w : World) (h0 : -9223372036854775808 ≤ n) (h1 : n ≤ 9223372036854775807) : Calls Tryz.prog 52 #[.int .i64 n] w (OutN w n) := (bigOfI_any n w h0 h1).mono OutB.toN
theorem ofS_v (n : Int) (w : World) (h0 : -9223372036854775808 ≤ n) (h1 : n ≤ 9223372036854775807) : Calls Tryz.prog 55 #[.int .i64 n] w (OutN w n) := (bigOfS_any n w h0 h1).mono OutB.toN
end Go.Proofs.YtdgonpbponnnaaaGreatDoor
