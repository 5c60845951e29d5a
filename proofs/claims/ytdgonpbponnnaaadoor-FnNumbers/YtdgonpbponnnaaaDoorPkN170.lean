/- ReadBig of the program: a loop by goto, by value. No condition beyond those typed. Written by mkrb16.py. -/
import Derived.Test.YtdgonpbponnnaaaDoorRatH
import Derived.Test.YtdgonpbponnnaaaDoorMulSg
import Derived.Test.YtdgonpbponnnaaaDoorFlatQ
import Derived.Test.YtdgonpbponnnaaaDoorBigOfI
import Derived.Test.YtdgonpbponnnaaaDoorVarB
import Derived.Test.YtdgonpbponnnaaaDoorDivJ
import Derived.Test.YtdgonpbponnnaaaDoorDivI
import Derived.Test.YtdgonpbponnnaaaDoorSubI
import Derived.Test.YtdgonpbponnnaaaDoorCurD
import Derived.Test.YtdgonpbponnnaaaDoorCmp
import Derived.Test.YtdgonpbponnnaaaDoorEq
import Derived.Test.YtdgonpbponnnaaaDoorFlat
import Derived.Test.YtdgonpbponnnaaaDoorSgs
import Derived.Test.YtdgonpbponnnaaaDoorLaw2
import Derived.Test.YtdgonpbponnnaaaDoorDrop
import Derived.Test.YtdgonpbponnnaaaDoorDg16
import Derived.Test.YtdgonpbponnnaaaDoorBt16
import Derived.Laws.Strings
import Derived.Test.YtdgonpbponnnaaaDoorTwo
import Derived.Maps.AppendAt
import Derived.Test.YtdgonpbponnnaaaDoorAcc
import Derived.Test.YtdgonpbponnnaaaDoorSgn
import Derived.Test.YtdgonpbponnnaaaDoorShelf
import Derived.ScopeJumps
import Derived.WalkMore
namespace Go.Proofs.YtdgonpbponnnaaaDoor
open Go.RowKit
set_option linter.unusedVariables false
set_option maxRecDepth 100000
set_option linter.unusedSimpArgs false

/-- A call compares the numbers A and B. -/
def OutC (w : World) (A B : Int) (e : Ending) (w' : World) : Prop := ∃ ts us, Nm ts A.natAbs ∧ Nm us B.natAbs ∧ e = .returned (.int .i64 (cmpB (decide (A < 0)) ts (decide (B < 0)) us)) ∧ Below w.heap.size w w'

end Go.Proofs.YtdgonpbponnnaaaDoor
namespace Go.Proofs.YtdgonpbponnnaaaDoor
open Go.RowKit
set_option linter.unusedVariables false
set_option maxRecDepth 100000
set_option linter.unusedSimpArgs false

/-- V has at most L limbs. -/
structure Bd (V : Int) (L : Nat) : Prop where
  lt : V.natAbs < 65536 ^ L
theorem Bd.mono {V : Int} {L L' : Nat} (h : Bd V L) (k : L ≤ L') : Bd V L' := ⟨Nat.lt_of_lt_of_le h.lt (Nat.pow_le_pow_right (by omega) k)⟩
theorem Bd.mul {V V' : Int} {L L' : Nat} (h : Bd V L) (k : Bd V' L') : Bd (V * V') (L + L') := by
  constructor
  rw [Int.natAbs_mul, Nat.pow_add]
  exact Nat.mul_lt_mul'' h.lt k.lt
theorem Bd.add {V V' : Int} {L : Nat} (h : Bd V L) (k : Bd V' L) : Bd (V + V') (L + 1) := by
  constructor
  have := Int.natAbs_add_le V V'
  have h1 := h.lt
  have h2 := k.lt
  rw [Nat.pow_succ]
  generalize 65536 ^ L = P at *
  omega
theorem Bd.neg {V : Int} {L : Nat} (h : Bd V L) : Bd (-V) L := ⟨by rw [Int.natAbs_neg]; exact h.lt⟩
theorem Bd.sub {V V' : Int} {L : Nat} (h : Bd V L) (k : Bd V' L) : Bd (V - V') (L + 1) := by rw [Int.sub_eq_add_neg]; exact h.add k.neg
theorem Bd.le {V V' : Int} {L : Nat} (h : Bd V L) (k : V'.natAbs ≤ V.natAbs) : Bd V' L := ⟨Nat.lt_of_le_of_lt k h.lt⟩
theorem Bd.small {V : Int} (h : V.natAbs < 65536) : Bd V 1 := ⟨by omega⟩
theorem Nm.bd {zs : List Int} {V : Int} {L : Nat} (h : Nm zs V.natAbs) (k : zs.length ≤ L) : Bd V L := by
  have h1 := val_lt h.ok
  rw [h.v] at h1
  have h2 : V.natAbs < 65536 ^ zs.length := by
    have : ((65536 ^ zs.length : Nat) : Int) = 65536 ^ zs.length := by simp
    omega
  exact ⟨Nat.lt_of_lt_of_le h2 (Nat.pow_le_pow_right (by omega) k)⟩
theorem Nm.len_le {zs : List Int} {V : Int} {L : Nat} (h : Nm zs V.natAbs) (k : Bd V L) : zs.length ≤ L := by
  by_cases hl : zs.length ≤ L
  · exact hl
  exfalso
  obtain ⟨h1, _, h3⟩ := top_pos h.ok h.tr rfl (show 1 ≤ zs.length by omega)
  rw [h.v] at h3
  have k := k.lt
  have hp : 65536 ^ L ≤ 65536 ^ (zs.length - 1) := Nat.pow_le_pow_right (by omega) (by omega)
  have hc : ((65536 ^ (zs.length - 1) : Nat) : Int) = 65536 ^ (zs.length - 1) := by simp
  have hq : (65536 : Int) ^ (zs.length - 1) * 1 ≤ 65536 ^ (zs.length - 1) * zs.getD (zs.length - 1) 0 := Int.mul_le_mul_of_nonneg_left h1 (by rw [← hc]; omega)
  omega

/-- The value b reads as the number V. -/
def IsB (w : World) (b : BV) (V : Int) : Prop := ∃ xs, ArB w b ⟨decide (V < 0), xs⟩ ∧ Nm xs V.natAbs
theorem IsB.later {w w' : World} {b : BV} {V : Int} (h : IsB w b V) (hb : Below w.heap.size w w') : IsB w' b V := by
  obtain ⟨xs, h1, h2⟩ := h
  exact ⟨xs, h1.later hb, h2⟩
theorem IsB.drew {w : World} {b : BV} {V : Int} (h : IsB w b V) : IsB w.drew b V := h.later (Below.refl _ _).drew
theorem IsB.len {w : World} {b : BV} {V : Int} {L : Nat} (h : IsB w b V) (k : Bd V L) : b.n ≤ L := by
  obtain ⟨xs, h1, h2⟩ := h
  rw [← h1.ar.len]
  exact h2.len_le k
theorem sv_is {V : Int} {xs : List Int} (h : Nm xs V.natAbs) : sv (decide (V < 0)) xs = V := by
  unfold sv
  rw [h.v]
  by_cases h0 : V < 0
  · rw [decide_eq_true h0, if_pos rfl]; omega
  · rw [decide_eq_false h0, if_neg (by simp)]; omega
theorem IsB.num {w : World} {b : BV} {V : Int} {L : Nat} (h : IsB w b V) (k : Bd V L) (hL : L ≤ 1000000) : ∃ xs, Num w b.a b.n b.c xs ∧ sv b.g xs = V ∧ b.n ≤ L ∧ Nm xs V.natAbs ∧ b.g = decide (V < 0) := by
  have hl := h.len k
  obtain ⟨xs, h1, h2⟩ := h
  exact ⟨xs, ⟨h1.ar, h2.ok, h2.tr, by omega⟩, by rw [h1.sg]; exact sv_is h2, hl, h2, h1.sg⟩
theorem IsB.zero_iff {w : World} {b : BV} {V : Int} (h : IsB w b V) : b.n = 0 ↔ V = 0 := by
  obtain ⟨xs, h1, h2⟩ := h
  rw [← h1.ar.len, List.length_eq_zero_iff, h2.nil_iff]
  omega
theorem IsB.max {w : World} {b : BV} {V : Int} (h : IsB w b V) : b.n ≤ maxLen := by
  obtain ⟨xs, h1, h2⟩ := h
  exact Nat.le_trans h1.ar.cap h1.ar.top
/-- A good number reads as what it says. -/
theorem isB_of_good {w : World} {b : BV} {d : BD} (h : ArB w b d) (hg : goodB d.g d.xs = true) : IsB w b (sv d.g d.xs) ∧ Bd (sv d.g d.xs) 40 := by
  obtain ⟨h1, h2, h3, h4⟩ := good_parts hg
  have v0 := val_nonneg h1
  have hn : Nm d.xs (sv d.g d.xs).natAbs := ⟨h1, h2, by unfold sv; split <;> omega⟩
  have hs : decide (sv d.g d.xs < 0) = d.g := by
    unfold sv
    cases e : d.g
    · rw [if_neg (by simp)]; exact decide_eq_false (by omega)
    · rw [if_pos rfl]
      refine decide_eq_true ?_
      have hne : d.xs ≠ [] := fun e0 => by have := h4 e0; rw [e] at this; cases this
      have : val d.xs ≠ 0 := fun e0 => hne ((val_zero_iff h1 h2).1 e0)
      omega
  exact ⟨⟨d.xs, ⟨by rw [hs]; exact h.sg, h.ar⟩, hn⟩, hn.bd h3⟩

/-- A call answers the number V in memory of its own. -/
def OutN (w : World) (V : Int) (e : Ending) (w' : World) : Prop :=
  ∃ (b : BV) (xs : List Int), e = .returned (.agg #[.bool b.g, .slice b.a b.n b.c]) ∧ Below w.heap.size w w' ∧ AllOwn w.heap.size w'.heap.size w' [(b, ⟨decide (V < 0), xs⟩)] ∧ AllAr w' [(b, ⟨decide (V < 0), xs⟩)] ∧ Nm xs V.natAbs
theorem OutB.toN {w : World} {V : Int} (e : Ending) (w' : World) (h : OutB w V e w') : OutN w V e w' := by
  obtain ⟨a, n, c, zs, rfl, hb, ho, ha, hn⟩ := h
  exact ⟨⟨decide (V < 0), a, n, c⟩, zs, rfl, hb, AllOwn.one ⟨rfl, ho.two, ha.len⟩, AllAr.cons ⟨rfl, ha⟩ (AllAr.nil _), hn⟩
theorem isB_of_out {w : World} {b : BV} {V : Int} {xs : List Int} (h : AllAr w [(b, ⟨decide (V < 0), xs⟩)]) (hn : Nm xs V.natAbs) : IsB w b V := ⟨xs, h.head, hn⟩
/-- The same without the memory: what the specification's inner functions answer. -/
def OutV (w : World) (V : Int) (e : Ending) (w' : World) : Prop := ∃ b : BV, e = .returned (.agg #[.bool b.g, .slice b.a b.n b.c]) ∧ Below w.heap.size w w' ∧ IsB w' b V
theorem OutN.toV {w : World} {V : Int} (e : Ending) (w' : World) (h : OutN w V e w') : OutV w V e w' := by
  obtain ⟨b, xs, rfl, hb, _, ha, hn⟩ := h
  exact ⟨b, rfl, hb, isB_of_out ha hn⟩
theorem OutB.toV {w : World} {V : Int} (e : Ending) (w' : World) (h : OutB w V e w') : OutV w V e w' := OutN.toV e w' (OutB.toN e w' h)

theorem addI_v (b b' : BV) (V V' : Int) (w : World) (h : IsB w b V) (h' : IsB w b' V') (k : Bd V 400000) (k' : Bd V' 400000) :
    Calls Tryd.prog 28 #[.agg #[.bool b.g, .slice b.a b.n b.c], .agg #[.bool b'.g, .slice b'.a b'.n b'.c]] w (OutN w (V + V')) := by
  obtain ⟨xs, hx, e, hl, _⟩ := h.num k (by omega)
  obtain ⟨ys, hy, e', hl', _⟩ := h'.num k' (by omega)
  subst e e'
  exact (addSgI_any b.g b'.g b.a b'.a b.n b'.n b.c b'.c xs ys w hx hy).mono OutB.toN
theorem addS_v (b b' : BV) (V V' : Int) (w : World) (h : IsB w b V) (h' : IsB w b' V') (k : Bd V 400000) (k' : Bd V' 400000) :
    Calls Tryd.prog 30 #[.agg #[.bool b.g, .slice b.a b.n b.c], .agg #[.bool b'.g, .slice b'.a b'.n b'.c]] w (OutN w (V + V')) := by
  obtain ⟨xs, hx, e, hl, _⟩ := h.num k (by omega)
  obtain ⟨ys, hy, e', hl', _⟩ := h'.num k' (by omega)
  subst e e'
  exact (addSgS_any b.g b'.g b.a b'.a b.n b'.n b.c b'.c xs ys w hx hy).mono OutB.toN
theorem subI_v (b b' : BV) (V V' : Int) (w : World) (h : IsB w b V) (h' : IsB w b' V') (k : Bd V 400000) (k' : Bd V' 400000) :
    Calls Tryd.prog 31 #[.agg #[.bool b.g, .slice b.a b.n b.c], .agg #[.bool b'.g, .slice b'.a b'.n b'.c]] w (OutN w (V - V')) := by
  obtain ⟨xs, hx, e, hl, _⟩ := h.num k (by omega)
  obtain ⟨ys, hy, e', hl', _⟩ := h'.num k' (by omega)
  subst e e'
  exact (subSgI_any b.g b'.g b.a b'.a b.n b'.n b.c b'.c xs ys w hx hy).mono OutB.toN
theorem subS_v (b b' : BV) (V V' : Int) (w : World) (h : IsB w b V) (h' : IsB w b' V') (k : Bd V 400000) (k' : Bd V' 400000) :
    Calls Tryd.prog 32 #[.agg #[.bool b.g, .slice b.a b.n b.c], .agg #[.bool b'.g, .slice b'.a b'.n b'.c]] w (OutN w (V - V')) := by
  obtain ⟨xs, hx, e, hl, _⟩ := h.num k (by omega)
  obtain ⟨ys, hy, e', hl', _⟩ := h'.num k' (by omega)
  subst e e'
  exact (subSgS_any b.g b'.g b.a b'.a b.n b'.n b.c b'.c xs ys w hx hy).mono OutB.toN
theorem ofI_v (n : Int) (w : World) (h0 : -9223372036854775808 ≤ n) (h1 : n ≤ 9223372036854775807) : Calls Tryd.prog 16 #[.int .i64 n] w (OutN w n) := (bigOfI_any n w h0 h1).mono OutB.toN
theorem ofS_v (n : Int) (w : World) (h0 : -9223372036854775808 ≤ n) (h1 : n ≤ 9223372036854775807) : Calls Tryd.prog 17 #[.int .i64 n] w (OutN w n) := (bigOfS_any n w h0 h1).mono OutB.toN
end Go.Proofs.YtdgonpbponnnaaaDoor
namespace Go.Proofs.YtdgonpbponnnaaaDoor
open Go.RowKit
set_option linter.unusedVariables false
set_option maxRecDepth 100000
set_option linter.unusedSimpArgs false

/-- A variable of the law's own: its box at block G, what it leads to at blocks from lo to below hi. -/
structure VarQ (wx : World) (G lo hi : Nat) (v : QV) (d : QD) : Prop where
  c0 : wx.cell? ⟨G, 0, none⟩ = some (.bool v.num.g)
  c1 : wx.cell? ⟨G, 1, none⟩ = some (.slice v.num.a v.num.n v.num.c)
  c2 : wx.cell? ⟨G, 2, none⟩ = some (.bool v.den.g)
  c3 : wx.cell? ⟨G, 3, none⟩ = some (.slice v.den.a v.den.n v.den.c)
  own : AllOwn lo hi wx [(v.num, d.num), (v.den, d.den)]
theorem VarQ.later {wx wy : World} {G lo hi : Nat} {v : QV} {d : QD} (h : VarQ wx G lo hi v d) (hb : Below wx.heap.size wx wy) : VarQ wy G lo hi v d :=
  ⟨cell_later hb h.c0, cell_later hb h.c1, cell_later hb h.c2, cell_later hb h.c3, h.own.later hb⟩
theorem VarQ.but {wx wy : World} {G lo hi lo' hi' : Nat} {v : QV} {d : QD} (h : VarQ wx G lo hi v d) (hb : But lo' hi' wx wy) (hG : G < lo' ∨ hi' ≤ G) (hd : hi ≤ lo' ∨ hi' ≤ lo) : VarQ wy G lo hi v d :=
  ⟨hb.cell h.c0 hG, hb.cell h.c1 hG, hb.cell h.c2 hG, hb.cell h.c3 hG, h.own.but hb hd⟩
theorem VarQ.mark {wx wy : World} {G lo hi : Nat} {v : QV} {d d' : QD} (h : VarQ wx G lo hi v d) (hb : But lo hi wx wy) (hG : G < lo ∨ hi ≤ G) (ho : AllOwn lo hi wy [(v.num, d'.num), (v.den, d'.den)]) : VarQ wy G lo hi v d' :=
  ⟨hb.cell h.c0 hG, hb.cell h.c1 hG, hb.cell h.c2 hG, hb.cell h.c3 hG, ho⟩
theorem VarQ.low {wx : World} {G lo hi lo' : Nat} {v : QV} {d : QD} (h : VarQ wx G lo hi v d) (hl : lo' ≤ lo) : VarQ wx G lo' hi v d := ⟨h.c0, h.c1, h.c2, h.c3, h.own.wide hl (Nat.le_refl _)⟩
theorem VarQ.start {wx : World} {lo : Nat} {v : QV} {d : QD} (t : TypeId) (h : AllOwn lo wx.heap.size wx [(v.num, d.num), (v.den, d.den)]) : VarQ (wx.alloc (.cells #[.bool v.num.g, .slice v.num.a v.num.n v.num.c, .bool v.den.g, .slice v.den.a v.den.n v.den.c] t)) wx.heap.size lo wx.heap.size v d :=
  ⟨by simp [go_sem], by simp [go_sem], by simp [go_sem], by simp [go_sem], h.later ((Below.refl _ _).alloc (Nat.le_refl _) _)⟩
theorem VarQ.gt {wx : World} {G lo hi : Nat} {v : QV} {d : QD} (h : VarQ wx G lo hi v d) : G < wx.heap.size := World.block_lt_of_cell? _ _ h.c0
/-- An answer lies in its box. -/
structure MetQ (wk wx : World) (G : Nat) (v : QV) (d : QD) : Prop where
  lo : wk.heap.size ≤ G
  hi : G < wx.heap.size
  var : VarQ wx G wk.heap.size wx.heap.size v d
  bel : Below wk.heap.size wk wx
theorem metQ_alloc {wk w5 : World} {v : QV} {d : QD} {B : Nat} (t : TypeId) (hk : Below wk.heap.size wk w5) (ho : AllOwn B w5.heap.size w5 [(v.num, d.num), (v.den, d.den)]) (hB : wk.heap.size ≤ B) :
    MetQ wk (w5.alloc (.cells #[.bool v.num.g, .slice v.num.a v.num.n v.num.c, .bool v.den.g, .slice v.den.a v.den.n v.den.c] t)) w5.heap.size v d := by
  have hv := VarQ.start t (ho.wide hB (Nat.le_refl _))
  exact ⟨hk.size, by simp, ⟨hv.c0, hv.c1, hv.c2, hv.c3, hv.own.wide (Nat.le_refl _) (by simp)⟩, hk.alloc hk.size _⟩
theorem metQ_but {w5 : World} {v : QV} {G : Nat} : But G (G + 1) w5 ((((w5.setCell ⟨G, 0, none⟩ (.bool v.num.g)).setCell ⟨G, 1, none⟩ (.slice v.num.a v.num.n v.num.c)).setCell ⟨G, 2, none⟩ (.bool v.den.g)).setCell ⟨G, 3, none⟩ (.slice v.den.a v.den.n v.den.c)) := (((((But.refl _ _ _).set (p := ⟨G, 0, none⟩) (Nat.le_refl _) (Nat.lt_succ_self _) _).set (p := ⟨G, 1, none⟩) (Nat.le_refl _) (Nat.lt_succ_self _) _).set (p := ⟨G, 2, none⟩) (Nat.le_refl _) (Nat.lt_succ_self _) _).set (p := ⟨G, 3, none⟩) (Nat.le_refl _) (Nat.lt_succ_self _) _)
theorem metQ_set {wk w5 : World} {v : QV} {d : QD} {B G : Nat} {z0 : Value} {z1 : Value} {z2 : Value} {z3 : Value} (hk : Below wk.heap.size wk w5) (ho : AllOwn B w5.heap.size w5 [(v.num, d.num), (v.den, d.den)]) (hG : wk.heap.size ≤ G) (hGB : G < B) (e0 : w5.cell? ⟨G, 0, none⟩ = some z0) (e1 : w5.cell? ⟨G, 1, none⟩ = some z1) (e2 : w5.cell? ⟨G, 2, none⟩ = some z2) (e3 : w5.cell? ⟨G, 3, none⟩ = some z3) :
    MetQ wk ((((w5.setCell ⟨G, 0, none⟩ (.bool v.num.g)).setCell ⟨G, 1, none⟩ (.slice v.num.a v.num.n v.num.c)).setCell ⟨G, 2, none⟩ (.bool v.den.g)).setCell ⟨G, 3, none⟩ (.slice v.den.a v.den.n v.den.c)) G v d := by
  have hb := metQ_but (w5 := w5) (v := v) (G := G)
  have hlt : G < w5.heap.size := World.block_lt_of_cell? _ _ e0
  refine ⟨hG, by have := hb.size; omega, ⟨?_, ?_, ?_, ?_, ?_⟩, hb.below hk hG hk.size⟩
  · simp [go_sem, e0, e1, e2, e3]
  · simp [go_sem, e0, e1, e2, e3]
  · simp [go_sem, e0, e1, e2, e3]
  · simp [go_sem, e0, e1, e2, e3]
  · exact (ho.but hb (.inr (by omega))).wide (by omega) hb.size
end Go.Proofs.YtdgonpbponnnaaaDoor
namespace Go.Proofs.YtdgonpbponnnaaaDoor
open Go.RowKit
set_option linter.unusedVariables false
set_option maxRecDepth 100000
set_option linter.unusedSimpArgs false

theorem Own2.take {lo hi : Nat} {w : World} {a : Option Addr} {zs : List Int} (h : Own2 lo hi w a zs) (k : Nat) : Own2 lo hi w a (zs.take k) := by
  rcases h with rfl | ⟨b, cur, rfl, h1, h2, hg, hc⟩
  · exact .inl (by simp)
  · refine .inr ⟨b, cur, rfl, h1, h2, hg, fun i hi => ?_⟩
    rw [List.length_take] at hi
    rw [hc i (by omega)]
    simp only [List.getD_eq_getElem?_getD, List.getElem?_take]
    rw [if_pos (by omega)]
theorem trim_any2 (a : Option Addr) (n c : Nat) (xs : List Int) (w : World) (hx : Arg w a n c xs) :
    Calls Tryd.prog 59 #[.slice a n c] w fun e w' => ∃ a' n' c', e = .returned (.slice a' n' c') ∧ w' = w ∧ (∀ wx, Arg wx a n c xs → Arg wx a' n' c' (trim xs)) ∧ (∀ lo hi wx, Own2 lo hi wx a xs → Own2 lo hi wx a' (trim xs)) := by
  obtain ⟨hs, hn, hnc, hcm, had⟩ := hx
  by_cases h0 : n = 0
  · subst h0
    obtain rfl : xs = [] := List.length_eq_zero_iff.1 hn
    refine (trim_nil_any a c w).mono ?_
    rintro e w' ⟨rfl, rfl⟩
    exact ⟨none, 0, 0, rfl, rfl, fun _ _ => Arg.none _, fun _ _ _ _ => .inl rfl⟩
  · rcases hs with rfl | ⟨b, off, rfl, hb, hc⟩
    · simp at hn; omega
    · refine (trim_cons b off n c xs w hn (by omega) (by omega) hnc hcm hb (by rw [← hn]; exact hc)).mono ?_
      rintro e w' ⟨⟨k, h1, h2, rfl⟩, rfl⟩
      have hl := trim_len xs
      by_cases hk : k = 0
      · have e : trim xs = [] := List.length_eq_zero_iff.1 (by omega)
        rw [if_pos hk, e]
        exact ⟨none, 0, 0, rfl, rfl, fun _ _ => Arg.none _, fun _ _ _ _ => .inl rfl⟩
      · rw [if_neg hk]
        refine ⟨_, _, _, rfl, rfl, fun wx hwx => ⟨?_, h2.symm, Nat.le_refl _, by omega, .inr ⟨_, _, rfl⟩⟩, fun lo hi wx ho => ?_⟩
        · rw [h1]; exact hwx.sl.take k
        · rw [h1]; exact ho.take k

set_option maxHeartbeats 1000000 in
theorem sign_any2 (g : Bool) (a : Option Addr) (n c : Nat) (xs : List Int) (w : World) (hx : Arg w a n c xs) :
    Calls Tryd.prog 38 #[.bool g, .slice a n c] w fun e w' => ∃ a' n' c', e = .returned (.agg #[.bool (sgn g (trim xs)), .slice a' n' c']) ∧ Below w.heap.size w w' ∧ Arg w' a' n' c' (trim xs) ∧ (∀ lo hi, Own2 lo hi w a xs → Own2 lo hi w' a' (trim xs)) := by
  have HX := hide hx
  clear hx
  go_enter Tryd.func38, Tryd.ntmps38
  go_wp2_with fail
  have HB := hide (show ∀ o, Below w.heap.size w (w.alloc o) from fun o => (Below.refl _ _).alloc (Nat.le_refl _) _)
  refine (trim_any2 a n c xs _ ((unhide HX).later (unhide HB _))).mono ?_
  rintro e w1 ⟨a', k, c', rfl, rfl, harg, hown⟩
  have hk := hide (harg _ ((unhide HX).later (unhide HB (.cells #[] 0)))).len
  have fin : Hid (∀ o, Below w.heap.size w (w.alloc o) ∧ Arg (w.alloc o) a' k c' (trim xs) ∧ ∀ lo hi, Own2 lo hi w a xs → Own2 lo hi (w.alloc o) a' (trim xs)) :=
    hide (fun o => ⟨unhide HB o, harg _ ((unhide HX).later (unhide HB o)), fun lo hi ho => hown lo hi _ (ho.later (unhide HB o))⟩)
  clear harg hown
  cases g
  · go_wp2
    refine bodyPost_ret (v := .agg #[.bool false, .slice a' k c']) (by simp [results, Tryd.results38, go_sem]) rfl ⟨a', k, c', rfl, ?_⟩
    exact unhide fin _
  · by_cases h0 : k = 0
    · subst h0
      go_wp2
      refine bodyPost_ret (v := .agg #[.bool false, .slice a' 0 c']) (by simp [results, Tryd.results38, go_sem]) rfl ⟨a', 0, c', ?_, ?_⟩
      · rw [List.length_eq_zero_iff.1 (unhide hk), sgn_nil]
      · exact unhide fin _
    · have hp : 0 < k := by omega
      go_wp2
      refine bodyPost_ret (v := .agg #[.bool true, .slice a' k c']) (by simp [results, Tryd.results38, go_sem, hp]) rfl ⟨a', k, c', ?_, ?_⟩
      · rw [sgn_cons (by rw [unhide hk]; exact hp)]
      · exact unhide fin _

/-- The number with a sign: g and U. -/
def sU (g : Bool) (U : Int) : Int := if g then -U else U
theorem sU_abs {g : Bool} {U : Int} (h : 0 ≤ U) : ((sU g U).natAbs : Int) = U := natAbs_sign h rfl
theorem signI_v (g : Bool) (a : Option Addr) (n c : Nat) (zs : List Int) (w : World) (lo hi : Nat) (U : Int) (ha : Arg w a n c zs) (ho : Own2 lo hi w a zs) (hk : Nm zs U) :
    Calls Tryd.prog 38 #[.bool g, .slice a n c] w fun e w' => ∃ b : BV, e = .returned (.agg #[.bool b.g, .slice b.a b.n b.c]) ∧ Below w.heap.size w w' ∧ AllOwn lo hi w' [(b, ⟨decide (sU g U < 0), zs⟩)] ∧ AllAr w' [(b, ⟨decide (sU g U < 0), zs⟩)] := by
  refine (sign_any2 g a n c zs w ha).mono ?_
  rintro e w' ⟨a2, n2, c2, rfl, hb2, ha2, ho2⟩
  have hg : sgn g (trim zs) = decide (sU g U < 0) := by rw [sgn_val (U := U) (by rw [hk.tr]; exact hk)]; rfl
  rw [hk.tr] at ha2
  have ho3 := ho2 lo hi ho
  rw [hk.tr] at ho3
  exact ⟨⟨sgn g (trim zs), a2, n2, c2⟩, rfl, hb2, AllOwn.one ⟨hg, ho3, ha2.len⟩, AllAr.cons ⟨hg, ha2⟩ (AllAr.nil _)⟩
theorem makeS_v (g : Bool) (a : Option Addr) (n c : Nat) (zs : List Int) (w : World) (U : Int) (ha : Arg w a n c zs) (hk : Nm zs U) (h1 : n ≤ 1048576) :
    Calls Tryd.prog 39 #[.bool g, .slice a n c] w fun e w' => ∃ b : BV, e = .returned (.agg #[.bool b.g, .slice b.a b.n b.c]) ∧ Below w.heap.size w w' ∧ AllOwn w.heap.size w'.heap.size w' [(b, ⟨decide (sU g U < 0), zs⟩)] ∧ AllAr w' [(b, ⟨decide (sU g U < 0), zs⟩)] := by
  refine (make_any g a n c zs w ha h1).mono ?_
  rintro e w' ⟨a2, n2, c2, rfl, hb2, ho2, ha2⟩
  have hg : sgn g (trim zs) = decide (sU g U < 0) := by rw [sgn_val (U := U) (by rw [hk.tr]; exact hk)]; rfl
  rw [hk.tr] at ha2 ho2
  exact ⟨⟨sgn g (trim zs), a2, n2, c2⟩, rfl, hb2, AllOwn.one ⟨hg, ho2.two, ha2.len⟩, AllAr.cons ⟨hg, ha2⟩ (AllAr.nil _)⟩

/-- Fractions by value. -/
def IsQ (w : World) (q : QV) (N D : Int) : Prop := IsB w q.num N ∧ IsB w q.den D
theorem IsQ.later {w w' : World} {q : QV} {N D : Int} (h : IsQ w q N D) (hb : Below w.heap.size w w') : IsQ w' q N D := ⟨h.1.later hb, h.2.later hb⟩
theorem IsQ.drew {w : World} {q : QV} {N D : Int} (h : IsQ w q N D) : IsQ w.drew q N D := h.later (Below.refl _ _).drew
def QD.of (N D : Int) (xs us : List Int) : QD := ⟨⟨decide (N < 0), xs⟩, ⟨decide (D < 0), us⟩⟩
/-- A call answers the fraction N / D in memory of its own. -/
def OutQ (w : World) (N D : Int) (e : Ending) (w' : World) : Prop :=
  ∃ (q : QV) (xs us : List Int), e = .returned (.agg #[.bool q.num.g, .slice q.num.a q.num.n q.num.c, .bool q.den.g, .slice q.den.a q.den.n q.den.c]) ∧ Below w.heap.size w w' ∧
    AllOwn w.heap.size w'.heap.size w' [(q.num, ⟨decide (N < 0), xs⟩), (q.den, ⟨decide (D < 0), us⟩)] ∧ AllAr w' [(q.num, ⟨decide (N < 0), xs⟩), (q.den, ⟨decide (D < 0), us⟩)] ∧ Nm xs N.natAbs ∧ Nm us D.natAbs
/-- b is the number V, its limbs at blocks from lo to below hi. -/
def Ow (lo hi : Nat) (w : World) (b : BV) (V : Int) : Prop := ∃ xs, AllOwn lo hi w [(b, ⟨decide (V < 0), xs⟩)] ∧ AllAr w [(b, ⟨decide (V < 0), xs⟩)] ∧ Nm xs V.natAbs
theorem Ow.later {lo hi : Nat} {w w' : World} {b : BV} {V : Int} (h : Ow lo hi w b V) (hb : Below w.heap.size w w') : Ow lo hi w' b V := by
  obtain ⟨xs, h1, h2, h3⟩ := h
  exact ⟨xs, h1.later hb, h2.later hb, h3⟩
theorem Ow.is {lo hi : Nat} {w : World} {b : BV} {V : Int} (h : Ow lo hi w b V) : IsB w b V := by
  obtain ⟨xs, h1, h2, h3⟩ := h
  exact ⟨xs, h2.head, h3⟩
theorem Ow.wide {lo hi lo' hi' : Nat} {w : World} {b : BV} {V : Int} (h : Ow lo hi w b V) (h1 : lo' ≤ lo) (h2 : hi ≤ hi') : Ow lo' hi' w b V := by
  obtain ⟨xs, k1, k2, k3⟩ := h
  exact ⟨xs, k1.wide h1 h2, k2, k3⟩
theorem Ow.but {lo hi lo' hi' : Nat} {w w' : World} {b : BV} {V : Int} (h : Ow lo hi w b V) (bt : But lo' hi' w w') (hd : hi ≤ lo' ∨ hi' ≤ lo) : Ow lo hi w' b V := by
  obtain ⟨xs, k1, k2, k3⟩ := h
  have o := k1.but bt hd
  exact ⟨xs, o, fun p hp => ⟨(k2 p hp).sg, ⟨(o.sl p hp).sl, (k2 p hp).ar.len, (k2 p hp).ar.cap, (k2 p hp).ar.top, (k2 p hp).ar.addr⟩⟩, k3⟩
theorem Ow.two {lo mid hi : Nat} {w : World} {b b' : BV} {V V' : Int} (h : Ow lo mid w b V) (k : Ow mid hi w b' V') (h1 : lo ≤ mid) (h2 : mid ≤ hi) :
    ∃ xs us, AllOwn lo hi w [(b, ⟨decide (V < 0), xs⟩), (b', ⟨decide (V' < 0), us⟩)] ∧ AllAr w [(b, ⟨decide (V < 0), xs⟩), (b', ⟨decide (V' < 0), us⟩)] ∧ Nm xs V.natAbs ∧ Nm us V'.natAbs := by
  obtain ⟨xs, k1, k2, k3⟩ := h
  obtain ⟨us, m1, m2, m3⟩ := k
  exact ⟨xs, us, k1.join m1 h1 h2, k2.append m2, k3, m3⟩
/-- A call answers what reads as the fraction N / D, in memory of its own (Num and Den may share it). -/
def OutQv (w : World) (N D : Int) (e : Ending) (w' : World) : Prop :=
  ∃ q : QV, e = .returned (.agg #[.bool q.num.g, .slice q.num.a q.num.n q.num.c, .bool q.den.g, .slice q.den.a q.den.n q.den.c]) ∧ Below w.heap.size w w' ∧ Ow w.heap.size w'.heap.size w' q.num N ∧ Ow w.heap.size w'.heap.size w' q.den D
theorem isQ_of {w : World} {q : QV} {N D : Int} {xs us : List Int} (h : AllAr w [(q.num, ⟨decide (N < 0), xs⟩), (q.den, ⟨decide (D < 0), us⟩)]) (h1 : Nm xs N.natAbs) (h2 : Nm us D.natAbs) : IsQ w q N D :=
  ⟨⟨xs, h.head, h1⟩, ⟨us, h.tail.head, h2⟩⟩
theorem OutQ.toV {w : World} {N D : Int} (e : Ending) (w' : World) (h : OutQ w N D e w') : OutQv w N D e w' := by
  obtain ⟨q, xs, us, rfl, hb, ho, ha, h1, h2⟩ := h
  exact ⟨q, rfl, hb, ⟨xs, ⟨fun p hp => ho.own p (by simp at hp ⊢; exact .inl hp), List.pairwise_singleton _ _⟩, fun p hp => ha p (by simp at hp ⊢; exact .inl hp), h1⟩, ⟨us, ⟨fun p hp => ho.own p (by simp at hp ⊢; exact .inr hp), List.pairwise_singleton _ _⟩, fun p hp => ha p (by simp at hp ⊢; exact .inr hp), h2⟩⟩
theorem outN_ow {w' : World} {b : BV} {V : Int} {xs : List Int} {lo hi : Nat} (ho : AllOwn lo hi w' [(b, ⟨decide (V < 0), xs⟩)]) (ha : AllAr w' [(b, ⟨decide (V < 0), xs⟩)]) (hn : Nm xs V.natAbs) : Ow lo hi w' b V := ⟨xs, ho, ha, hn⟩
/-- What a call's own box is written with at the end turns nothing else. -/
theorem own_fin {lo hi R : Nat} {wN W : World} {l : List (BV × BD)} (bt : But R (R + 1) wN W) (ho : AllOwn lo hi wN l) (hR : R + 1 ≤ lo) : AllOwn lo hi W l := ho.but bt (.inr hR)
theorem ar_fin {lo hi R : Nat} {wN W : World} {l : List (BV × BD)} (bt : But R (R + 1) wN W) (ho : AllOwn lo hi wN l) (ha : AllAr wN l) (hR : R + 1 ≤ lo) : AllAr W l := fun p hp =>
  ⟨(ha p hp).sg, ⟨((own_fin bt ho hR).sl p hp).sl, (ha p hp).ar.len, (ha p hp).ar.cap, (ha p hp).ar.top, (ha p hp).ar.addr⟩⟩
theorem outQ_fin {w wN W : World} {R : Nat} {q : QV} {xs us : List Int} {N D : Int} (hR : w.heap.size ≤ R) (hb : Below w.heap.size w wN) (bt : But R (R + 1) wN W)
    (ho : AllOwn (R + 1) wN.heap.size wN [(q.num, ⟨decide (N < 0), xs⟩), (q.den, ⟨decide (D < 0), us⟩)]) (ha : AllAr wN [(q.num, ⟨decide (N < 0), xs⟩), (q.den, ⟨decide (D < 0), us⟩)]) (h1 : Nm xs N.natAbs) (h2 : Nm us D.natAbs) :
    OutQ w N D (.returned (.agg #[.bool q.num.g, .slice q.num.a q.num.n q.num.c, .bool q.den.g, .slice q.den.a q.den.n q.den.c])) W :=
  ⟨q, xs, us, rfl, bt.below hb hR hb.size, (own_fin bt ho (Nat.le_refl _)).wide (by omega) bt.size, ar_fin bt ho ha (Nat.le_refl _), h1, h2⟩

/-- In lowest terms. -/
def lowU (N D : Int) : Int := (N.natAbs : Int) / (Nat.gcd N.natAbs D.natAbs : Int)
def lowN (N D : Int) : Int := sU (!(decide (N < 0) == decide (D < 0))) (lowU N D)
def lowD (N D : Int) : Int := (D.natAbs : Int) / (Nat.gcd N.natAbs D.natAbs : Int)
theorem lowU_nonneg (N D : Int) : 0 ≤ lowU N D := Int.ediv_nonneg (by omega) (by omega)
theorem lowD_nonneg (N D : Int) : 0 ≤ lowD N D := Int.ediv_nonneg (by omega) (by omega)
theorem lowN_abs (N D : Int) : ((lowN N D).natAbs : Int) = lowU N D := sU_abs (lowU_nonneg N D)
theorem lowD_abs (N D : Int) : ((lowD N D).natAbs : Int) = lowD N D := by have := lowD_nonneg N D; omega
theorem lowU_le (N D : Int) : lowU N D ≤ N.natAbs := Int.ediv_le_self _ (by omega)
theorem lowD_le (N D : Int) : lowD N D ≤ D.natAbs := Int.ediv_le_self _ (by omega)
theorem lowN_bd {N D : Int} {L : Nat} (h : Bd N L) : Bd (lowN N D) L := h.le (by have := lowN_abs N D; have := lowU_le N D; omega)
theorem lowD_bd {N D : Int} {L : Nat} (h : Bd D L) : Bd (lowD N D) L := h.le (by have := lowD_abs N D; have := lowD_le N D; omega)
theorem gcd_pos_right {N D : Int} (h : D ≠ 0) : 0 < Nat.gcd N.natAbs D.natAbs := Nat.gcd_pos_of_pos_right _ (by omega)
theorem lowD_pos {N D : Int} (h : D ≠ 0) : 0 < lowD N D := by
  have hg := gcd_pos_right (N := N) h
  have hd : Nat.gcd N.natAbs D.natAbs ≤ D.natAbs := Nat.le_of_dvd (by omega) (Nat.gcd_dvd_right _ _)
  have : 1 ≤ (D.natAbs : Int) / (Nat.gcd N.natAbs D.natAbs : Int) := Int.le_ediv_of_mul_le (by omega) (by omega)
  unfold lowD; omega
end Go.Proofs.YtdgonpbponnnaaaDoor
namespace Go.Proofs.YtdgonpbponnnaaaDoor
open Go.RowKit
set_option linter.unusedVariables false
set_option maxRecDepth 100000
set_option linter.unusedSimpArgs false

theorem cd_other {w : World} {b o : Nat} {x : Value} (h : w.cell? ⟨b, o, none⟩ = some x) : w.drew.cell? ⟨b, o, none⟩ = some x := cell_later (Below.refl _ _).drew h
theorem gcd_len {gs : List Int} {N D : Int} {n : Nat} (h : Nm gs ((Nat.gcd N.natAbs D.natAbs : Nat) : Int)) (hl : gs.length = n) (hD : D ≠ 0) (k : Bd D 400000) : 1 ≤ n ∧ n ≤ 400000 := by
  have hg := gcd_pos_right (N := N) hD
  have hd : Nat.gcd N.natAbs D.natAbs ≤ D.natAbs := Nat.le_of_dvd (by omega) (Nat.gcd_dvd_right _ _)
  subst hl
  constructor
  · have := h.nil_iff
    by_cases e : gs = []
    · have := this.1 e; omega
    · have : gs.length ≠ 0 := fun e0 => e (List.length_eq_zero_iff.1 e0)
      omega
  · exact Nm.len_le (V := ((Nat.gcd N.natAbs D.natAbs : Nat) : Int)) (by simpa using h) (k.le (by simp; omega))

theorem outN_fin {w wN W : World} {R : Nat} {b : BV} {xs : List Int} {V : Int} (hR : w.heap.size ≤ R) (hb : Below w.heap.size w wN) (bt : But R (R + 1) wN W)
    (ho : AllOwn (R + 1) wN.heap.size wN [(b, ⟨decide (V < 0), xs⟩)]) (ha : AllAr wN [(b, ⟨decide (V < 0), xs⟩)]) (h1 : Nm xs V.natAbs) : OutN w V (.returned (.agg #[.bool b.g, .slice b.a b.n b.c])) W :=
  ⟨b, xs, rfl, bt.below hb hR hb.size, (own_fin bt ho (Nat.le_refl _)).wide (by omega) bt.size, ar_fin bt ho ha (Nat.le_refl _), h1⟩
set_option maxHeartbeats 1000000 in
theorem negS_v (b : BV) (V : Int) (w : World) (h : IsB w b V) (k : Bd V 400000) :
    Calls Tryd.prog 56 #[.agg #[.bool b.g, .slice b.a b.n b.c]] w (OutN w (-V)) := by
  obtain ⟨xs, hx, _, hl, nx, sx⟩ := h.num k (by omega)
  have HX := hide hx.arg
  have NX := hide nx
  have SX := hide sx
  clear h hx nx sx
  have B0 := hide (show Below w.heap.size w ((w.alloc (.cells #[.bool b.g, .slice b.a b.n b.c] 25)).alloc (.cells #[.bool false, .slice none 0 0] 25)) from (((Below.refl _ _).alloc (by simp) _).alloc (by simp) _))
  go_enter Tryd.func56, Tryd.ntmps56
  go_wp2_with fail
  refine (makeS_v _ b.a b.n b.c xs _ (V.natAbs : Int) ((unhide HX).later (unhide B0)) (unhide NX) (by omega)).mono ?_
  rintro e w1 ⟨x1, rfl, hb, ow1, ar1⟩
  have s1 : w.heap.size + 1 + 1 ≤ w1.heap.size := by have := hb.size; simp at this; omega
  have e0 : sU (!b.g) (V.natAbs : Int) = -V := by
    rw [unhide SX]; unfold sU
    by_cases h0 : V < 0
    · rw [decide_eq_true h0, if_neg (by simp)]; omega
    · rw [decide_eq_false h0, if_pos (by simp)]; omega
  rw [e0] at ow1 ar1
  have OW := hide (ow1.wide (lo' := w.heap.size + 1 + 1) (by simp) (Nat.le_refl _))
  have AR := hide ar1
  have k1_0 : w1.cell? ⟨w.heap.size + 1, 0, none⟩ = some (.bool false) := cell_later hb (by simp [go_sem])
  have k1_1 : w1.cell? ⟨w.heap.size + 1, 1, none⟩ = some (.slice none 0 0) := cell_later hb (by simp [go_sem])
  have z1 : ∀ o, w1.frozen? ⟨w.heap.size + 1, o, none⟩ = false := fun o => frozen_later hb (by simp) (by simp [go_sem])
  have HB := hide (below_on (unhide B0) hb)
  clear hb
  clear ow1 ar1 e0
  have NN : Hid (Nm xs (-V).natAbs) := hide (by rw [Int.natAbs_neg]; exact unhide NX)
  go_wp2
  refine bodyPost_ret (v := .agg #[.bool x1.g, .slice x1.a x1.n x1.c]) (by simp [results, Tryd.results56, go_sem, k1_0, k1_1]) rfl ?_
  exact outN_fin (b := x1) (R := w.heap.size + 1) (by omega) (unhide HB) (metB_but (w5 := w1) (v := x1) (G := w.heap.size + 1)) (unhide OW) (unhide AR) (unhide NN)

theorem quot_len {zs rs : List Int} {X Y : Int} {N : Int} {n m : Nat} (h : Nm zs (X / Y)) (h' : Nm rs (X % Y)) (k : X = N.natAbs) (hn : zs.length = n) (hm : rs.length = m) (hY : 0 < Y) (kb : Bd N 400000) : n ≤ 400000 ∧ m ≤ 400000 := by
  subst k
  have h1 : (N.natAbs : Int) / Y ≤ N.natAbs := Int.ediv_le_self _ (by omega)
  have h2 : 0 ≤ (N.natAbs : Int) / Y := Int.ediv_nonneg (by omega) (by omega)
  have h3 : (N.natAbs : Int) % Y ≤ N.natAbs := by have e1 := Int.emod_add_mul_ediv (N.natAbs : Int) Y; have e2 := Int.mul_nonneg (show 0 ≤ Y by omega) h2; omega
  have h4 : 0 ≤ (N.natAbs : Int) % Y := Int.emod_nonneg _ (by omega)
  subst hn hm
  exact ⟨Nm.len_le (V := (N.natAbs : Int) / Y) (by rw [Int.natAbs_of_nonneg h2]; exact h) (kb.le (by omega)), Nm.len_le (V := (N.natAbs : Int) % Y) (by rw [Int.natAbs_of_nonneg h4]; exact h') (kb.le (by omega))⟩
/-- The quotient and the rest, with signs. -/
def OutDv (w : World) (N D : Int) (e : Ending) (w' : World) : Prop :=
  ∃ x y : BV, e = .returned (.tuple #[.agg #[.bool x.g, .slice x.a x.n x.c], .agg #[.bool y.g, .slice y.a y.n y.c]]) ∧ Below w.heap.size w w' ∧ Ow w.heap.size w'.heap.size w' x (sU (!(decide (N < 0) == decide (D < 0))) ((N.natAbs : Int) / (D.natAbs : Int))) ∧ Ow w.heap.size w'.heap.size w' y (sU (decide (N < 0)) ((N.natAbs : Int) % (D.natAbs : Int)))
end Go.Proofs.YtdgonpbponnnaaaDoor
namespace Go.Proofs.YtdgonpbponnnaaaDoor
open Go.RowKit
set_option linter.unusedVariables false
set_option maxRecDepth 100000
set_option linter.unusedSimpArgs false

theorem quot_g (N D X : Int) (hD : D ≠ 0) : sU (!(decide (X < 0) == decide (((Nat.gcd N.natAbs D.natAbs : Nat) : Int) < 0))) ((X.natAbs : Int) / ((((Nat.gcd N.natAbs D.natAbs : Nat) : Int)).natAbs : Int)) = sU (decide (X < 0)) ((X.natAbs : Int) / ((Nat.gcd N.natAbs D.natAbs : Nat) : Int)) := by
  have : decide (((Nat.gcd N.natAbs D.natAbs : Nat) : Int) < 0) = false := decide_eq_false (by omega)
  rw [this, Int.natAbs_natCast]
  cases decide (X < 0) <;> rfl
theorem low_neg {N D : Int} (h : D < 0) : -(sU (decide (N < 0)) (lowU N D)) = lowN N D ∧ -(sU (decide (D < 0)) (lowD N D)) = lowD N D := by
  unfold lowN sU
  rw [decide_eq_true h]
  refine ⟨?_, by simp⟩
  cases decide (N < 0) <;> simp
theorem low_pos {N D : Int} (h : 0 ≤ D) : sU (decide (N < 0)) (lowU N D) = lowN N D ∧ sU (decide (D < 0)) (lowD N D) = lowD N D := by
  unfold lowN sU
  rw [decide_eq_false (show ¬ D < 0 by omega)]
  refine ⟨?_, by simp⟩
  cases decide (N < 0) <;> simp
theorem outQv_fin {w wN W : World} {R : Nat} {q : QV} {N D : Int} (hR : w.heap.size ≤ R) (hb : Below w.heap.size w wN) (bt : But R (R + 1) wN W)
    (h1 : Ow (R + 1) wN.heap.size wN q.num N) (h2 : Ow (R + 1) wN.heap.size wN q.den D) : OutQv w N D (.returned (.agg #[.bool q.num.g, .slice q.num.a q.num.n q.num.c, .bool q.den.g, .slice q.den.a q.den.n q.den.c])) W :=
  ⟨q, rfl, bt.below hb hR hb.size, (h1.but bt (.inr (Nat.le_refl _))).wide (by omega) bt.size, (h2.but bt (.inr (Nat.le_refl _))).wide (by omega) bt.size⟩

end Go.Proofs.YtdgonpbponnnaaaDoor
namespace Go.Proofs.YtdgonpbponnnaaaDoor
open Go.RowKit
set_option linter.unusedVariables false
set_option maxRecDepth 100000
set_option linter.unusedSimpArgs false

/-- A variable's box that holds a value of the kind B. -/
structure BxB (wk wx : World) (G : Nat) (x : BV) (V : Int) : Prop where
  lo : wk.heap.size ≤ G
  hi : G < wx.heap.size
  c0 : wx.cell? ⟨G, 0, none⟩ = some (.bool x.g)
  c1 : wx.cell? ⟨G, 1, none⟩ = some (.slice x.a x.n x.c)
  ow : Ow wk.heap.size wx.heap.size wx x V
  bel : Below wk.heap.size wk wx
theorem bxB_alloc {wk w5 : World} {x : BV} {V : Int} {B : Nat} (t : TypeId) (hk : Below wk.heap.size wk w5) (how : Ow B w5.heap.size w5 x V) (hB : wk.heap.size ≤ B) : BxB wk (w5.alloc (.cells #[.bool x.g, .slice x.a x.n x.c] t)) w5.heap.size x V :=
  ⟨hk.size, by simp, by simp [go_sem], by simp [go_sem], (how.later ((Below.refl _ _).alloc (Nat.le_refl _) _)).wide hB (by simp), hk.alloc hk.size _⟩
theorem bxB_set {wk w5 : World} {x : BV} {V : Int} {B G : Nat} {z0 : Value} {z1 : Value} (hk : Below wk.heap.size wk w5) (how : Ow B w5.heap.size w5 x V) (hG : wk.heap.size ≤ G) (hGB : G < B) (e0 : w5.cell? ⟨G, 0, none⟩ = some z0) (e1 : w5.cell? ⟨G, 1, none⟩ = some z1) : BxB wk ((w5.setCell ⟨G, 0, none⟩ (.bool x.g)).setCell ⟨G, 1, none⟩ (.slice x.a x.n x.c)) G x V := by
  have hb := metB_but (w5 := w5) (v := x) (G := G)
  have hlt : G < w5.heap.size := World.block_lt_of_cell? _ _ e0
  refine ⟨hG, by have := hb.size; omega, ?_, ?_, (how.but hb (.inr (by omega))).wide (by omega) hb.size, hb.below hk hG hk.size⟩
  · simp [go_sem, e0, e1]
  · simp [go_sem, e0, e1]
/-- A variable's box that holds a value of the kind Q. -/
structure BxQ (wk wx : World) (G : Nat) (x : QV) (N : Int) (D : Int) : Prop where
  lo : wk.heap.size ≤ G
  hi : G < wx.heap.size
  c0 : wx.cell? ⟨G, 0, none⟩ = some (.bool x.num.g)
  c1 : wx.cell? ⟨G, 1, none⟩ = some (.slice x.num.a x.num.n x.num.c)
  c2 : wx.cell? ⟨G, 2, none⟩ = some (.bool x.den.g)
  c3 : wx.cell? ⟨G, 3, none⟩ = some (.slice x.den.a x.den.n x.den.c)
  ow1 : Ow wk.heap.size wx.heap.size wx x.num N
  ow2 : Ow wk.heap.size wx.heap.size wx x.den D
  bel : Below wk.heap.size wk wx
theorem bxQ_alloc {wk w5 : World} {x : QV} {N : Int} {D : Int} {B : Nat} (t : TypeId) (hk : Below wk.heap.size wk w5) (how1 : Ow B w5.heap.size w5 x.num N) (how2 : Ow B w5.heap.size w5 x.den D) (hB : wk.heap.size ≤ B) : BxQ wk (w5.alloc (.cells #[.bool x.num.g, .slice x.num.a x.num.n x.num.c, .bool x.den.g, .slice x.den.a x.den.n x.den.c] t)) w5.heap.size x N D :=
  ⟨hk.size, by simp, by simp [go_sem], by simp [go_sem], by simp [go_sem], by simp [go_sem], (how1.later ((Below.refl _ _).alloc (Nat.le_refl _) _)).wide hB (by simp), (how2.later ((Below.refl _ _).alloc (Nat.le_refl _) _)).wide hB (by simp), hk.alloc hk.size _⟩
theorem bxQ_set {wk w5 : World} {x : QV} {N : Int} {D : Int} {B G : Nat} {z0 : Value} {z1 : Value} {z2 : Value} {z3 : Value} (hk : Below wk.heap.size wk w5) (how1 : Ow B w5.heap.size w5 x.num N) (how2 : Ow B w5.heap.size w5 x.den D) (hG : wk.heap.size ≤ G) (hGB : G < B) (e0 : w5.cell? ⟨G, 0, none⟩ = some z0) (e1 : w5.cell? ⟨G, 1, none⟩ = some z1) (e2 : w5.cell? ⟨G, 2, none⟩ = some z2) (e3 : w5.cell? ⟨G, 3, none⟩ = some z3) : BxQ wk ((((w5.setCell ⟨G, 0, none⟩ (.bool x.num.g)).setCell ⟨G, 1, none⟩ (.slice x.num.a x.num.n x.num.c)).setCell ⟨G, 2, none⟩ (.bool x.den.g)).setCell ⟨G, 3, none⟩ (.slice x.den.a x.den.n x.den.c)) G x N D := by
  have hb := metQ_but (w5 := w5) (v := x) (G := G)
  have hlt : G < w5.heap.size := World.block_lt_of_cell? _ _ e0
  refine ⟨hG, by have := hb.size; omega, ?_, ?_, ?_, ?_, (how1.but hb (.inr (by omega))).wide (by omega) hb.size, (how2.but hb (.inr (by omega))).wide (by omega) hb.size, hb.below hk hG hk.size⟩
  · simp [go_sem, e0, e1, e2, e3]
  · simp [go_sem, e0, e1, e2, e3]
  · simp [go_sem, e0, e1, e2, e3]
  · simp [go_sem, e0, e1, e2, e3]

end Go.Proofs.YtdgonpbponnnaaaDoor
namespace Go.Proofs.YtdgonpbponnnaaaDoor
open Go.RowKit
set_option linter.unusedVariables false
set_option maxRecDepth 100000
set_option linter.unusedSimpArgs false

/-- What CompareRat answers: the order of A and B, where both are good. -/
def OutK (w : World) (P : Bool) (A B : Int) (e : Ending) (w' : World) : Prop :=
  Below w.heap.size w w' ∧ ((P = true ∧ ∃ ts us, Nm ts A.natAbs ∧ Nm us B.natAbs ∧ e = .returned (.tuple #[.int .i64 (cmpB (decide (A < 0)) ts (decide (B < 0)) us), .bool true])) ∨ (P = false ∧ e = .returned (.tuple #[.int .i64 0, .bool false])))
theorem goodR_parts {g h : Bool} {xs us : List Int} (k : goodR g xs h us = true) : goodB g xs = true ∧ goodB h us = true := by
  unfold goodR at k
  rw [Bool.and_eq_true, Bool.and_eq_true] at k
  exact k.1
theorem good_len {w : World} {g : Bool} {a : Option Addr} {n c : Nat} {xs : List Int} (ha : Arg w a n c xs) (h : goodB g xs = true) : n ≤ 40 := by rw [← ha.len]; exact (good_parts h).2.2.1

end Go.Proofs.YtdgonpbponnnaaaDoor
namespace Go.Proofs.YtdgonpbponnnaaaDoor
open Go.RowKit
set_option linter.unusedVariables false
set_option maxRecDepth 100000
set_option linter.unusedSimpArgs false

/-- A call answers a fraction and whether: what it leads to is its own. -/
def RetQ (w : World) (U : QD → Bool → Prop) (e : Ending) (w' : World) : Prop := ∃ (v : QV) (d : QD) (ok : Bool), e = .returned (.tuple #[.agg #[.bool v.num.g, .slice v.num.a v.num.n v.num.c, .bool v.den.g, .slice v.den.a v.den.n v.den.c], .bool ok]) ∧ Below w.heap.size w w' ∧ AllOwn w.heap.size w'.heap.size w' [(v.num, d.num), (v.den, d.den)] ∧ U d ok
def RetQin (lo hi : Nat) (w : World) (U : QD → Bool → Prop) (e : Ending) (w' : World) : Prop := ∃ (v : QV) (d : QD) (ok : Bool), e = .returned (.tuple #[.agg #[.bool v.num.g, .slice v.num.a v.num.n v.num.c, .bool v.den.g, .slice v.den.a v.den.n v.den.c], .bool ok]) ∧ Below w.heap.size w w' ∧ AllOwn lo hi w' [(v.num, d.num), (v.den, d.den)] ∧ U d ok
theorem zeroQ (lo hi : Nat) (w : World) : AllOwn lo hi w [((⟨⟨false, none, 0, 0⟩, ⟨false, none, 0, 0⟩⟩ : QV).num, (⟨⟨false, []⟩, ⟨false, []⟩⟩ : QD).num), ((⟨⟨false, none, 0, 0⟩, ⟨false, none, 0, 0⟩⟩ : QV).den, (⟨⟨false, []⟩, ⟨false, []⟩⟩ : QD).den)] := ⟨fun p hp => by
  have hp : p = ((⟨false, none, 0, 0⟩ : BV), (⟨false, []⟩ : BD)) := by simpa using hp
  subst hp
  exact ⟨rfl, .inl rfl, rfl⟩, List.pairwise_cons.2 ⟨fun p hp => .inl rfl, List.pairwise_singleton _ _⟩⟩
/-- The answer N / D, where both fit; otherwise, and where P does not hold, the zero answer. -/
def AnsQ (P : Bool) (N D : Int) (d : QD) (ok : Bool) : Prop :=
  (P = true ∧ ∃ zs us, Nm zs N.natAbs ∧ Nm us D.natAbs ∧ ((zs.length ≤ 40 ∧ us.length ≤ 40 ∧ ok = true ∧ d = ⟨⟨decide (N < 0), zs⟩, ⟨decide (D < 0), us⟩⟩) ∨ (¬ (zs.length ≤ 40 ∧ us.length ≤ 40) ∧ ok = false ∧ d = (⟨⟨false, []⟩, ⟨false, []⟩⟩ : QD)))) ∨ (P = false ∧ ok = false ∧ d = (⟨⟨false, []⟩, ⟨false, []⟩⟩ : QD))
theorem AnsQ.same {P : Bool} {N D : Int} {d d' : QD} {ok ok' : Bool} (h : AnsQ P N D d ok) (k : AnsQ P N D d' ok') : d = d' ∧ ok = ok' := by
  rcases h with ⟨p, zs, us, h1, h2, h3⟩ | ⟨p, h1, h2⟩ <;> rcases k with ⟨p', zs', us', k1, k2, k3⟩ | ⟨p', k1, k2⟩
  · obtain rfl := h1.same k1
    obtain rfl := h2.same k2
    rcases h3 with ⟨a, b, c, e⟩ | ⟨a, c, e⟩ <;> rcases k3 with ⟨a', b', c', e'⟩ | ⟨a', c', e'⟩
    · exact ⟨e.trans e'.symm, c.trans c'.symm⟩
    · exact absurd ⟨a, b⟩ a'
    · exact absurd ⟨a', b'⟩ a
    · exact ⟨e.trans e'.symm, c.trans c'.symm⟩
  · rw [p] at p'; cases p'
  · rw [p] at p'; cases p'
  · exact ⟨h2.trans k2.symm, h1.trans k1.symm⟩
theorem AnsQ.lens {P : Bool} {N D : Int} {d : QD} {ok : Bool} (h : AnsQ P N D d ok) : d.num.xs.length ≤ 40 ∧ d.den.xs.length ≤ 40 := by
  rcases h with ⟨p, zs, us, h1, h2, ⟨a, b, c, rfl⟩ | ⟨a, c, rfl⟩⟩ | ⟨p, h1, rfl⟩
  · exact ⟨a, b⟩
  · exact ⟨by simp, by simp⟩
  · exact ⟨by simp, by simp⟩
theorem ansQ_none (N D : Int) : AnsQ false N D (⟨⟨false, []⟩, ⟨false, []⟩⟩ : QD) false := .inr ⟨rfl, rfl, rfl⟩
theorem retQ_fin {w wN W : World} {R : Nat} {v : QV} {d : QD} {ok : Bool} {U : QD → Bool → Prop} (hR : w.heap.size ≤ R) (hb : Below w.heap.size w wN) (bt : But R (R + 1) wN W)
    (ho : AllOwn (R + 1) wN.heap.size wN [(v.num, d.num), (v.den, d.den)]) (hu : U d ok) : RetQ w U (.returned (.tuple #[.agg #[.bool v.num.g, .slice v.num.a v.num.n v.num.c, .bool v.den.g, .slice v.den.a v.den.n v.den.c], .bool ok])) W :=
  ⟨v, d, ok, rfl, bt.below hb hR hb.size, (own_fin bt ho (Nat.le_refl _)).wide (by omega) bt.size, hu⟩

def gQ (d : QD) : Bool := goodR d.num.g d.num.xs d.den.g d.den.xs
def nQ (d : QD) : Int := sv d.num.g d.num.xs
def dQ (d : QD) : Int := sv d.den.g d.den.xs
/-- A good fraction reads as what it says; its denominator is above 0. -/
structure IsGood (w : World) (q : QV) (d : QD) : Prop where
  is : IsQ w q (nQ d) (dQ d)
  kn : Bd (nQ d) 40
  kd : Bd (dQ d) 40
  pos : 0 < dQ d
  low : Nat.gcd (nQ d).natAbs (dQ d).natAbs = 1
theorem isGood_of {w : World} {q : QV} {d : QD} (h : AllAr w [(q.num, d.num), (q.den, d.den)]) (hg : gQ d = true) : IsGood w q d := by
  have h0 := hg
  unfold gQ at hg
  obtain ⟨g1, g2⟩ := goodR_parts hg
  obtain ⟨i1, k1⟩ := isB_of_good h.head g1
  obtain ⟨i2, k2⟩ := isB_of_good h.tail.head g2
  unfold goodR at hg
  simp only [Bool.and_eq_true, Bool.not_eq_true', decide_eq_true_eq] at hg
  obtain ⟨_, h1, h2, h3⟩ := hg
  obtain ⟨o1, t1, _, _⟩ := good_parts g1
  obtain ⟨o2, t2, _, _⟩ := good_parts g2
  have v1 := val_nonneg o1
  have v2 := val_nonneg o2
  have hz : val d.den.xs ≠ 0 := fun e => h2 (by rw [(val_zero_iff o2 t2).1 e]; rfl)
  have hd : dQ d = val d.den.xs := by unfold dQ sv; rw [h1]; simp
  have hn : (nQ d).natAbs = (val d.num.xs).toNat := by unfold nQ sv; split <;> omega
  exact ⟨⟨i1, i2⟩, k1, k2, by omega, by rw [hn, hd, show (val d.den.xs).natAbs = (val d.den.xs).toNat by omega]; exact h3⟩
theorem IsGood.later {w w' : World} {q : QV} {d : QD} (h : IsGood w q d) (hb : Below w.heap.size w w') : IsGood w' q d := ⟨h.is.later hb, h.kn, h.kd, h.pos, h.low⟩

end Go.Proofs.YtdgonpbponnnaaaDoor
namespace Go.Proofs.YtdgonpbponnnaaaDoor
open Go.RowKit
set_option linter.unusedVariables false
set_option maxRecDepth 100000
set_option linter.unusedSimpArgs false

def RetB (w : World) (U : BD → Bool → Prop) (e : Ending) (w' : World) : Prop := ∃ (v : BV) (d : BD) (ok : Bool), e = .returned (.tuple #[.agg #[.bool v.g, .slice v.a v.n v.c], .bool ok]) ∧ Below w.heap.size w w' ∧ AllOwn w.heap.size w'.heap.size w' [(v, d)] ∧ U d ok
def AnsB (P : Bool) (V : Int) (d : BD) (ok : Bool) : Prop := (P = true ∧ ok = true ∧ d.g = decide (V < 0) ∧ Nm d.xs V.natAbs ∧ d.xs.length ≤ 40) ∨ (P = false ∧ ok = false ∧ d = ⟨false, []⟩)
theorem AnsB.same {P : Bool} {V : Int} {d d' : BD} {ok ok' : Bool} (h : AnsB P V d ok) (k : AnsB P V d' ok') : d = d' ∧ ok = ok' := by
  obtain ⟨g, xs⟩ := d
  obtain ⟨g', xs'⟩ := d'
  rcases h with ⟨p, o, a, b, _⟩ | ⟨p, o, e⟩ <;> rcases k with ⟨p', o', a', b', _⟩ | ⟨p', o', e'⟩
  · simp only at a b a' b'
    rw [a, a', b.same b']
    exact ⟨rfl, o.trans o'.symm⟩
  · rw [p] at p'; cases p'
  · rw [p] at p'; cases p'
  · exact ⟨e.trans e'.symm, o.trans o'.symm⟩
theorem AnsB.lens {P : Bool} {V : Int} {d : BD} {ok : Bool} (h : AnsB P V d ok) : d.xs.length ≤ 40 := by
  rcases h with ⟨_, _, _, _, h⟩ | ⟨_, _, rfl⟩
  · exact h
  · simp
theorem retB_fin {w wN W : World} {R : Nat} {v : BV} {d : BD} {ok : Bool} {U : BD → Bool → Prop} (hR : w.heap.size ≤ R) (hb : Below w.heap.size w wN) (bt : But R (R + 1) wN W) (ho : AllOwn (R + 1) wN.heap.size wN [(v, d)]) (hu : U d ok) : RetB w U (.returned (.tuple #[.agg #[.bool v.g, .slice v.a v.n v.c], .bool ok])) W :=
  ⟨v, d, ok, rfl, bt.below hb hR hb.size, (own_fin bt ho (Nat.le_refl _)).wide (by omega) bt.size, hu⟩
theorem floor_pos {N D : Int} (hD : 0 < D) (hN : ¬ N < 0) : sU false ((N.natAbs : Int) / (D.natAbs : Int)) = N / D ∧ (N.natAbs : Int) % (D.natAbs : Int) = N % D := by
  rw [show (N.natAbs : Int) = N by omega, show (D.natAbs : Int) = D by omega]
  exact ⟨rfl, rfl⟩
theorem floor_neg0 {N D : Int} (hD : 0 < D) (hN : N < 0) (hr : (N.natAbs : Int) % (D.natAbs : Int) = 0) : sU true ((N.natAbs : Int) / (D.natAbs : Int)) = N / D ∧ (N.natAbs : Int) % (D.natAbs : Int) = N % D := by
  have e1 := Int.emod_add_mul_ediv (N.natAbs : Int) (D.natAbs : Int)
  rw [hr] at e1 ⊢
  rw [show (D.natAbs : Int) = D by omega] at *
  show -((N.natAbs : Int) / D) = N / D ∧ 0 = N % D
  generalize (N.natAbs : Int) / D = k at *
  have := (Int.ediv_emod_unique (a := N) (r := 0) (q := -k) hD).2 ⟨by rw [Int.mul_neg]; omega, by omega, hD⟩
  exact ⟨this.1.symm, this.2.symm⟩
theorem floor_neg {N D : Int} (hD : 0 < D) (hN : N < 0) (hr : (N.natAbs : Int) % (D.natAbs : Int) ≠ 0) : -((N.natAbs : Int) / (D.natAbs : Int) + 1) = N / D ∧ (D.natAbs : Int) - (N.natAbs : Int) % (D.natAbs : Int) = N % D := by
  have e1 := Int.emod_add_mul_ediv (N.natAbs : Int) (D.natAbs : Int)
  have e2 := Int.emod_nonneg (N.natAbs : Int) (show (D.natAbs : Int) ≠ 0 by omega)
  have e3 := Int.emod_lt_of_pos (N.natAbs : Int) (show 0 < (D.natAbs : Int) by omega)
  rw [show (D.natAbs : Int) = D by omega] at *
  generalize (N.natAbs : Int) / D = k at *
  generalize (N.natAbs : Int) % D = r at *
  have := (Int.ediv_emod_unique (a := N) (r := D - r) (q := -(k + 1)) hD).2 ⟨by rw [Int.mul_neg, Int.mul_add, Int.mul_one]; omega, by omega, by omega⟩
  exact ⟨this.1.symm, this.2.symm⟩
theorem floor_abs {N D : Int} (hD : 0 < D) : (N / D).natAbs ≤ N.natAbs ∧ 0 ≤ N % D ∧ N % D < D := by
  have e1 := Int.emod_add_mul_ediv N D
  have e2 := Int.emod_nonneg N (show D ≠ 0 by omega)
  have e3 := Int.emod_lt_of_pos N hD
  refine ⟨?_, e2, e3⟩
  by_cases h : 0 ≤ N
  · have h1 : 0 ≤ N / D := Int.ediv_nonneg h (by omega)
    have h2 : N / D ≤ N := Int.ediv_le_self _ h
    omega
  · have h1 : N / D < 0 := Int.ediv_neg_of_neg_of_pos (by omega) hD
    have h2 : N ≤ N / D := by
      have m := Int.mul_le_mul_of_nonneg_left (show 1 ≤ D by omega) (show 0 ≤ -(N / D + 1) by omega)
      have e4 : -(N / D + 1) * D = -(D * (N / D)) - D := by rw [Int.neg_mul, Int.add_mul, Int.one_mul, Int.mul_comm (N / D) D]; omega
      rw [Int.mul_one, e4] at m
      omega
    omega
/-- A call answers floor and rest. -/
def OutFR (w : World) (N D : Int) (e : Ending) (w' : World) : Prop := ∃ x y : BV, e = .returned (.tuple #[.agg #[.bool x.g, .slice x.a x.n x.c], .agg #[.bool y.g, .slice y.a y.n y.c]]) ∧ Below w.heap.size w w' ∧ Ow w.heap.size w'.heap.size w' x (N / D) ∧ Ow w.heap.size w'.heap.size w' y (N % D)

end Go.Proofs.YtdgonpbponnnaaaDoor
namespace Go.Proofs.YtdgonpbponnnaaaDoor
open Go.RowKit
set_option linter.unusedVariables false
set_option maxRecDepth 100000
set_option linter.unusedSimpArgs false

/-- Two numbers and a bool are answered, in memory of the call's own, apart. -/
def RetD (w : World) (U : QD → Bool → Prop) (e : Ending) (w' : World) : Prop := ∃ (v : QV) (d : QD) (ok : Bool), e = .returned (.tuple #[.agg #[.bool v.num.g, .slice v.num.a v.num.n v.num.c], .agg #[.bool v.den.g, .slice v.den.a v.den.n v.den.c], .bool ok]) ∧ Below w.heap.size w w' ∧ AllOwn w.heap.size w'.heap.size w' [(v.num, d.num), (v.den, d.den)] ∧ U d ok
theorem RetD.drew {w W : World} {U : QD → Bool → Prop} {e : Ending} (h : RetD w U e W) : RetD w U e W.drew := by
  obtain ⟨v, d, ok, rfl, hb, ho, hu⟩ := h
  exact ⟨v, d, ok, rfl, hb.drew, ho.later (Below.refl _ _).drew, hu⟩
def AnsD (P : Bool) (A B : Int) (d : QD) (ok : Bool) : Prop := AnsB P A d.num ok ∧ AnsB P B d.den ok
theorem AnsD.same {P : Bool} {A B : Int} {d d' : QD} {ok ok' : Bool} (h : AnsD P A B d ok) (k : AnsD P A B d' ok') : d = d' ∧ ok = ok' := by
  obtain ⟨e1, e2⟩ := h.1.same k.1
  obtain ⟨e3, _⟩ := h.2.same k.2
  obtain ⟨d1, d2⟩ := d
  obtain ⟨d3, d4⟩ := d'
  simp only at e1 e3
  exact ⟨by rw [e1, e3], e2⟩
theorem AnsD.lens {P : Bool} {A B : Int} {d : QD} {ok : Bool} (h : AnsD P A B d ok) : d.num.xs.length ≤ 40 ∧ d.den.xs.length ≤ 40 := ⟨h.1.lens, h.2.lens⟩
/-- The quotient and the rest of two numbers as they are read. -/
def qD (d d' : BD) : Int := sU (!(d.g == d'.g)) (val d.xs / val d'.xs)
def rD (d d' : BD) : Int := sU d.g (val d.xs % val d'.xs)
def pD (d d' : BD) : Bool := (goodB d.g d.xs && goodB d'.g d'.xs) && decide (d'.xs.length ≠ 0)
theorem dOwn_zero (lo hi : Nat) (w : World) : AllOwn lo hi w [((⟨⟨false, none, 0, 0⟩, ⟨false, none, 0, 0⟩⟩ : QV).num, (⟨⟨false, []⟩, ⟨false, []⟩⟩ : QD).num), ((⟨⟨false, none, 0, 0⟩, ⟨false, none, 0, 0⟩⟩ : QV).den, (⟨⟨false, []⟩, ⟨false, []⟩⟩ : QD).den)] := zeroQ lo hi w
theorem AnsD.no {A B : Int} : AnsD false A B ⟨⟨false, []⟩, ⟨false, []⟩⟩ false := ⟨.inr ⟨rfl, rfl, rfl⟩, .inr ⟨rfl, rfl, rfl⟩⟩
theorem retD_fin {w wN : World} {R : Nat} {v : QV} {d : QD} {ok : Bool} {U : QD → Bool → Prop} (hR : w.heap.size ≤ R) (hb : Below w.heap.size w wN) (ho : AllOwn (R + 1 + 1) wN.heap.size wN [(v.num, d.num), (v.den, d.den)]) (hu : U d ok) :
    RetD w U (.returned (.tuple #[.agg #[.bool v.num.g, .slice v.num.a v.num.n v.num.c], .agg #[.bool v.den.g, .slice v.den.a v.den.n v.den.c], .bool ok])) ((((wN.setCell ⟨R, 0, none⟩ (.bool v.num.g)).setCell ⟨R, 1, none⟩ (.slice v.num.a v.num.n v.num.c)).setCell ⟨R + 1, 0, none⟩ (.bool v.den.g)).setCell ⟨R + 1, 1, none⟩ (.slice v.den.a v.den.n v.den.c)) := by
  have bt1 := metB_but (w5 := wN) (v := v.num) (G := R)
  have bt2 := metB_but (w5 := (wN.setCell ⟨R, 0, none⟩ (.bool v.num.g)).setCell ⟨R, 1, none⟩ (.slice v.num.a v.num.n v.num.c)) (v := v.den) (G := R + 1)
  have h1 := bt1.below hb hR hb.size
  exact ⟨v, d, ok, rfl, bt2.below h1 (by omega) h1.size, ((ho.but bt1 (.inr (by omega))).but bt2 (.inr (by omega))).wide (by omega) (Nat.le_trans bt1.size bt2.size), hu⟩
/-- What a quotient and a rest lie in can be cut in two. -/
theorem mid_of {lo : Nat} {w : World} {a a' : Option Addr} {zs rs : List Int} (h : Own lo w a zs) (h' : Own lo w a' rs) (k : Apart a zs a' rs) (hl : lo ≤ w.heap.size) : ∃ mid, lo ≤ mid ∧ mid ≤ w.heap.size ∧ Own2 lo mid w a zs ∧ Own2 mid w.heap.size w a' rs := by
  rcases k with k | k | ⟨b, o, b', o', ea, ea', hlt⟩
  · exact ⟨lo, Nat.le_refl _, hl, .inl k, h'.two⟩
  · exact ⟨w.heap.size, hl, Nat.le_refl _, h.two, .inl k⟩
  · rcases h.two with e | ⟨c, cur, e, h1, h2, hg, hc⟩
    · exact ⟨lo, Nat.le_refl _, hl, .inl e, h'.two⟩
    · rcases h'.two with e' | ⟨c', cur', e', h1', h2', hg', hc'⟩
      · exact ⟨w.heap.size, hl, Nat.le_refl _, h.two, .inl e'⟩
      · have f1 : c = b := by rw [ea] at e; injection e with e; injection e with e _ _; exact e.symm
        have f2 : c' = b' := by rw [ea'] at e'; injection e' with e'; injection e' with e' _ _; exact e'.symm
        exact ⟨c', by omega, by omega, .inr ⟨c, cur, e, h1, by omega, hg, hc⟩, .inr ⟨c', cur', e', Nat.le_refl _, h2', hg', hc'⟩⟩
theorem div_short {xs ys zs rs : List Int} (ox : okL xs) (hy : 0 < val ys) (h : Nm zs (val xs / val ys)) (k : Nm rs (val xs % val ys)) : zs.length ≤ xs.length ∧ rs.length ≤ xs.length := by
  have x0 := val_nonneg ox
  have h1 : val xs / val ys ≤ val xs := Int.ediv_le_self _ x0
  have h2 : 0 ≤ val xs / val ys := Int.ediv_nonneg x0 (by omega)
  have h3 : val xs % val ys ≤ val xs := by have e1 := Int.emod_add_mul_ediv (val xs) (val ys); have e2 := Int.mul_nonneg (show 0 ≤ val ys by omega) h2; omega
  exact ⟨len_of_val ox h.ok h.tr (by rw [h.v]; exact h1), len_of_val ox k.ok k.tr (by rw [k.v]; exact h3)⟩
theorem val_pos_of {ys : List Int} (oy : okL ys) (ty : trim ys = ys) (h : ys.length ≠ 0) : 0 < val ys := by
  have h1 := val_nonneg oy
  have h2 := (val_zero_iff oy ty)
  by_cases e : val ys = 0
  · exact absurd (by rw [h2.1 e]; rfl) h
  · omega
theorem ansD_yes {d d' : BD} {zs rs : List Int} (hg1 : goodB d.g d.xs = true) (hg2 : goodB d'.g d'.xs = true) (h0 : d'.xs.length ≠ 0) (h : Nm zs (val d.xs / val d'.xs)) (k : Nm rs (val d.xs % val d'.xs)) :
    AnsD (pD d d') (qD d d') (rD d d') ⟨⟨decide (qD d d' < 0), zs⟩, ⟨decide (rD d d' < 0), rs⟩⟩ true := by
  obtain ⟨ox, tx, lx, _⟩ := good_parts hg1
  obtain ⟨oy, ty, ly, _⟩ := good_parts hg2
  have hp : pD d d' = true := by unfold pD; rw [hg1, hg2]; simp only [Bool.and_self, Bool.true_and]; exact decide_eq_true h0
  have y0 := val_pos_of oy ty h0
  obtain ⟨l1, l2⟩ := div_short ox y0 h k
  refine ⟨.inl ⟨hp, rfl, rfl, ?_, ?_⟩, .inl ⟨hp, rfl, rfl, ?_, ?_⟩⟩
  · show Nm zs ((qD d d').natAbs : Int)
    unfold qD; rw [sU_abs (Int.ediv_nonneg (val_nonneg ox) (by omega))]; exact h
  · exact Nat.le_trans l1 lx
  · show Nm rs ((rD d d').natAbs : Int)
    unfold rD; rw [sU_abs (Int.emod_nonneg _ (by omega))]; exact k
  · exact Nat.le_trans l2 lx

/-- The specification's l1Div at good numbers. -/
def OutD (w : World) (d d' : BD) (e : Ending) (w' : World) : Prop := ∃ (x y : BV) (zs rs : List Int), e = .returned (.tuple #[.agg #[.bool x.g, .slice x.a x.n x.c], .agg #[.bool y.g, .slice y.a y.n y.c]]) ∧ Below w.heap.size w w' ∧ AllOwn w.heap.size w'.heap.size w' [(x, ⟨decide (qD d d' < 0), zs⟩), (y, ⟨decide (rD d d' < 0), rs⟩)] ∧ Nm zs (val d.xs / val d'.xs) ∧ Nm rs (val d.xs % val d'.xs)
end Go.Proofs.YtdgonpbponnnaaaDoor
namespace Go.Proofs.YtdgonpbponnnaaaDoor
open Go.RowKit
set_option linter.unusedVariables false
set_option maxRecDepth 100000
set_option linter.unusedSimpArgs false

theorem zAr (w : World) : AllAr w [((⟨false, none, 0, 0⟩ : BV), (⟨false, []⟩ : BD))] := AllAr.cons ⟨rfl, Arg.none _⟩ (AllAr.nil _)
def RetDa (w : World) (U : QD → Bool → Prop) (e : Ending) (w' : World) : Prop := ∃ (v : QV) (d : QD) (ok : Bool), e = .returned (.tuple #[.agg #[.bool v.num.g, .slice v.num.a v.num.n v.num.c], .agg #[.bool v.den.g, .slice v.den.a v.den.n v.den.c], .bool ok]) ∧ Below w.heap.size w w' ∧ AllAr w' [(v.num, d.num)] ∧ AllAr w' [(v.den, d.den)] ∧ U d ok
theorem retDa_fin {w wN : World} {R : Nat} {v : QV} {d : QD} {ok : Bool} {U : QD → Bool → Prop} (hR : w.heap.size ≤ R) (hb : Below w.heap.size w wN) (ho : AllOwn (R + 1 + 1) wN.heap.size wN [(v.num, d.num), (v.den, d.den)]) (q1 : AllAr wN [(v.num, d.num)]) (q2 : AllAr wN [(v.den, d.den)]) (hu : U d ok) :
    RetDa w U (.returned (.tuple #[.agg #[.bool v.num.g, .slice v.num.a v.num.n v.num.c], .agg #[.bool v.den.g, .slice v.den.a v.den.n v.den.c], .bool ok])) ((((wN.setCell ⟨R, 0, none⟩ (.bool v.num.g)).setCell ⟨R, 1, none⟩ (.slice v.num.a v.num.n v.num.c)).setCell ⟨R + 1, 0, none⟩ (.bool v.den.g)).setCell ⟨R + 1, 1, none⟩ (.slice v.den.a v.den.n v.den.c)) := by
  have bt1 := metB_but (w5 := wN) (v := v.num) (G := R)
  have bt2 := metB_but (w5 := (wN.setCell ⟨R, 0, none⟩ (.bool v.num.g)).setCell ⟨R, 1, none⟩ (.slice v.num.a v.num.n v.num.c)) (v := v.den) (G := R + 1)
  have h1 := bt1.below hb hR hb.size
  have o1 : AllOwn (R + 1 + 1) wN.heap.size wN [(v.num, d.num)] := AllOwn.one (ho.own (v.num, d.num) (by simp))
  have o2 : AllOwn (R + 1 + 1) wN.heap.size wN [(v.den, d.den)] := AllOwn.one (ho.own (v.den, d.den) (by simp))
  exact ⟨v, d, ok, rfl, bt2.below h1 (by omega) h1.size, ar_keep2 (o1.but bt1 (.inr (by omega))) (ar_keep2 o1 q1 bt1 (by omega)) bt2 (by omega), ar_keep2 (o2.but bt1 (.inr (by omega))) (ar_keep2 o2 q2 bt1 (by omega)) bt2 (by omega), hu⟩
end Go.Proofs.YtdgonpbponnnaaaDoor
namespace Go.Proofs.YtdgonpbponnnaaaDoor
open Go.RowKit
set_option linter.unusedVariables false
set_option maxRecDepth 100000
set_option linter.unusedSimpArgs false

theorem below_via {w w1 w2 : World} (h : Below w.heap.size w w1) (k : Below w1.heap.size w1 w2) : Below w.heap.size w w2 := h.trans (k.mono h.size)
def cmpOk (g : Bool) (xs : List Int) (g' : Bool) (ys : List Int) : Bool := goodB g xs && goodB g' ys
def cmpV (g : Bool) (xs : List Int) (g' : Bool) (ys : List Int) : Int := if cmpOk g xs g' ys then cmpB g xs g' ys else 0

set_option maxHeartbeats 1000000 in
theorem CompareI_any (g g' : Bool) (a a' : Option Addr) (n m c c' : Nat) (xs ys : List Int) (w : World) (hx : Sl w a xs) (hy : Sl w a' ys) (hn : xs.length = n) (hn' : ys.length = m) (hm : n ≤ maxLen) (hm' : m ≤ maxLen) :
    Calls Tryd.prog 9 #[.agg #[.bool g, .slice a n c], .agg #[.bool g', .slice a' m c']] w fun e w' => e = .returned (.tuple #[.int .i64 (cmpV g xs g' ys), .bool (cmpOk g xs g' ys)]) ∧ Below w.heap.size w w' := by
  have HX := hide hx
  have HY := hide hy
  have HN := hide hn
  have HN' := hide hn'
  clear hx hy hn hn'
  cases hg : cmpOk g xs g' ys
  · have hv : cmpV g xs g' ys = 0 := by simp [cmpV, hg]
    rw [hv]
    have hg' : (goodB g xs && goodB g' ys) = false := hg
    clear hg hv
    go_enter Tryd.func9, Tryd.ntmps9
    go_wp2_with fail
    refine (pair_any g g' a a' n m c c' xs ys _ ((unhide HX).later (Nat.le_refl _) (below_two _ _ _)) ((unhide HY).later (Nat.le_refl _) (below_two _ _ _)) (unhide HN) (unhide HN') hm hm').mono ?_
    rintro e w1 ⟨rfl, hb⟩
    rw [hg']
    go_wp2
    go_ret2
    exact ⟨rfl, below_two' hb⟩
  · have hv : cmpV g xs g' ys = cmpB g xs g' ys := by simp [cmpV, hg]
    rw [hv]
    have hg' : (goodB g xs && goodB g' ys) = true := hg
    clear hg hv
    go_enter Tryd.func9, Tryd.ntmps9
    go_wp2_with fail
    refine (pair_any g g' a a' n m c c' xs ys _ ((unhide HX).later (Nat.le_refl _) (below_two _ _ _)) ((unhide HY).later (Nat.le_refl _) (below_two _ _ _)) (unhide HN) (unhide HN') hm hm').mono ?_
    rintro e w1 ⟨rfl, hb⟩
    rw [hg']
    have x0 : w1.cell? ⟨w.heap.size, 0, none⟩ = some (.bool g) := cell_later hb (by simp [go_sem])
    have x1 : w1.cell? ⟨w.heap.size, 1, none⟩ = some (.slice a n c) := cell_later hb (by simp [go_sem])
    have y0 : w1.cell? ⟨w.heap.size + 1, 0, none⟩ = some (.bool g') := cell_later hb (by simp [go_sem])
    have y1 : w1.cell? ⟨w.heap.size + 1, 1, none⟩ = some (.slice a' m c') := cell_later hb (by simp [go_sem])
    have HB := hide (below_two' hb)
    clear hb hg'
    go_wp2_with fail
    refine (cmpBI_any g g' a a' n m c c' xs ys w1 ((unhide HX).later (Nat.le_refl _) (unhide HB)) ((unhide HY).later (Nat.le_refl _) (unhide HB)) (unhide HN) (unhide HN') hm hm').mono ?_
    rintro e w2 ⟨rfl, hb2⟩
    go_wp2
    go_ret2
    exact ⟨rfl, below_via (unhide HB) hb2⟩

set_option maxHeartbeats 2000000 in
theorem CompareS_any (g g' : Bool) (a a' : Option Addr) (n m c c' : Nat) (xs ys : List Int) (w : World) (hx : Sl w a xs) (hy : Sl w a' ys) (hn : xs.length = n) (hn' : ys.length = m) (hm : n ≤ maxLen) (hm' : m ≤ maxLen) :
    Calls Tryd.prog 10 #[.agg #[.bool g, .slice a n c], .agg #[.bool g', .slice a' m c']] w fun e w' => e = .returned (.tuple #[.int .i64 (cmpV g xs g' ys), .bool (cmpOk g xs g' ys)]) ∧ Below w.heap.size w w' := by
  have HX := hide hx
  have HY := hide hy
  have HN := hide hn
  have HN' := hide hn'
  clear hx hy hn hn'
  cases h1 : goodB g xs
  · have ho : cmpOk g xs g' ys = false := by simp [cmpOk, h1]
    have hv : cmpV g xs g' ys = 0 := by simp [cmpV, ho]
    rw [hv, ho]
    clear hv ho
    go_enter Tryd.func10, Tryd.ntmps10
    go_wp2_with fail
    refine (goodS_any g a n c xs _ ((unhide HX).later (Nat.le_refl _) (below_two _ _ _)) (unhide HN) hm).mono ?_
    rintro e w1 ⟨rfl, hb⟩
    go_wp2
    go_ret2
    exact ⟨rfl, below_two' hb⟩
  · cases h2 : goodB g' ys
    · have ho : cmpOk g xs g' ys = false := by simp [cmpOk, h2]
      have hv : cmpV g xs g' ys = 0 := by simp [cmpV, ho]
      rw [hv, ho]
      clear hv ho
      go_enter Tryd.func10, Tryd.ntmps10
      go_wp2_with fail
      refine (goodS_any g a n c xs _ ((unhide HX).later (Nat.le_refl _) (below_two _ _ _)) (unhide HN) hm).mono ?_
      rintro e w1 ⟨rfl, hb⟩
      have y0 : w1.cell? ⟨w.heap.size + 1, 0, none⟩ = some (.bool g') := cell_later hb (by simp [go_sem])
      have y1 : w1.cell? ⟨w.heap.size + 1, 1, none⟩ = some (.slice a' m c') := cell_later hb (by simp [go_sem])
      have HB := hide (below_two' hb)
      clear hb
      go_wp2_with fail
      refine (goodS_any g' a' m c' ys w1 ((unhide HY).later (Nat.le_refl _) (unhide HB)) (unhide HN') hm').mono ?_
      rintro e w2 ⟨rfl, hb2⟩
      go_wp2
      go_ret2
      exact ⟨rfl, below_via (unhide HB) hb2⟩
    · have ho : cmpOk g xs g' ys = true := by simp [cmpOk, h1, h2]
      have hv : cmpV g xs g' ys = cmpB g xs g' ys := by simp [cmpV, ho]
      rw [hv, ho]
      clear hv ho
      go_enter Tryd.func10, Tryd.ntmps10
      go_wp2_with fail
      refine (goodS_any g a n c xs _ ((unhide HX).later (Nat.le_refl _) (below_two _ _ _)) (unhide HN) hm).mono ?_
      rintro e w1 ⟨rfl, hb⟩
      have x0 : w1.cell? ⟨w.heap.size, 0, none⟩ = some (.bool g) := cell_later hb (by simp [go_sem])
      have x1 : w1.cell? ⟨w.heap.size, 1, none⟩ = some (.slice a n c) := cell_later hb (by simp [go_sem])
      have y0 : w1.cell? ⟨w.heap.size + 1, 0, none⟩ = some (.bool g') := cell_later hb (by simp [go_sem])
      have y1 : w1.cell? ⟨w.heap.size + 1, 1, none⟩ = some (.slice a' m c') := cell_later hb (by simp [go_sem])
      have HB := hide (below_two' hb)
      clear hb
      go_wp2_with fail
      refine (goodS_any g' a' m c' ys w1 ((unhide HY).later (Nat.le_refl _) (unhide HB)) (unhide HN') hm').mono ?_
      rintro e w2 ⟨rfl, hb2⟩
      replace x0 := cell_later hb2 x0
      replace x1 := cell_later hb2 x1
      replace y0 := cell_later hb2 y0
      replace y1 := cell_later hb2 y1
      replace HB := hide (below_via (unhide HB) hb2)
      clear hb2
      go_wp2_with fail
      refine (cmpBS_any g g' a a' n m c c' xs ys w2 ((unhide HX).later (Nat.le_refl _) (unhide HB)) ((unhide HY).later (Nat.le_refl _) (unhide HB)) (unhide HN) (unhide HN') hm hm').mono ?_
      rintro e w3 ⟨rfl, hb3⟩
      go_wp2
      go_ret2
      exact ⟨rfl, below_via (unhide HB) hb3⟩
end Go.Proofs.YtdgonpbponnnaaaDoor
namespace Go.Proofs.YtdgonpbponnnaaaDoor
open Go.RowKit
set_option linter.unusedVariables false
set_option maxRecDepth 100000
set_option linter.unusedSimpArgs false

theorem gB_neg {g : Bool} {xs : List Int} (h : goodB g xs = true) : (sv g xs < 0 ↔ g = true) ∧ (sv g xs = 0 ↔ xs.length = 0) := by
  obtain ⟨h1, h2, h3, h4⟩ := good_parts h
  have hv := val_nonneg h1
  have hz := val_zero_iff h1 h2
  have hl : xs = [] ↔ xs.length = 0 := List.length_eq_zero_iff.symm
  unfold sv
  cases g
  · rw [if_neg (by simp)]
    exact ⟨⟨fun e => by omega, fun e => by cases e⟩, hz.trans hl⟩
  · rw [if_pos rfl]
    have h5 : xs ≠ [] := fun e => by cases h4 e
    have h6 : val xs ≠ 0 := fun e => h5 (hz.1 e)
    exact ⟨⟨fun _ => rfl, fun _ => by omega⟩, ⟨fun e => by omega, fun e => absurd (hl.2 e) h5⟩⟩
theorem gB_of {g : Bool} {xs : List Int} {V : Int} (h : Nm xs V.natAbs) (hl : xs.length ≤ 40) (hg : g = decide (V < 0)) : goodB g xs = true := by
  unfold goodB
  have ha : xs.all limbOk = true := List.all_eq_true.2 (fun x hx => by have := h.ok x hx; simp [limbOk]; omega)
  rw [ha, Bool.true_and]
  by_cases h0 : xs.length = 0
  · rw [if_pos h0, hg]
    have := h.nil_iff.1 (List.length_eq_zero_iff.1 h0)
    simp
    omega
  · rw [if_neg h0, decide_eq_true hl, Bool.true_and]
    have hne : xs ≠ [] := fun e => h0 (by rw [e]; rfl)
    have hx := List.dropLast_concat_getLast hne
    have hz : xs.getLast hne ≠ 0 := fun e => by
      have h1 := h.tr
      rw [← hx, e, trim_snoc_zero] at h1
      have h2 := congrArg List.length h1
      have h3 := trim_len xs.dropLast
      simp at h2
      rw [h2] at h3
      simp at h3
      omega
    have e : xs.getD (xs.length - 1) 0 = xs.getLast hne := by
      rw [List.getLast_eq_getElem, List.getD_eq_getElem?_getD, List.getElem?_eq_getElem (by omega)]
      rfl
    rw [e]
    simpa using hz
/-- A number in the one form that it has. -/
structure Fm (d : BD) (V : Int) : Prop where
  sg : d.g = decide (V < 0)
  nm : Nm d.xs V.natAbs
  len : d.xs.length ≤ 40
theorem Fm.same {d d' : BD} {V : Int} (h : Fm d V) (k : Fm d' V) : d = d' := by
  obtain ⟨g, xs⟩ := d
  obtain ⟨g', xs'⟩ := d'
  have e1 : g = decide (V < 0) := h.sg
  have e2 : g' = decide (V < 0) := k.sg
  have e3 : xs = xs' := h.nm.same k.nm
  subst e3
  rw [e1, e2]
theorem Fm.of {d : BD} (h : goodB d.g d.xs = true) : Fm d (sv d.g d.xs) := by
  have hn := gB_neg h
  obtain ⟨h1, h2, h3, h4⟩ := good_parts h
  have hv := val_nonneg h1
  refine ⟨?_, ⟨h1, h2, ?_⟩, h3⟩
  · cases hg : d.g
    · exact (decide_eq_false (fun e => by rw [hg] at hn; cases hn.1.1 e)).symm
    · rw [hg] at hn; exact (decide_eq_true (hn.1.2 rfl)).symm
  · unfold sv
    split <;> omega
theorem Fm.val {d : BD} {V : Int} (h : Fm d V) : val d.xs = V.natAbs := h.nm.v
theorem Fm.sve {d : BD} {V : Int} (h : Fm d V) : sv d.g d.xs = V := by
  have e := h.val
  unfold sv
  rw [h.sg, e]
  by_cases hV : V < 0
  · simp [hV]; omega
  · simp [hV]; omega
theorem Fm.good {d : BD} {V : Int} (h : Fm d V) : goodB d.g d.xs = true := gB_of h.nm h.len h.sg
theorem Fm.zero {d : BD} {V : Int} (h : Fm d V) : d.xs.length = 0 ↔ V = 0 := by
  have := h.nm.nil_iff
  rw [← List.length_eq_zero_iff] at this
  omega
theorem ans_yes {P : Bool} {V : Int} {d : BD} (h : Ans P V d.g d.xs true) : P = true ∧ Fm d V := by
  rcases h with ⟨h0, ts, hn, ⟨hl, _, hg, hz⟩ | ⟨_, e, _⟩⟩ | ⟨_, e, _⟩
  · subst hz; exact ⟨h0, hg, hn, hl⟩
  · cases e
  · cases e
theorem ans_fits {P : Bool} {V : Int} {d : BD} {ok : Bool} (h : Ans P V d.g d.xs ok) (hP : P = true) {W : BD} (hW : Fm W V) : ok = true ∧ d = W := by
  rcases h with ⟨h0, ts, hn, ⟨hl, h1, hg, hz⟩ | ⟨hl, _⟩⟩ | ⟨h0, _⟩
  · subst hz; exact ⟨h1, Fm.same ⟨hg, hn, hl⟩ hW⟩
  · have := hn.same hW.nm
    rw [this] at hl
    have := hW.len
    omega
  · rw [hP] at h0; cases h0
theorem ans_le {P : Bool} {V : Int} {d : BD} {ok : Bool} (h : Ans P V d.g d.xs ok) (hP : P = true) {W : BD} {U : Int} (hW : Fm W U) (hle : V.natAbs ≤ U.natAbs) : ok = true ∧ Fm d V := by
  rcases h with ⟨h0, ts, hn, ⟨hl, h1, hg, hz⟩ | ⟨hl, _⟩⟩ | ⟨h0, _⟩
  · subst hz; exact ⟨h1, hg, hn, hl⟩
  · have k := hn.le hW.nm.ok rfl (by rw [hW.val]; omega)
    have := hW.len
    omega
  · rw [hP] at h0; cases h0
theorem ansD_fm {P : Bool} {A B : Int} {d : QD} {ok : Bool} (h : AnsD P A B d ok) (hP : P = true) : ok = true ∧ Fm d.num A ∧ Fm d.den B := by
  rcases h with ⟨h1 | h1, h2 | h2⟩
  · exact ⟨h1.2.1, ⟨h1.2.2.1, h1.2.2.2.1, h1.2.2.2.2⟩, ⟨h2.2.2.1, h2.2.2.2.1, h2.2.2.2.2⟩⟩
  · rw [hP] at h2; cases h2.1
  · rw [hP] at h1; cases h1.1
  · rw [hP] at h1; cases h1.1
theorem ansD_yes2 {P : Bool} {A B : Int} {d : QD} (h : AnsD P A B d true) : P = true := by
  rcases h.1 with h | h
  · exact h.1
  · cases h.2.1
theorem pD_of {d d' : BD} {A B : Int} (h : Fm d A) (k : Fm d' B) (hB : B ≠ 0) : pD d d' = true := by
  unfold pD
  rw [h.good, k.good]
  have := k.zero
  simp
  intro e
  rw [e] at this
  exact hB (this.1 rfl)
theorem sU_mul (A B : Int) (hB : B ≠ 0) : sU (!(decide (A * B < 0) == decide (B < 0))) (A.natAbs : Int) = A := by
  unfold sU
  by_cases h1 : A < 0
  · by_cases h2 : B < 0
    · have h3 : 0 < A * B := Int.mul_pos_of_neg_of_neg h1 h2
      simp [h2, show ¬ A * B < 0 by omega]; omega
    · have h3 : A * B < 0 := Int.mul_neg_of_neg_of_pos h1 (by omega)
      simp [h2, h3]; omega
  · by_cases h0 : A = 0
    · subst h0; simp
    · by_cases h2 : B < 0
      · have h3 : A * B < 0 := Int.mul_neg_of_pos_of_neg (by omega) h2
        simp [h2, h3]; omega
      · have h3 : 0 < A * B := Int.mul_pos (by omega) (by omega)
        simp [h2, show ¬ A * B < 0 by omega]; omega
theorem qr_mul {d d' : BD} {A B : Int} (h : Fm d (A * B)) (k : Fm d' B) (hB : B ≠ 0) : qD d d' = A ∧ rD d d' = 0 := by
  have e1 : ((A * B).natAbs : Int) / (B.natAbs : Int) = (A.natAbs : Int) := by rw [Int.natAbs_mul, Int.natCast_mul]; exact Int.mul_ediv_cancel _ (by omega)
  have e2 : ((A * B).natAbs : Int) % (B.natAbs : Int) = 0 := by rw [Int.natAbs_mul, Int.natCast_mul]; exact Int.mul_emod_left _ _
  constructor
  · unfold qD
    rw [h.val, k.val, h.sg, k.sg, e1]
    exact sU_mul A B hB
  · unfold rD
    rw [h.val, k.val, e2]
    unfold sU
    split <;> rfl
theorem pd_back {da db dp : BD} (h : Ans (goodB da.g da.xs && goodB db.g db.xs) (sv da.g da.xs * sv db.g db.xs) dp.g dp.xs true) (h0 : db.xs.length ≠ 0) {d : QD} {ok : Bool} (k : AnsD (pD dp db) (qD dp db) (rD dp db) d ok) : ok = true ∧ d.num = da ∧ d.den.xs.length = 0 := by
  obtain ⟨hP, hp⟩ := ans_yes h
  have hg := (Bool.and_eq_true _ _).mp hP
  have fa := Fm.of hg.1
  have fb := Fm.of hg.2
  have hB : sv db.g db.xs ≠ 0 := fun e => h0 (fb.zero.2 e)
  obtain ⟨e1, e2⟩ := qr_mul hp fb hB
  rw [e1, e2] at k
  obtain ⟨q1, q2, q3⟩ := ansD_fm k (pD_of hp fb hB)
  exact ⟨q1, q2.same fa, q3.zero.2 rfl⟩
theorem val_eq {d : BD} {A : Int} (h : Fm d A) : val d.xs = A.natAbs := h.val
theorem qr_sum (A B : Int) (hB : B ≠ 0) : sU (!(decide (A < 0) == decide (B < 0))) ((A.natAbs : Int) / (B.natAbs : Int)) * B + sU (decide (A < 0)) ((A.natAbs : Int) % (B.natAbs : Int)) = A := by
  have h1 := Int.mul_ediv_add_emod (A.natAbs : Int) (B.natAbs : Int)
  unfold sU
  generalize (A.natAbs : Int) / (B.natAbs : Int) = q at *
  generalize (A.natAbs : Int) % (B.natAbs : Int) = r at *
  by_cases hA : A < 0
  · by_cases hb : B < 0
    · simp [hA, hb]
      have e : (B.natAbs : Int) = -B := by omega
      rw [e, Int.neg_mul, Int.mul_comm] at h1
      omega
    · simp [hA, hb]
      have e : (B.natAbs : Int) = B := by omega
      rw [e, Int.mul_comm] at h1
      rw [Int.neg_mul]
      omega
  · by_cases hb : B < 0
    · simp [hA, hb]
      have e : (B.natAbs : Int) = -B := by omega
      rw [e, Int.neg_mul, Int.mul_comm] at h1
      rw [Int.neg_mul]
      omega
    · simp [hA, hb]
      have e : (B.natAbs : Int) = B := by omega
      rw [e, Int.mul_comm] at h1
      omega
/-- A quotient and a rest that are told. -/
structure QR2 (da db : BD) (d : QD) (A B Q R : Int) : Prop where
  fa : Fm da A
  fb : Fm db B
  nz : B ≠ 0
  fq : Fm d.num Q
  fr : Fm d.den R
  sum : Q * B + R = A
  small : R.natAbs < B.natAbs
  part : (Q * B).natAbs ≤ A.natAbs
  sign : R ≠ 0 → (R < 0 ↔ A < 0)
theorem two_of {da db : BD} {d : QD} (h : AnsD (pD da db) (qD da db) (rD da db) d true) : ∃ A B Q R, QR2 da db d A B Q R := by
  have hP := ansD_yes2 h
  obtain ⟨_, h1, h2⟩ := ansD_fm h hP
  unfold pD at hP
  simp only [Bool.and_eq_true, decide_eq_true_eq] at hP
  obtain ⟨⟨g1, g2⟩, g3⟩ := hP
  have fa := Fm.of g1
  have fb := Fm.of g2
  have hB : sv db.g db.xs ≠ 0 := fun e => g3 (fb.zero.2 e)
  generalize sv da.g da.xs = A at *
  generalize sv db.g db.xs = B at *
  have eq : qD da db = sU (!(decide (A < 0) == decide (B < 0))) ((A.natAbs : Int) / (B.natAbs : Int)) := by unfold qD; rw [fa.val, fb.val, fa.sg, fb.sg]
  have er : rD da db = sU (decide (A < 0)) ((A.natAbs : Int) % (B.natAbs : Int)) := by unfold rD; rw [fa.val, fb.val, fa.sg]
  rw [eq] at h1
  rw [er] at h2
  have hs := qr_sum A B hB
  have m0 := Int.emod_nonneg (A.natAbs : Int) (show (B.natAbs : Int) ≠ 0 by omega)
  have m1 := Int.emod_lt_of_pos (A.natAbs : Int) (show (0 : Int) < (B.natAbs : Int) by omega)
  have q0 : 0 ≤ (A.natAbs : Int) / (B.natAbs : Int) := Int.ediv_nonneg (by omega) (by omega)
  have q1 := Int.mul_ediv_add_emod (A.natAbs : Int) (B.natAbs : Int)
  refine ⟨A, B, _, _, fa, fb, hB, h1, h2, hs, ?_, ?_, ?_⟩
  · have := @sU_abs (decide (A < 0)) _ m0
    omega
  · have e := @sU_abs (!(decide (A < 0) == decide (B < 0))) _ q0
    rw [Int.natAbs_mul]
    have : ((((sU (!(decide (A < 0) == decide (B < 0))) ((A.natAbs : Int) / (B.natAbs : Int))).natAbs * B.natAbs : Nat)) : Int) ≤ (A.natAbs : Int) := by rw [Int.natCast_mul, e, Int.mul_comm]; omega
    omega
  · intro h0
    generalize (A.natAbs : Int) % (B.natAbs : Int) = r at h0 m0 ⊢
    by_cases hA : A < 0
    · have e : sU (decide (A < 0)) r = -r := by unfold sU; simp [hA]
      rw [e] at h0 ⊢
      exact ⟨fun _ => hA, fun _ => by omega⟩
    · have e : sU (decide (A < 0)) r = r := by unfold sU; simp [hA]
      rw [e] at h0 ⊢
      exact ⟨fun _ => by omega, fun h => absurd h hA⟩
theorem pd_two {da db : BD} {d : QD} (h : AnsD (pD da db) (qD da db) (rD da db) d true) {dm ds : BD} {okm oks : Bool} (k : Ans (goodB d.num.g d.num.xs && goodB db.g db.xs) (sv d.num.g d.num.xs * sv db.g db.xs) dm.g dm.xs okm) (l : Ans (goodB dm.g dm.xs && goodB d.den.g d.den.xs) (sv dm.g dm.xs + sv d.den.g d.den.xs) ds.g ds.xs oks) : okm = true ∧ oks = true ∧ ds = da := by
  obtain ⟨A, B, Q, R, t⟩ := two_of h
  rw [t.fq.sve, t.fb.sve] at k
  obtain ⟨k1, fm⟩ := ans_le k (by rw [t.fq.good, t.fb.good]; rfl) t.fa t.part
  rw [fm.sve, t.fr.sve, t.sum] at l
  obtain ⟨l1, l2⟩ := ans_fits l (by rw [fm.good, t.fr.good]; rfl) t.fa
  exact ⟨k1, l1, l2⟩
theorem Fm.abs {d : BD} {V : Int} (h : Fm d V) : Fm ⟨false, d.xs⟩ (V.natAbs : Int) := ⟨(decide_eq_false (by omega)).symm, by rw [Int.natAbs_natCast]; exact h.nm, h.len⟩
theorem pd_cmp {da db : BD} {d : QD} (h : AnsD (pD da db) (qD da db) (rD da db) d true) : cmpOk false d.den.xs false db.xs = true ∧ cmpV false d.den.xs false db.xs < 0 := by
  obtain ⟨A, B, Q, R, t⟩ := two_of h
  have e : cmpOk false d.den.xs false db.xs = true := by
    unfold cmpOk
    have h1 : goodB false d.den.xs = true := t.fr.abs.good
    have h2 : goodB false db.xs = true := t.fb.abs.good
    rw [h1, h2]; rfl
  refine ⟨e, ?_⟩
  unfold cmpV
  rw [if_pos e]
  unfold cmpB
  rw [if_pos rfl, if_neg (by simp)]
  refine (cmpL_val t.fr.nm.ok t.fb.nm.ok t.fr.nm.tr t.fb.nm.tr).1.2 ?_
  rw [t.fr.val, t.fb.val]
  have := t.small
  omega
theorem pd_sign {da db : BD} {d : QD} (h : AnsD (pD da db) (qD da db) (rD da db) d true) (h0 : d.den.xs.length ≠ 0) : d.den.g = da.g := by
  obtain ⟨A, B, Q, R, t⟩ := two_of h
  have hR : R ≠ 0 := fun e => h0 (t.fr.zero.2 e)
  rw [t.fr.sg, t.fa.sg]
  have := t.sign hR
  simp only [this]
theorem pd_gcd1 {da dg : BD} {G : Int} (ha : goodB da.g da.xs = true) (hg : Fm dg G) (hG : G ≠ 0) (hd : (sv da.g da.xs).natAbs % G.natAbs = 0) {d : QD} {ok : Bool} (k : AnsD (pD da dg) (qD da dg) (rD da dg) d ok) : ok = true ∧ d.den.xs.length = 0 := by
  have fa := Fm.of ha
  obtain ⟨q1, q2, q3⟩ := ansD_fm k (pD_of fa hg hG)
  refine ⟨q1, q3.zero.2 ?_⟩
  unfold rD
  rw [fa.val, hg.val]
  have e : (((sv da.g da.xs).natAbs : Int)) % (G.natAbs : Int) = 0 := by rw [← Int.natCast_emod, hd]; rfl
  rw [e]
  unfold sU
  split <;> rfl
theorem pd_gcd {da db dg : BD} (h : Ans (goodB da.g da.xs && goodB db.g db.xs) ((Nat.gcd (val da.xs).toNat (val db.xs).toNat : Nat) : Int) dg.g dg.xs true) (h0 : dg.xs.length ≠ 0) {d d' : QD} {ok ok' : Bool} (k : AnsD (pD da dg) (qD da dg) (rD da dg) d ok) (k' : AnsD (pD db dg) (qD db dg) (rD db dg) d' ok') : (ok = true ∧ d.den.xs.length = 0) ∧ (ok' = true ∧ d'.den.xs.length = 0) ∧ dg.g = false := by
  obtain ⟨hP, hg⟩ := ans_yes h
  have hh := (Bool.and_eq_true _ _).mp hP
  have hG : ((Nat.gcd (val da.xs).toNat (val db.xs).toNat : Nat) : Int) ≠ 0 := fun e => h0 (hg.zero.2 e)
  refine ⟨pd_gcd1 hh.1 hg hG ?_ k, pd_gcd1 hh.2 hg hG ?_ k', ?_⟩
  · have e := (Fm.of hh.1).val
    rw [Int.natAbs_natCast, e, Int.toNat_natCast]
    exact Nat.mod_eq_zero_of_dvd (Nat.gcd_dvd_left _ _)
  · have e := (Fm.of hh.2).val
    rw [Int.natAbs_natCast, e, Int.toNat_natCast]
    exact Nat.mod_eq_zero_of_dvd (Nat.gcd_dvd_right _ _)
  · rw [hg.sg]
    exact decide_eq_false (by omega)
end Go.Proofs.YtdgonpbponnnaaaDoor
namespace Go.Proofs.YtdgonpbponnnaaaDoor
open Go.RowKit
set_option linter.unusedVariables false
set_option maxRecDepth 100000
set_option linter.unusedSimpArgs false

theorem smI_nil (a a' : Option Addr) (c c' : Nat) (w : World) :
    Calls Tryd.prog 35 #[.slice a 0 c, .slice a' 0 c'] w fun e w' => e = .returned (.bool true) ∧ Below w.heap.size w w' := by
  go_enter Tryd.func35, Tryd.ntmps35
  go_wp2
  refine wp_loop_rounds 1 ?_
  rw [rounds_succ]
  go_wp2
  go_ret
  exact ⟨rfl, Below.refl _ _⟩

set_option maxHeartbeats 1000000 in
theorem smI_cons (b off b' off' n c c' : Nat) (xs : List Int) (w : World) (hm : n ≤ maxLen) (h0 : 0 < n) (hb : b < w.heap.size) (hb' : b' < w.heap.size)
    (hc : ∀ i, i < n → w.cell? ⟨b, off + i, none⟩ = some (.int .i64 (xs.getD i 0))) (hc' : ∀ i, i < n → w.cell? ⟨b', off' + i, none⟩ = some (.int .i64 (xs.getD i 0))) :
    Calls Tryd.prog 35 #[.slice (some ⟨b, off, none⟩) n c, .slice (some ⟨b', off', none⟩) n c'] w fun e w' => e = .returned (.bool true) ∧ Below w.heap.size w w' := by
  unfold maxLen at hm
  have HC := hide hc
  have HC' := hide hc'
  clear hc hc'
  go_enter Tryd.func35, Tryd.ntmps35
  go_wp2
  go_loopw [13] (fun i wr => ∃ k : Nat, k ≤ n ∧ i = .int .i64 k ∧ Below w.heap.size w wr) (fun i _ => n - (intOf i).toNat)
  case atStart => exact ⟨0, Nat.zero_le _, rfl, Below.refl _ _⟩
  case round =>
    obtain ⟨k, hk, rfl, hbel⟩ := hrel
    by_cases hlt : k < n
    · have hk1 : (k : Int) < (n : Int) := by omega
      have e1 : wr.cell? ⟨b, off + k, none⟩ = some (.int .i64 (xs.getD k 0)) := (hbel.cell (by exact hb)).trans (unhide HC k hlt)
      have e2 : wr.cell? ⟨b', off' + k, none⟩ = some (.int .i64 (xs.getD k 0)) := (hbel.cell (by exact hb')).trans (unhide HC' k hlt)
      generalize xs.getD k 0 = x at e1 e2
      have HB := hide hbel
      clear hbel
      go_wp2
      go_quiet (fail)
      go_wp2
      go_roundw
      case rel => exact ⟨k + 1, by omega, by go_num, below_drewN (unhide HB) _⟩
      case measure => simp [intOf]; omega
    · go_wp2
      go_ret
      exact ⟨rfl, hbel⟩

theorem smI_same (a a' : Option Addr) (n c c' : Nat) (xs : List Int) (w : World) (hx : Sl w a xs) (hx' : Sl w a' xs) (hn : xs.length = n) (hm : n ≤ maxLen) :
    Calls Tryd.prog 35 #[.slice a n c, .slice a' n c'] w fun e w' => e = .returned (.bool true) ∧ Below w.heap.size w w' := by
  by_cases h0 : n = 0
  · subst h0
    exact smI_nil a a' c c' w
  · rcases hx with rfl | ⟨b, off, rfl, hb, hc⟩
    · simp at hn; omega
    rcases hx' with rfl | ⟨b', off', rfl, hb', hc'⟩
    · simp at hn; omega
    exact smI_cons b off b' off' n c c' xs w hm (by omega) hb hb' (by rw [← hn]; exact hc) (by rw [← hn]; exact hc')


theorem sameB (b b' : BV) (d : BD) (w : World) (h : AllSl w [(b, d)]) (h' : AllSl w [(b', d)]) (hm : d.xs.length ≤ 1048576) :
    Calls Tryd.prog 11 #[.agg #[.bool b.g, .slice b.a b.n b.c], .agg #[.bool b'.g, .slice b'.a b'.n b'.c]] w fun e w' => e = .returned (.bool true) ∧ Below w.heap.size w w' := by
  obtain ⟨g, a, n, c⟩ := b
  obtain ⟨g', a', n', c'⟩ := b'
  obtain ⟨gd, xs⟩ := d
  have k := h _ (List.mem_singleton.2 rfl)
  have k' := h' _ (List.mem_singleton.2 rfl)
  have e0 : g = gd := k.sg
  have e1 : g' = gd := k'.sg
  have hx : Sl w a xs := k.sl
  have hx' : Sl w a' xs := k'.sl
  have hn : xs.length = n := k.len
  have hn' : xs.length = n' := k'.len
  have hm2 : xs.length ≤ 1048576 := hm
  clear k k' hm h h'
  subst e0 e1
  obtain rfl : n = n' := hn.symm.trans hn'
  have HX := hide hx
  have HX' := hide hx'
  have HN := hide hn
  have HM : Hid (n ≤ maxLen) := hide (by unfold maxLen; omega)
  clear hx hx' hn hn' hm2
  go_enter Tryd.func11, Tryd.ntmps11
  go_wp2_with fail
  refine (smI_same a a' n c c' xs _ ((unhide HX).later (Nat.le_refl _) (by exact ((Below.refl _ _).alloc (Nat.le_refl _) _).alloc (by simp) _)) ((unhide HX').later (Nat.le_refl _) (by exact ((Below.refl _ _).alloc (Nat.le_refl _) _).alloc (by simp) _)) (unhide HN) (unhide HM)).mono ?_
  rintro e w1 ⟨rfl, hb⟩
  go_wp2
  go_ret
  exact ⟨rfl, (((Below.refl _ _).alloc (Nat.le_refl _) _).alloc (by simp) _).trans (hb.mono (by simp; omega))⟩
theorem zeroB (b : BV) (w : World) :
    Calls Tryd.prog 14 #[.agg #[.bool b.g, .slice b.a b.n b.c]] w fun e w' => ∃ z : Bool, e = .returned (.bool z) ∧ Below w.heap.size w w' ∧ (z = true ↔ b.n = 0) := by
  go_enter Tryd.func14, Tryd.ntmps14
  go_wp2
  go_ret
  exact ⟨_, rfl, (Below.refl _ _).alloc (Nat.le_refl _) _, by simp⟩
end Go.Proofs.YtdgonpbponnnaaaDoor
namespace Go.Proofs.YtdgonpbponnnaaaDoor
open Go.RowKit
set_option linter.unusedVariables false
set_option maxRecDepth 100000
set_option linter.unusedSimpArgs false

set_option maxHeartbeats 1000000 in
theorem fitI_in (g : Bool) (a : Option Addr) (n c : Nat) (w : World) (h : n ≤ 40) :
    Calls Tryd.prog 27 #[.agg #[.bool g, .slice a n c]] w fun e w' => e = .returned (.tuple #[.agg #[.bool g, .slice a n c], .bool true]) ∧ Below w.heap.size w w' := by
  have h' : ¬ (40 : Int) < (n : Int) := by omega
  go_enter Tryd.func27, Tryd.ntmps27
  go_wp2
  exact bodyPost_ret (v := .tuple #[.agg #[.bool g, .slice a n c], .bool true]) (by simp [results, Tryd.results27, go_sem]) rfl ⟨rfl, below_two _ _ _⟩
set_option maxHeartbeats 1000000 in
theorem fitI_out (g : Bool) (a : Option Addr) (n c : Nat) (w : World) (h : 40 < n) :
    Calls Tryd.prog 27 #[.agg #[.bool g, .slice a n c]] w fun e w' => e = .returned (.tuple #[.agg #[.bool false, .slice none 0 0], .bool false]) ∧ Below w.heap.size w w' := by
  have h' : (40 : Int) < (n : Int) := by omega
  go_enter Tryd.func27, Tryd.ntmps27
  go_wp2
  exact bodyPost_ret (v := .tuple #[.agg #[.bool false, .slice none 0 0], .bool false]) (by simp [results, Tryd.results27, go_sem]) rfl ⟨rfl, below_two _ _ _⟩
/-- What a call answers that tells V, where it fits. -/
theorem fitI_any (V : Int) (a : Option Addr) (n c : Nat) (zs : List Int) (w : World) (base : Nat) (ho : Own base w a zs) (ha : Arg w a n c zs) (hn : Nm zs V.natAbs) :
    Calls Tryd.prog 27 #[.agg #[.bool (decide (V < 0)), .slice a n c]] w fun e w' => ∃ gr a2 n2 c2 ts ok, e = .returned (.tuple #[.agg #[.bool gr, .slice a2 n2 c2], .bool ok]) ∧ Below w.heap.size w w' ∧ Own base w' a2 ts ∧ Arg w' a2 n2 c2 ts ∧ Ans true V gr ts ok := by
  by_cases h : n ≤ 40
  · refine (fitI_in (decide (V < 0)) a n c w h).mono ?_
    rintro e w' ⟨rfl, hb⟩
    exact ⟨_, a, n, c, zs, true, rfl, hb, ho.later hb, ha.later hb, .inl ⟨rfl, zs, hn, .inl ⟨by rw [ha.len]; exact h, rfl, rfl, rfl⟩⟩⟩
  · refine (fitI_out (decide (V < 0)) a n c w (by omega)).mono ?_
    rintro e w' ⟨rfl, hb⟩
    exact ⟨false, none, 0, 0, [], false, rfl, hb, .inl rfl, Arg.none _, .inl ⟨rfl, zs, hn, .inr ⟨by rw [ha.len]; omega, rfl, rfl, rfl⟩⟩⟩

set_option maxHeartbeats 1000000 in
theorem fitS_in (g : Bool) (a : Option Addr) (n c : Nat) (w : World) (h : n ≤ 40) :
    Calls Tryd.prog 29 #[.agg #[.bool g, .slice a n c]] w fun e w' => e = .returned (.tuple #[.agg #[.bool g, .slice a n c], .bool true]) ∧ Below w.heap.size w w' := by
  have h' : ¬ (40 : Int) < (n : Int) := by omega
  go_enter Tryd.func29, Tryd.ntmps29
  go_wp2
  exact bodyPost_ret (v := .tuple #[.agg #[.bool g, .slice a n c], .bool true]) (by simp [results, Tryd.results29, go_sem]) rfl ⟨rfl, below_two _ _ _⟩
set_option maxHeartbeats 1000000 in
theorem fitS_out (g : Bool) (a : Option Addr) (n c : Nat) (w : World) (h : 40 < n) :
    Calls Tryd.prog 29 #[.agg #[.bool g, .slice a n c]] w fun e w' => e = .returned (.tuple #[.agg #[.bool false, .slice none 0 0], .bool false]) ∧ Below w.heap.size w w' := by
  have h' : (40 : Int) < (n : Int) := by omega
  go_enter Tryd.func29, Tryd.ntmps29
  go_wp2
  exact bodyPost_ret (v := .tuple #[.agg #[.bool false, .slice none 0 0], .bool false]) (by simp [results, Tryd.results29, go_sem]) rfl ⟨rfl, below_two _ _ _⟩
/-- What a call answers that tells V, where it fits. -/
theorem fitS_any (V : Int) (a : Option Addr) (n c : Nat) (zs : List Int) (w : World) (base : Nat) (ho : Own base w a zs) (ha : Arg w a n c zs) (hn : Nm zs V.natAbs) :
    Calls Tryd.prog 29 #[.agg #[.bool (decide (V < 0)), .slice a n c]] w fun e w' => ∃ gr a2 n2 c2 ts ok, e = .returned (.tuple #[.agg #[.bool gr, .slice a2 n2 c2], .bool ok]) ∧ Below w.heap.size w w' ∧ Own base w' a2 ts ∧ Arg w' a2 n2 c2 ts ∧ Ans true V gr ts ok := by
  by_cases h : n ≤ 40
  · refine (fitS_in (decide (V < 0)) a n c w h).mono ?_
    rintro e w' ⟨rfl, hb⟩
    exact ⟨_, a, n, c, zs, true, rfl, hb, ho.later hb, ha.later hb, .inl ⟨rfl, zs, hn, .inl ⟨by rw [ha.len]; exact h, rfl, rfl, rfl⟩⟩⟩
  · refine (fitS_out (decide (V < 0)) a n c w (by omega)).mono ?_
    rintro e w' ⟨rfl, hb⟩
    exact ⟨false, none, 0, 0, [], false, rfl, hb, .inl rfl, Arg.none _, .inl ⟨rfl, zs, hn, .inr ⟨by rw [ha.len]; omega, rfl, rfl, rfl⟩⟩⟩
end Go.Proofs.YtdgonpbponnnaaaDoor
namespace Go.Proofs.YtdgonpbponnnaaaDoor
open Go.RowKit
set_option linter.unusedVariables false
set_option maxRecDepth 100000
set_option linter.unusedSimpArgs false

theorem outA_of {w w2 : World} {P : Bool} {V : Int} {gr : Bool} {a : Option Addr} {n c : Nat} {ts : List Int} {ok : Bool} {s : Nat} (hs : w.heap.size ≤ s) (hb : Below w.heap.size w w2) (ho : Own (s + 1) w2 a ts) (ha : Arg w2 a n c ts) (h : Ans P V gr ts ok) (v v' : Value) :
    OutA w P V (.returned (.tuple #[.agg #[.bool gr, .slice a n c], .bool ok])) ((w2.setCell ⟨s, 0, none⟩ v).setCell ⟨s, 1, none⟩ v') := by
  obtain ⟨f1, f2, f3⟩ := fin_set hs hb ho ha v v'
  exact ⟨gr, a, n, c, ts, ok, rfl, f1, f2, f3, h⟩
theorem outA_no {w w2 : World} {V : Int} {s : Nat} (hs : w.heap.size ≤ s) (hb : Below w.heap.size w w2) (v v' : Value) :
    OutA w false V (.returned (.tuple #[.agg #[.bool false, .slice none 0 0], .bool false])) ((w2.setCell ⟨s, 0, none⟩ v).setCell ⟨s, 1, none⟩ v') :=
  ⟨false, none, 0, 0, [], false, rfl, (hb.setCell hs _).setCell hs _, .inl rfl, Arg.none _, .inr ⟨rfl, rfl, rfl, rfl⟩⟩

set_option maxHeartbeats 4000000 in
theorem AddI_any (g g' : Bool) (a a' : Option Addr) (n m c c' : Nat) (xs ys : List Int) (w : World) (hx : Arg w a n c xs) (hy : Arg w a' m c' ys) :
    Calls Tryd.prog 5 #[.agg #[.bool g, .slice a n c], .agg #[.bool g', .slice a' m c']] w (OutA w (goodB g xs && goodB g' ys) (sv g xs + sv g' ys)) := by
  have HX := hide hx
  have HY := hide hy
  clear hx hy
  have B3 := hide (below_three w (.cells #[.bool g, .slice a n c] 25) (.cells #[.bool g', .slice a' m c'] 25) (.cells #[.bool false, .slice none 0 0] 25))
  cases hP : (goodB g xs && goodB g' ys)
  · go_enter Tryd.func5, Tryd.ntmps5
    go_wp2_with fail
    refine (pair_any g g' a a' n m c c' xs ys _ ((unhide HX).later (unhide B3)).sl ((unhide HY).later (unhide B3)).sl (unhide HX).len (unhide HY).len (Nat.le_trans (unhide HX).cap (unhide HX).top) (Nat.le_trans (unhide HY).cap (unhide HY).top)).mono ?_
    rintro e w1 ⟨rfl, hb1⟩
    rw [hP]
    have r0 : w1.cell? ⟨w.heap.size + 1 + 1, 0, none⟩ = some (.bool false) := cell_later hb1 (by simp [go_sem])
    have r1 : w1.cell? ⟨w.heap.size + 1 + 1, 1, none⟩ = some (.slice none 0 0) := cell_later hb1 (by simp [go_sem])
    have f0 : ∀ o, w1.frozen? ⟨w.heap.size + 1 + 1, o, none⟩ = false := fun o => frozen_later hb1 (by simp) (by simp [go_sem])
    have HB := hide ((unhide B3).trans (hb1.mono (by simp <;> omega)))
    clear hb1 hP
    go_wp2
    exact bodyPost_ret (v := .tuple #[.agg #[.bool false, .slice none 0 0], .bool false]) (by simp [results, Tryd.results5, go_sem, r0, r1]) rfl (outA_no (s := w.heap.size + 1 + 1) (by omega) (unhide HB) _ _)
  · have hg1 : goodB g xs = true := by revert hP; cases goodB g xs <;> simp
    have hg2 : goodB g' ys = true := by revert hP; cases goodB g' ys <;> simp
    have NX := hide (num_of_good (unhide HX) hg1)
    have NY := hide (num_of_good (unhide HY) hg2)
    clear hg1 hg2
    go_enter Tryd.func5, Tryd.ntmps5
    go_wp2_with fail
    refine (pair_any g g' a a' n m c c' xs ys _ ((unhide HX).later (unhide B3)).sl ((unhide HY).later (unhide B3)).sl (unhide HX).len (unhide HY).len (Nat.le_trans (unhide HX).cap (unhide HX).top) (Nat.le_trans (unhide HY).cap (unhide HY).top)).mono ?_
    rintro e w1 ⟨rfl, hb1⟩
    rw [hP]
    have x0 : w1.cell? ⟨w.heap.size, 0, none⟩ = some (.bool g) := cell_later hb1 (by simp [go_sem])
    have x1 : w1.cell? ⟨w.heap.size, 1, none⟩ = some (.slice a n c) := cell_later hb1 (by simp [go_sem])
    have y0 : w1.cell? ⟨w.heap.size + 1, 0, none⟩ = some (.bool g') := cell_later hb1 (by simp [go_sem])
    have y1 : w1.cell? ⟨w.heap.size + 1, 1, none⟩ = some (.slice a' m c') := cell_later hb1 (by simp [go_sem])
    have r0 : w1.cell? ⟨w.heap.size + 1 + 1, 0, none⟩ = some (.bool false) := cell_later hb1 (by simp [go_sem])
    have r1 : w1.cell? ⟨w.heap.size + 1 + 1, 1, none⟩ = some (.slice none 0 0) := cell_later hb1 (by simp [go_sem])
    have f0 : ∀ o, w1.frozen? ⟨w.heap.size + 1 + 1, o, none⟩ = false := fun o => frozen_later hb1 (by simp) (by simp [go_sem])
    have s1 : w.heap.size + 1 + 1 + 1 ≤ w1.heap.size := by have := hb1.size; simp at this; omega
    have HB := hide ((unhide B3).trans (hb1.mono (by simp <;> omega)))
    clear hb1 hP
    go_wp2_with fail
    refine (addSgI_any g g' a a' n m c c' xs ys w1 ((unhide NX).later (unhide HB)) ((unhide NY).later (unhide HB))).mono ?_
    rintro e w2 ⟨a2, n2, c2, zs, rfl, hb2, ho2, ha2, hn2⟩
    replace r0 := cell_later hb2 r0
    replace r1 := cell_later hb2 r1
    replace f0 : ∀ o, w2.frozen? ⟨w.heap.size + 1 + 1, o, none⟩ = false := fun o => frozen_later hb2 (by omega) (f0 o)
    replace HB := hide (below_on (unhide HB) hb2)
    have s2 : w.heap.size + 1 + 1 + 1 ≤ w2.heap.size := Nat.le_trans s1 hb2.size
    have HF := hide (fitI_any (sv g xs + sv g' ys) a2 n2 c2 zs w2 (w.heap.size + 1 + 1 + 1) (ho2.mono s1) ha2 hn2)
    clear x0 x1 y0 y1 hb2 ho2 ha2 hn2 s1
    go_wp2_with fail
    refine (unhide HF).mono ?_
    rintro e w3 ⟨gr, a3, n3, c3, ts, ok, rfl, hb3, ho3, ha3, hans⟩
    replace r0 := cell_later hb3 r0
    replace r1 := cell_later hb3 r1
    replace f0 : ∀ o, w3.frozen? ⟨w.heap.size + 1 + 1, o, none⟩ = false := fun o => frozen_later hb3 (by omega) (f0 o)
    replace HB := hide (below_on (unhide HB) hb3)
    have HO := hide ho3
    have HA := hide ha3
    have HS := hide hans
    clear hb3 ho3 ha3 hans s2 HF
    go_wp2
    exact bodyPost_ret (v := .tuple #[.agg #[.bool gr, .slice a3 n3 c3], .bool ok]) (by simp [results, Tryd.results5, go_sem, r0, r1]) rfl (outA_of (s := w.heap.size + 1 + 1) (by omega) (unhide HB) (unhide HO) (unhide HA) (unhide HS) _ _)

set_option maxHeartbeats 4000000 in
theorem SubI_any (g g' : Bool) (a a' : Option Addr) (n m c c' : Nat) (xs ys : List Int) (w : World) (hx : Arg w a n c xs) (hy : Arg w a' m c' ys) :
    Calls Tryd.prog 7 #[.agg #[.bool g, .slice a n c], .agg #[.bool g', .slice a' m c']] w (OutA w (goodB g xs && goodB g' ys) (sv g xs - sv g' ys)) := by
  have HX := hide hx
  have HY := hide hy
  clear hx hy
  have B3 := hide (below_three w (.cells #[.bool g, .slice a n c] 25) (.cells #[.bool g', .slice a' m c'] 25) (.cells #[.bool false, .slice none 0 0] 25))
  cases hP : (goodB g xs && goodB g' ys)
  · go_enter Tryd.func7, Tryd.ntmps7
    go_wp2_with fail
    refine (pair_any g g' a a' n m c c' xs ys _ ((unhide HX).later (unhide B3)).sl ((unhide HY).later (unhide B3)).sl (unhide HX).len (unhide HY).len (Nat.le_trans (unhide HX).cap (unhide HX).top) (Nat.le_trans (unhide HY).cap (unhide HY).top)).mono ?_
    rintro e w1 ⟨rfl, hb1⟩
    rw [hP]
    have r0 : w1.cell? ⟨w.heap.size + 1 + 1, 0, none⟩ = some (.bool false) := cell_later hb1 (by simp [go_sem])
    have r1 : w1.cell? ⟨w.heap.size + 1 + 1, 1, none⟩ = some (.slice none 0 0) := cell_later hb1 (by simp [go_sem])
    have f0 : ∀ o, w1.frozen? ⟨w.heap.size + 1 + 1, o, none⟩ = false := fun o => frozen_later hb1 (by simp) (by simp [go_sem])
    have HB := hide ((unhide B3).trans (hb1.mono (by simp <;> omega)))
    clear hb1 hP
    go_wp2
    exact bodyPost_ret (v := .tuple #[.agg #[.bool false, .slice none 0 0], .bool false]) (by simp [results, Tryd.results7, go_sem, r0, r1]) rfl (outA_no (s := w.heap.size + 1 + 1) (by omega) (unhide HB) _ _)
  · have hg1 : goodB g xs = true := by revert hP; cases goodB g xs <;> simp
    have hg2 : goodB g' ys = true := by revert hP; cases goodB g' ys <;> simp
    have NX := hide (num_of_good (unhide HX) hg1)
    have NY := hide (num_of_good (unhide HY) hg2)
    clear hg1 hg2
    go_enter Tryd.func7, Tryd.ntmps7
    go_wp2_with fail
    refine (pair_any g g' a a' n m c c' xs ys _ ((unhide HX).later (unhide B3)).sl ((unhide HY).later (unhide B3)).sl (unhide HX).len (unhide HY).len (Nat.le_trans (unhide HX).cap (unhide HX).top) (Nat.le_trans (unhide HY).cap (unhide HY).top)).mono ?_
    rintro e w1 ⟨rfl, hb1⟩
    rw [hP]
    have x0 : w1.cell? ⟨w.heap.size, 0, none⟩ = some (.bool g) := cell_later hb1 (by simp [go_sem])
    have x1 : w1.cell? ⟨w.heap.size, 1, none⟩ = some (.slice a n c) := cell_later hb1 (by simp [go_sem])
    have y0 : w1.cell? ⟨w.heap.size + 1, 0, none⟩ = some (.bool g') := cell_later hb1 (by simp [go_sem])
    have y1 : w1.cell? ⟨w.heap.size + 1, 1, none⟩ = some (.slice a' m c') := cell_later hb1 (by simp [go_sem])
    have r0 : w1.cell? ⟨w.heap.size + 1 + 1, 0, none⟩ = some (.bool false) := cell_later hb1 (by simp [go_sem])
    have r1 : w1.cell? ⟨w.heap.size + 1 + 1, 1, none⟩ = some (.slice none 0 0) := cell_later hb1 (by simp [go_sem])
    have f0 : ∀ o, w1.frozen? ⟨w.heap.size + 1 + 1, o, none⟩ = false := fun o => frozen_later hb1 (by simp) (by simp [go_sem])
    have s1 : w.heap.size + 1 + 1 + 1 ≤ w1.heap.size := by have := hb1.size; simp at this; omega
    have HB := hide ((unhide B3).trans (hb1.mono (by simp <;> omega)))
    clear hb1 hP
    go_wp2_with fail
    refine (subSgI_any g g' a a' n m c c' xs ys w1 ((unhide NX).later (unhide HB)) ((unhide NY).later (unhide HB))).mono ?_
    rintro e w2 ⟨a2, n2, c2, zs, rfl, hb2, ho2, ha2, hn2⟩
    replace r0 := cell_later hb2 r0
    replace r1 := cell_later hb2 r1
    replace f0 : ∀ o, w2.frozen? ⟨w.heap.size + 1 + 1, o, none⟩ = false := fun o => frozen_later hb2 (by omega) (f0 o)
    replace HB := hide (below_on (unhide HB) hb2)
    have s2 : w.heap.size + 1 + 1 + 1 ≤ w2.heap.size := Nat.le_trans s1 hb2.size
    have HF := hide (fitI_any (sv g xs - sv g' ys) a2 n2 c2 zs w2 (w.heap.size + 1 + 1 + 1) (ho2.mono s1) ha2 hn2)
    clear x0 x1 y0 y1 hb2 ho2 ha2 hn2 s1
    go_wp2_with fail
    refine (unhide HF).mono ?_
    rintro e w3 ⟨gr, a3, n3, c3, ts, ok, rfl, hb3, ho3, ha3, hans⟩
    replace r0 := cell_later hb3 r0
    replace r1 := cell_later hb3 r1
    replace f0 : ∀ o, w3.frozen? ⟨w.heap.size + 1 + 1, o, none⟩ = false := fun o => frozen_later hb3 (by omega) (f0 o)
    replace HB := hide (below_on (unhide HB) hb3)
    have HO := hide ho3
    have HA := hide ha3
    have HS := hide hans
    clear hb3 ho3 ha3 hans s2 HF
    go_wp2
    exact bodyPost_ret (v := .tuple #[.agg #[.bool gr, .slice a3 n3 c3], .bool ok]) (by simp [results, Tryd.results7, go_sem, r0, r1]) rfl (outA_of (s := w.heap.size + 1 + 1) (by omega) (unhide HB) (unhide HO) (unhide HA) (unhide HS) _ _)

set_option maxHeartbeats 4000000 in
theorem AddS_any (g g' : Bool) (a a' : Option Addr) (n m c c' : Nat) (xs ys : List Int) (w : World) (hx : Arg w a n c xs) (hy : Arg w a' m c' ys) :
    Calls Tryd.prog 6 #[.agg #[.bool g, .slice a n c], .agg #[.bool g', .slice a' m c']] w (OutA w (goodB g xs && goodB g' ys) (sv g xs + sv g' ys)) := by
  have HX := hide hx
  have HY := hide hy
  clear hx hy
  have B3 := hide (below_three w (.cells #[.bool g, .slice a n c] 25) (.cells #[.bool g', .slice a' m c'] 25) (.cells #[.bool false, .slice none 0 0] 25))
  have mx := hide (Nat.le_trans (unhide HX).cap (unhide HX).top)
  have my := hide (Nat.le_trans (unhide HY).cap (unhide HY).top)
  cases hg1 : goodB g xs
  · rw [Bool.false_and]
    go_enter Tryd.func6, Tryd.ntmps6
    go_wp2_with fail
    refine (goodS_any g a n c xs _ ((unhide HX).later (unhide B3)).sl (unhide HX).len (unhide mx)).mono ?_
    rintro e w1 ⟨rfl, hb1⟩
    have r0 : w1.cell? ⟨w.heap.size + 1 + 1, 0, none⟩ = some (.bool false) := cell_later hb1 (by simp [go_sem])
    have r1 : w1.cell? ⟨w.heap.size + 1 + 1, 1, none⟩ = some (.slice none 0 0) := cell_later hb1 (by simp [go_sem])
    have f0 : ∀ o, w1.frozen? ⟨w.heap.size + 1 + 1, o, none⟩ = false := fun o => frozen_later hb1 (by simp) (by simp [go_sem])
    have HB := hide ((unhide B3).trans (hb1.mono (by simp <;> omega)))
    clear hb1
    go_wp2
    exact bodyPost_ret (v := .tuple #[.agg #[.bool false, .slice none 0 0], .bool false]) (by simp [results, Tryd.results6, go_sem, r0, r1]) rfl (outA_no (s := w.heap.size + 1 + 1) (by omega) (unhide HB) _ _)
  · rw [Bool.true_and]
    have NX := hide (num_of_good (unhide HX) hg1)
    cases hg2 : goodB g' ys
    · go_enter Tryd.func6, Tryd.ntmps6
      go_wp2_with fail
      refine (goodS_any g a n c xs _ ((unhide HX).later (unhide B3)).sl (unhide HX).len (unhide mx)).mono ?_
      rintro e w1 ⟨rfl, hb1⟩
      have y0 : w1.cell? ⟨w.heap.size + 1, 0, none⟩ = some (.bool g') := cell_later hb1 (by simp [go_sem])
      have y1 : w1.cell? ⟨w.heap.size + 1, 1, none⟩ = some (.slice a' m c') := cell_later hb1 (by simp [go_sem])
      have r0 : w1.cell? ⟨w.heap.size + 1 + 1, 0, none⟩ = some (.bool false) := cell_later hb1 (by simp [go_sem])
      have r1 : w1.cell? ⟨w.heap.size + 1 + 1, 1, none⟩ = some (.slice none 0 0) := cell_later hb1 (by simp [go_sem])
      have f0 : ∀ o, w1.frozen? ⟨w.heap.size + 1 + 1, o, none⟩ = false := fun o => frozen_later hb1 (by simp) (by simp [go_sem])
      have s1 : w.heap.size + 1 + 1 + 1 ≤ w1.heap.size := by have := hb1.size; simp at this; omega
      have HB := hide ((unhide B3).trans (hb1.mono (by simp <;> omega)))
      clear hb1
      go_wp2_with fail
      refine (goodS_any g' a' m c' ys _ ((unhide HY).later (unhide HB)).sl (unhide HY).len (unhide my)).mono ?_
      rintro e w2 ⟨rfl, hb2⟩
      replace r0 := cell_later hb2 r0
      replace r1 := cell_later hb2 r1
      replace f0 : ∀ o, w2.frozen? ⟨w.heap.size + 1 + 1, o, none⟩ = false := fun o => frozen_later hb2 (by omega) (f0 o)
      replace HB := hide (below_on (unhide HB) hb2)
      clear hb2
      go_wp2
      exact bodyPost_ret (v := .tuple #[.agg #[.bool false, .slice none 0 0], .bool false]) (by simp [results, Tryd.results6, go_sem, r0, r1]) rfl (outA_no (s := w.heap.size + 1 + 1) (by omega) (unhide HB) _ _)
    · have NY := hide (num_of_good (unhide HY) hg2)
      go_enter Tryd.func6, Tryd.ntmps6
      go_wp2_with fail
      refine (goodS_any g a n c xs _ ((unhide HX).later (unhide B3)).sl (unhide HX).len (unhide mx)).mono ?_
      rintro e w1 ⟨rfl, hb1⟩
      have x0 : w1.cell? ⟨w.heap.size, 0, none⟩ = some (.bool g) := cell_later hb1 (by simp [go_sem])
      have x1 : w1.cell? ⟨w.heap.size, 1, none⟩ = some (.slice a n c) := cell_later hb1 (by simp [go_sem])
      have y0 : w1.cell? ⟨w.heap.size + 1, 0, none⟩ = some (.bool g') := cell_later hb1 (by simp [go_sem])
      have y1 : w1.cell? ⟨w.heap.size + 1, 1, none⟩ = some (.slice a' m c') := cell_later hb1 (by simp [go_sem])
      have r0 : w1.cell? ⟨w.heap.size + 1 + 1, 0, none⟩ = some (.bool false) := cell_later hb1 (by simp [go_sem])
      have r1 : w1.cell? ⟨w.heap.size + 1 + 1, 1, none⟩ = some (.slice none 0 0) := cell_later hb1 (by simp [go_sem])
      have f0 : ∀ o, w1.frozen? ⟨w.heap.size + 1 + 1, o, none⟩ = false := fun o => frozen_later hb1 (by simp) (by simp [go_sem])
      have s1 : w.heap.size + 1 + 1 + 1 ≤ w1.heap.size := by have := hb1.size; simp at this; omega
      have HB := hide ((unhide B3).trans (hb1.mono (by simp <;> omega)))
      clear hb1
      go_wp2_with fail
      refine (goodS_any g' a' m c' ys _ ((unhide HY).later (unhide HB)).sl (unhide HY).len (unhide my)).mono ?_
      rintro e w2 ⟨rfl, hb2⟩
      replace x0 := cell_later hb2 x0
      replace x1 := cell_later hb2 x1
      replace y0 := cell_later hb2 y0
      replace y1 := cell_later hb2 y1
      replace r0 := cell_later hb2 r0
      replace r1 := cell_later hb2 r1
      replace f0 : ∀ o, w2.frozen? ⟨w.heap.size + 1 + 1, o, none⟩ = false := fun o => frozen_later hb2 (by omega) (f0 o)
      replace HB := hide (below_on (unhide HB) hb2)
      have s2 : w.heap.size + 1 + 1 + 1 ≤ w2.heap.size := Nat.le_trans s1 hb2.size
      clear hb2 s1
      go_wp2_with fail
      refine (addSgS_any g g' a a' n m c c' xs ys w2 ((unhide NX).later (unhide HB)) ((unhide NY).later (unhide HB))).mono ?_
      rintro e w3 ⟨a2, n2, c2, zs, rfl, hb3, ho2, ha2, hn2⟩
      replace r0 := cell_later hb3 r0
      replace r1 := cell_later hb3 r1
      replace f0 : ∀ o, w3.frozen? ⟨w.heap.size + 1 + 1, o, none⟩ = false := fun o => frozen_later hb3 (by omega) (f0 o)
      replace HB := hide (below_on (unhide HB) hb3)
      have s3 : w.heap.size + 1 + 1 + 1 ≤ w3.heap.size := Nat.le_trans s2 hb3.size
      have HF := hide (fitS_any (sv g xs + sv g' ys) a2 n2 c2 zs w3 (w.heap.size + 1 + 1 + 1) (ho2.mono s2) ha2 hn2)
      clear x0 x1 y0 y1 hb3 ho2 ha2 hn2 s2
      go_wp2_with fail
      refine (unhide HF).mono ?_
      rintro e w4 ⟨gr, a3, n3, c3, ts, ok, rfl, hb4, ho3, ha3, hans⟩
      replace r0 := cell_later hb4 r0
      replace r1 := cell_later hb4 r1
      replace f0 : ∀ o, w4.frozen? ⟨w.heap.size + 1 + 1, o, none⟩ = false := fun o => frozen_later hb4 (by omega) (f0 o)
      replace HB := hide (below_on (unhide HB) hb4)
      have HO := hide ho3
      have HA := hide ha3
      have HS := hide hans
      clear hb4 ho3 ha3 hans s3 HF
      go_wp2
      exact bodyPost_ret (v := .tuple #[.agg #[.bool gr, .slice a3 n3 c3], .bool ok]) (by simp [results, Tryd.results6, go_sem, r0, r1]) rfl (outA_of (s := w.heap.size + 1 + 1) (by omega) (unhide HB) (unhide HO) (unhide HA) (unhide HS) _ _)

set_option maxHeartbeats 4000000 in
theorem SubS_any (g g' : Bool) (a a' : Option Addr) (n m c c' : Nat) (xs ys : List Int) (w : World) (hx : Arg w a n c xs) (hy : Arg w a' m c' ys) :
    Calls Tryd.prog 8 #[.agg #[.bool g, .slice a n c], .agg #[.bool g', .slice a' m c']] w (OutA w (goodB g xs && goodB g' ys) (sv g xs - sv g' ys)) := by
  have HX := hide hx
  have HY := hide hy
  clear hx hy
  have B3 := hide (below_three w (.cells #[.bool g, .slice a n c] 25) (.cells #[.bool g', .slice a' m c'] 25) (.cells #[.bool false, .slice none 0 0] 25))
  have mx := hide (Nat.le_trans (unhide HX).cap (unhide HX).top)
  have my := hide (Nat.le_trans (unhide HY).cap (unhide HY).top)
  cases hg1 : goodB g xs
  · rw [Bool.false_and]
    go_enter Tryd.func8, Tryd.ntmps8
    go_wp2_with fail
    refine (goodS_any g a n c xs _ ((unhide HX).later (unhide B3)).sl (unhide HX).len (unhide mx)).mono ?_
    rintro e w1 ⟨rfl, hb1⟩
    have r0 : w1.cell? ⟨w.heap.size + 1 + 1, 0, none⟩ = some (.bool false) := cell_later hb1 (by simp [go_sem])
    have r1 : w1.cell? ⟨w.heap.size + 1 + 1, 1, none⟩ = some (.slice none 0 0) := cell_later hb1 (by simp [go_sem])
    have f0 : ∀ o, w1.frozen? ⟨w.heap.size + 1 + 1, o, none⟩ = false := fun o => frozen_later hb1 (by simp) (by simp [go_sem])
    have HB := hide ((unhide B3).trans (hb1.mono (by simp <;> omega)))
    clear hb1
    go_wp2
    exact bodyPost_ret (v := .tuple #[.agg #[.bool false, .slice none 0 0], .bool false]) (by simp [results, Tryd.results8, go_sem, r0, r1]) rfl (outA_no (s := w.heap.size + 1 + 1) (by omega) (unhide HB) _ _)
  · rw [Bool.true_and]
    have NX := hide (num_of_good (unhide HX) hg1)
    cases hg2 : goodB g' ys
    · go_enter Tryd.func8, Tryd.ntmps8
      go_wp2_with fail
      refine (goodS_any g a n c xs _ ((unhide HX).later (unhide B3)).sl (unhide HX).len (unhide mx)).mono ?_
      rintro e w1 ⟨rfl, hb1⟩
      have y0 : w1.cell? ⟨w.heap.size + 1, 0, none⟩ = some (.bool g') := cell_later hb1 (by simp [go_sem])
      have y1 : w1.cell? ⟨w.heap.size + 1, 1, none⟩ = some (.slice a' m c') := cell_later hb1 (by simp [go_sem])
      have r0 : w1.cell? ⟨w.heap.size + 1 + 1, 0, none⟩ = some (.bool false) := cell_later hb1 (by simp [go_sem])
      have r1 : w1.cell? ⟨w.heap.size + 1 + 1, 1, none⟩ = some (.slice none 0 0) := cell_later hb1 (by simp [go_sem])
      have f0 : ∀ o, w1.frozen? ⟨w.heap.size + 1 + 1, o, none⟩ = false := fun o => frozen_later hb1 (by simp) (by simp [go_sem])
      have s1 : w.heap.size + 1 + 1 + 1 ≤ w1.heap.size := by have := hb1.size; simp at this; omega
      have HB := hide ((unhide B3).trans (hb1.mono (by simp <;> omega)))
      clear hb1
      go_wp2_with fail
      refine (goodS_any g' a' m c' ys _ ((unhide HY).later (unhide HB)).sl (unhide HY).len (unhide my)).mono ?_
      rintro e w2 ⟨rfl, hb2⟩
      replace r0 := cell_later hb2 r0
      replace r1 := cell_later hb2 r1
      replace f0 : ∀ o, w2.frozen? ⟨w.heap.size + 1 + 1, o, none⟩ = false := fun o => frozen_later hb2 (by omega) (f0 o)
      replace HB := hide (below_on (unhide HB) hb2)
      clear hb2
      go_wp2
      exact bodyPost_ret (v := .tuple #[.agg #[.bool false, .slice none 0 0], .bool false]) (by simp [results, Tryd.results8, go_sem, r0, r1]) rfl (outA_no (s := w.heap.size + 1 + 1) (by omega) (unhide HB) _ _)
    · have NY := hide (num_of_good (unhide HY) hg2)
      go_enter Tryd.func8, Tryd.ntmps8
      go_wp2_with fail
      refine (goodS_any g a n c xs _ ((unhide HX).later (unhide B3)).sl (unhide HX).len (unhide mx)).mono ?_
      rintro e w1 ⟨rfl, hb1⟩
      have x0 : w1.cell? ⟨w.heap.size, 0, none⟩ = some (.bool g) := cell_later hb1 (by simp [go_sem])
      have x1 : w1.cell? ⟨w.heap.size, 1, none⟩ = some (.slice a n c) := cell_later hb1 (by simp [go_sem])
      have y0 : w1.cell? ⟨w.heap.size + 1, 0, none⟩ = some (.bool g') := cell_later hb1 (by simp [go_sem])
      have y1 : w1.cell? ⟨w.heap.size + 1, 1, none⟩ = some (.slice a' m c') := cell_later hb1 (by simp [go_sem])
      have r0 : w1.cell? ⟨w.heap.size + 1 + 1, 0, none⟩ = some (.bool false) := cell_later hb1 (by simp [go_sem])
      have r1 : w1.cell? ⟨w.heap.size + 1 + 1, 1, none⟩ = some (.slice none 0 0) := cell_later hb1 (by simp [go_sem])
      have f0 : ∀ o, w1.frozen? ⟨w.heap.size + 1 + 1, o, none⟩ = false := fun o => frozen_later hb1 (by simp) (by simp [go_sem])
      have s1 : w.heap.size + 1 + 1 + 1 ≤ w1.heap.size := by have := hb1.size; simp at this; omega
      have HB := hide ((unhide B3).trans (hb1.mono (by simp <;> omega)))
      clear hb1
      go_wp2_with fail
      refine (goodS_any g' a' m c' ys _ ((unhide HY).later (unhide HB)).sl (unhide HY).len (unhide my)).mono ?_
      rintro e w2 ⟨rfl, hb2⟩
      replace x0 := cell_later hb2 x0
      replace x1 := cell_later hb2 x1
      replace y0 := cell_later hb2 y0
      replace y1 := cell_later hb2 y1
      replace r0 := cell_later hb2 r0
      replace r1 := cell_later hb2 r1
      replace f0 : ∀ o, w2.frozen? ⟨w.heap.size + 1 + 1, o, none⟩ = false := fun o => frozen_later hb2 (by omega) (f0 o)
      replace HB := hide (below_on (unhide HB) hb2)
      have s2 : w.heap.size + 1 + 1 + 1 ≤ w2.heap.size := Nat.le_trans s1 hb2.size
      clear hb2 s1
      go_wp2_with fail
      refine (subSgS_any g g' a a' n m c c' xs ys w2 ((unhide NX).later (unhide HB)) ((unhide NY).later (unhide HB))).mono ?_
      rintro e w3 ⟨a2, n2, c2, zs, rfl, hb3, ho2, ha2, hn2⟩
      replace r0 := cell_later hb3 r0
      replace r1 := cell_later hb3 r1
      replace f0 : ∀ o, w3.frozen? ⟨w.heap.size + 1 + 1, o, none⟩ = false := fun o => frozen_later hb3 (by omega) (f0 o)
      replace HB := hide (below_on (unhide HB) hb3)
      have s3 : w.heap.size + 1 + 1 + 1 ≤ w3.heap.size := Nat.le_trans s2 hb3.size
      have HF := hide (fitS_any (sv g xs - sv g' ys) a2 n2 c2 zs w3 (w.heap.size + 1 + 1 + 1) (ho2.mono s2) ha2 hn2)
      clear x0 x1 y0 y1 hb3 ho2 ha2 hn2 s2
      go_wp2_with fail
      refine (unhide HF).mono ?_
      rintro e w4 ⟨gr, a3, n3, c3, ts, ok, rfl, hb4, ho3, ha3, hans⟩
      replace r0 := cell_later hb4 r0
      replace r1 := cell_later hb4 r1
      replace f0 : ∀ o, w4.frozen? ⟨w.heap.size + 1 + 1, o, none⟩ = false := fun o => frozen_later hb4 (by omega) (f0 o)
      replace HB := hide (below_on (unhide HB) hb4)
      have HO := hide ho3
      have HA := hide ha3
      have HS := hide hans
      clear hb4 ho3 ha3 hans s3 HF
      go_wp2
      exact bodyPost_ret (v := .tuple #[.agg #[.bool gr, .slice a3 n3 c3], .bool ok]) (by simp [results, Tryd.results8, go_sem, r0, r1]) rfl (outA_of (s := w.heap.size + 1 + 1) (by omega) (unhide HB) (unhide HO) (unhide HA) (unhide HS) _ _)
end Go.Proofs.YtdgonpbponnnaaaDoor
namespace Go.Proofs.YtdgonpbponnnaaaDoor
open Go.RowKit
set_option linter.unusedVariables false
set_option maxRecDepth 100000
set_option linter.unusedSimpArgs false

theorem fitM (g : Bool) (U : Int) (a : Option Addr) (n c : Nat) (zs : List Int) (w : World) (base : Nat) (ho : Own base w a zs) (ha : Arg w a n c zs) (hn : Nm zs U) (V : Int) (hV : V = if g then -U else U) :
    Calls Tryd.prog 27 #[.agg #[.bool (sd g U), .slice a n c]] w fun e w' => ∃ gr a2 n2 c2 ts ok, e = .returned (.tuple #[.agg #[.bool gr, .slice a2 n2 c2], .bool ok]) ∧ Below w.heap.size w w' ∧ Own base w' a2 ts ∧ Arg w' a2 n2 c2 ts ∧ Ans true V gr ts ok := by
  have e : sd g U = decide (V < 0) := by rw [hV]; rfl
  rw [e]
  exact fitI_any V a n c zs w base ho ha (by rw [natAbs_sign hn.nonneg hV]; exact hn)

end Go.Proofs.YtdgonpbponnnaaaDoor
namespace Go.Proofs.YtdgonpbponnnaaaDoor
open Go.RowKit
set_option linter.unusedVariables false
set_option maxRecDepth 100000
set_option linter.unusedSimpArgs false

theorem made_owns (w : World) (b n : Nat) (hm : b + n ≤ maxLen) : (w.alloc (.cells (madeCells #[.int .i64 0] (b + n)) 3)).ownsRow w.heap.size 3 1 (.slice (some ⟨w.heap.size, 0, none⟩) b (b + n)) b ((List.replicate b 0).map (Value.int .i64)) := by
  refine ⟨by simp, .inr ⟨w.heap.size, b + n, madeCells #[.int .i64 0] (b + n), rfl, Nat.le_refl _, ?_, by omega, hm, by simp [size_madeCells], ?_⟩⟩
  · show (w.heap.push _)[w.heap.size]? = _
    simp
  · rw [made_ints]
    rw [← List.map_take, List.take_replicate]
    congr 2
    omega
theorem val_zeros (n : Nat) (xs : List Int) : val (List.replicate n 0 ++ xs) = 65536 ^ n * val xs := by
  induction n with
  | zero => simp
  | succ n ih => simp only [List.replicate_succ, List.cons_append, val, ih, Int.pow_succ, Int.mul_comm (65536 ^ n) 65536, Int.mul_assoc]; omega
theorem okL_zeros (n : Nat) {xs : List Int} (h : okL xs) : okL (List.replicate n 0 ++ xs) := okL_append (fun x hx => by rw [List.eq_of_mem_replicate hx]; omega) h

end Go.Proofs.YtdgonpbponnnaaaDoor
namespace Go.Proofs.YtdgonpbponnnaaaDoor
open Go.RowKit
set_option linter.unusedVariables false
set_option maxRecDepth 100000
set_option linter.unusedSimpArgs false

def intOk (g : Bool) (xs : List Int) : Bool := goodB g xs && decide (val xs ≤ 4611686018427387904)
def intV (g : Bool) (xs : List Int) : Int := if intOk g xs then sv g xs else 0
theorem below_one' {w w1 : World} {o : Obj} (h : Below (w.alloc o).heap.size (w.alloc o) w1) : Below w.heap.size w w1 := ((Below.refl _ _).alloc (Nat.le_refl _) o).trans (h.mono (by simp))

theorem or_comm64 (a b : Int) : bits .or .u64 a b = bits .or .u64 b a := by simp only [bits, BitVec.or_comm]
theorem wraps64 (n : Int) (h₀ : 0 ≤ n) (h₁ : n < 2 ^ 64) : IntKind.u64.wrap n = n := by rw [IntKind.wrap_u64]; omega
theorem or_join (k : Nat) (F x : Int) (hk : k ≤ 3) (h0 : 0 ≤ F) (h1 : F < 65536 ^ k) (hx0 : 0 ≤ x) (hx1 : x ≤ 65535) :
    bits .or .u64 F (IntKind.u64.wrap (x * 2 ^ (k * 16))) = F + 65536 ^ k * x := by
  rcases (show k = 0 ∨ k = 1 ∨ k = 2 ∨ k = 3 from by omega) with rfl | rfl | rfl | rfl
  · have e : x * 2 ^ (0 * 16) = x := by simp
    rw [e, wraps64 x hx0 (by omega), or_comm64, bits_join .u64 64 (by decide) wraps64 0 x F hx0 (by simp) (by omega) h0 (by simpa using h1) (by simp at h1; omega)]
    simp; omega
  · have e : x * 2 ^ (1 * 16) = x * 65536 := by simp
    have h1' : F < 65536 := by simpa using h1
    rw [e, wraps64 (x * 65536) (by omega) (by omega), or_comm64, bits_join .u64 64 (by decide) wraps64 16 (x * 65536) F (by omega) (by omega) (by omega) h0 (by omega) (by omega)]
    simp; omega
  · have e : x * 2 ^ (2 * 16) = x * 4294967296 := by simp
    have h1' : F < 4294967296 := by simpa using h1
    rw [e, wraps64 (x * 4294967296) (by omega) (by omega), or_comm64, bits_join .u64 64 (by decide) wraps64 32 (x * 4294967296) F (by omega) (by omega) (by omega) h0 (by omega) (by omega)]
    simp; omega
  · have e : x * 2 ^ (3 * 16) = x * 281474976710656 := by simp
    have h1' : F < 281474976710656 := by simpa using h1
    rw [e, wraps64 (x * 281474976710656) (by omega) (by omega), or_comm64, bits_join .u64 64 (by decide) wraps64 48 (x * 281474976710656) F (by omega) (by omega) (by omega) h0 (by omega) (by omega)]
    simp; omega
theorem int_long {g : Bool} {xs : List Int} (hg : goodB g xs = true) (h : 4 < xs.length) : intOk g xs = false := by
  obtain ⟨h1, h2, _, _⟩ := good_parts hg
  have h3 := top_le h1 h2 (by omega)
  have h4 := pow_mono (show 4 ≤ xs.length - 1 by omega)
  have h5 : (65536 : Int) ^ 4 = 18446744073709551616 := by decide
  have h6 : ¬ val xs ≤ 4611686018427387904 := by omega
  simp [intOk, h6]
theorem int_bad {g : Bool} {xs : List Int} (hg : goodB g xs = false) : intOk g xs = false := by simp [intOk, hg]
theorem int_great {g : Bool} {xs : List Int} (h : 4611686018427387904 < val xs) : intOk g xs = false := by
  have h6 : ¬ val xs ≤ 4611686018427387904 := by omega
  simp [intOk, h6]
theorem int_fits {g : Bool} {xs : List Int} (hg : goodB g xs = true) (h : val xs ≤ 4611686018427387904) : intOk g xs = true := by simp [intOk, hg, h]
theorem ret_pair {v : Int} {b : Bool} {v' : Int} {b' : Bool} (h1 : v = v') (h2 : b = b') : Ending.returned (.tuple #[.int .i64 v, .bool b]) = .returned (.tuple #[.int .i64 v', .bool b']) := by rw [h1, h2]
theorem int_no {g : Bool} {xs : List Int} (h : intOk g xs = false) : intV g xs = 0 := by simp [intV, h]
theorem int_yes {g : Bool} {xs : List Int} (h : intOk g xs = true) : intV g xs = sv g xs := by simp [intV, h]

set_option maxHeartbeats 4000000 in
theorem intI_loop (g : Bool) (a : Option Addr) (n c : Nat) (xs : List Int) (w : World) (hx : Arg w a n c xs) (hg : goodB g xs = true) (hn4 : n ≤ 4) :
    Calls Tryd.prog 18 #[.agg #[.bool g, .slice a n c]] w fun e w' => e = .returned (.tuple #[.int .i64 (intV g xs), .bool (intOk g xs)]) ∧ Below w.heap.size w w' := by
  have HX := hide hx
  have HG := hide hg
  have ox := (good_parts hg).1
  clear hx
  have d1 : ¬ ((64 : Int) < (n : Int) * 16) := by omega
  go_enter Tryd.func18, Tryd.ntmps18
  go_wp2_with fail
  refine (goodI_any g a n c xs _ ((unhide HX).later ((Below.refl _ _).alloc (Nat.le_refl _) _)).sl (unhide HX).len (Nat.le_trans (unhide HX).cap (unhide HX).top)).mono ?_
  rintro e w1 ⟨rfl, hb1⟩
  have x0 : w1.cell? ⟨w.heap.size, 0, none⟩ = some (.bool g) := cell_later hb1 (by simp [go_sem])
  have x1 : w1.cell? ⟨w.heap.size, 1, none⟩ = some (.slice a n c) := cell_later hb1 (by simp [go_sem])
  have HB := hide (below_one' hb1)
  clear hb1
  rw [hg]
  clear hg
  go_wp2
  go_loop [4, 20] (fun fv iv => ∃ (k : Nat) (F : Int), k ≤ n ∧ iv = .int .i64 k ∧ fv = .int .u64 F ∧ Hid (F = val (xs.take k))) (fun _ iv => n - (intOf iv).toNat)
  case atStart => exact ⟨0, 0, Nat.zero_le _, rfl, rfl, hide (by simp [val])⟩
  case round =>
    obtain ⟨k, F, hk, rfl, rfl, HF⟩ := hrel
    by_cases hlt : k < n
    · obtain ⟨b, off, rfl, hcx⟩ := ((unhide HX).sl.later (Nat.le_refl _) (unhide HB)).at (k := k) (by rw [(unhide HX).len]; exact hlt)
      have hxb := okL_get ox k
      have HV := hide (val_take_succ xs k)
      generalize xs.getD k 0 = x at *
      obtain ⟨hx0, hx1⟩ := hxb
      have hlt' : (k : Int) < (n : Int) := by omega
      have HF0 := hide (show 0 ≤ F by rw [unhide HF]; exact val_nonneg (okL_take ox k))
      have HF1 := hide (show F < 65536 ^ k by
        rw [unhide HF]
        have h1 := val_lt (okL_take ox k)
        rw [List.length_take, Nat.min_eq_left (by rw [(unhide HX).len]; omega)] at h1
        exact h1)
      have HJ := hide (or_join k F x (by omega) (unhide HF0) (unhide HF1) hx0 hx1)
      go_wp2
      go_round
      case rel => exact ⟨k + 1, _, by omega, by go_num, rfl, hide (by rw [unhide HJ, unhide HV, unhide HF])⟩
      case measure => simp [intOf]; omega
    · obtain rfl : k = n := by omega
      have HT := hide (List.take_of_length_le (l := xs) (i := k) (by rw [(unhide HX).len]; exact Nat.le_refl _))
      have HFv : Hid (F = val xs) := hide (by rw [unhide HF, unhide HT])
      have F0 : 0 ≤ F := by rw [unhide HFv]; exact val_nonneg ox
      by_cases hbig : 4611686018427387904 < F
      · go_wp2
        go_ret2
        have h2 := int_great (g := g) (xs := xs) (by rw [← unhide HFv]; exact hbig)
        exact ⟨ret_pair (int_no h2).symm h2.symm, unhide HB⟩
      · have h2 := hide (int_fits (unhide HG) (by rw [← unhide HFv]; omega))
        cases g
        · go_wp2
          go_ret2
          exact ⟨ret_pair (by rw [int_yes (unhide h2), unhide HFv]; rfl) (unhide h2).symm, unhide HB⟩
        · go_wp2
          go_ret2
          exact ⟨ret_pair (by rw [int_yes (unhide h2), unhide HFv]; rfl) (unhide h2).symm, unhide HB⟩

set_option maxHeartbeats 4000000 in
theorem intI_any (g : Bool) (a : Option Addr) (n c : Nat) (xs : List Int) (w : World) (hx : Arg w a n c xs) (h1 : n ≤ 1048576) :
    Calls Tryd.prog 18 #[.agg #[.bool g, .slice a n c]] w fun e w' => e = .returned (.tuple #[.int .i64 (intV g xs), .bool (intOk g xs)]) ∧ Below w.heap.size w w' := by
  cases hg : goodB g xs
  · have h2 := int_bad hg
    rw [int_no h2, h2]
    have HX := hide hx
    clear hx h2
    go_enter Tryd.func18, Tryd.ntmps18
    go_wp2_with fail
    refine (goodI_any g a n c xs _ ((unhide HX).later ((Below.refl _ _).alloc (Nat.le_refl _) _)).sl (unhide HX).len (Nat.le_trans (unhide HX).cap (unhide HX).top)).mono ?_
    rintro e w1 ⟨rfl, hb1⟩
    rw [hg]
    have HB := hide (below_one' hb1)
    clear hb1 hg
    go_wp2
    go_ret2
    exact ⟨rfl, unhide HB⟩
  · by_cases h4 : n ≤ 4
    · exact intI_loop g a n c xs w hx hg h4
    · have h2 := int_long hg (by rw [hx.len]; omega)
      rw [int_no h2, h2]
      have HX := hide hx
      clear hx h2
      have d1 : (64 : Int) < (n : Int) * 16 := by omega
      go_enter Tryd.func18, Tryd.ntmps18
      go_wp2_with fail
      refine (goodI_any g a n c xs _ ((unhide HX).later ((Below.refl _ _).alloc (Nat.le_refl _) _)).sl (unhide HX).len (Nat.le_trans (unhide HX).cap (unhide HX).top)).mono ?_
      rintro e w1 ⟨rfl, hb1⟩
      rw [hg]
      have x1 : w1.cell? ⟨w.heap.size, 1, none⟩ = some (.slice a n c) := cell_later hb1 (by simp [go_sem])
      have HB := hide (below_one' hb1)
      clear hb1 hg
      go_wp2
      go_ret2
      exact ⟨rfl, unhide HB⟩
end Go.Proofs.YtdgonpbponnnaaaDoor
namespace Go.Proofs.YtdgonpbponnnaaaDoor
open Go.RowKit
set_option linter.unusedVariables false
set_option maxRecDepth 100000
set_option linter.unusedSimpArgs false

theorem trim_drop {xs : List Int} (h : trim xs = xs) (k : Nat) : trim (xs.drop k) = xs.drop k := by
  induction xs generalizing k with
  | nil => simp [trim]
  | cons x xs ih =>
    cases k with
    | zero => simpa using h
    | succ k =>
      have h' : (if trim xs = [] ∧ x = 0 then [] else x :: trim xs) = x :: xs := h
      split at h'
      · cases h'
      · exact ih (by simpa using h') k
theorem part_val (xs : List Int) (k : Nat) : val xs = val (xs.take k) + 65536 ^ k * val (xs.drop k) := by
  by_cases h : k ≤ xs.length
  · have := val_drop xs k
    rwa [List.length_take, Nat.min_eq_left h] at this
  · rw [List.drop_of_length_le (by omega), List.take_of_length_le (by omega)]
    simp [val]
theorem kara (L H L' H' P : Int) : L * L' + (P * ((L + H) * (L' + H') - L * L' - H * H') + P * P * (H * H')) = (L + P * H) * (L' + P * H') := by
  simp only [Int.mul_add, Int.add_mul, Int.mul_sub, Int.mul_assoc, Int.mul_comm, Int.mul_left_comm]
  omega

/-- The slice reads the limbs of V. -/
structure At (w : World) (a : Option Addr) (n c : Nat) (zs : List Int) (V : Int) : Prop where
  arg : Arg w a n c zs
  nm : Nm zs V
theorem At.later {w w' : World} {a : Option Addr} {n c : Nat} {zs : List Int} {V : Int} (h : At w a n c zs V) (hb : Below w.heap.size w w') : At w' a n c zs V := ⟨h.arg.later hb, h.nm⟩
theorem At.le {w w' : World} {a a' : Option Addr} {n n' c c' : Nat} {zs zs' : List Int} {V V' : Int} (h : At w a n c zs V) (k : At w' a' n' c' zs' V') (hV : V ≤ V') : n ≤ n' := by
  rw [← h.arg.len, ← k.arg.len]
  exact len_of_val k.nm.ok h.nm.ok h.nm.tr (by rw [h.nm.v, k.nm.v]; exact hV)

theorem len_mul {w w' w'' : World} {a a' a'' : Option Addr} {n n' n'' c c' c'' : Nat} {zs zs' zs'' : List Int} {U V : Int} (h : At w a n c zs U) (k : At w' a' n' c' zs' V) (q : At w'' a'' n'' c'' zs'' (U * V)) : n'' ≤ n + n' := by
  have h1 := val_lt h.nm.ok
  have h2 := val_lt k.nm.ok
  rw [h.nm.v, h.arg.len] at h1
  rw [k.nm.v, k.arg.len] at h2
  by_cases h0 : n'' = 0
  · omega
  have h3 := top_le q.nm.ok q.nm.tr (by rw [q.arg.len]; omega)
  rw [q.nm.v, q.arg.len] at h3
  by_cases hl : n'' ≤ n + n'
  · exact hl
  · have p1 := h.nm.nonneg
    have p2 := k.nm.nonneg
    have pk : (0 : Int) < 65536 ^ n' := Int.pow_pos (by omega)
    have pn : (0 : Int) < 65536 ^ n := Int.pow_pos (by omega)
    have h4 : U * V ≤ U * 65536 ^ n' := Int.mul_le_mul_of_nonneg_left (by omega) p1
    have h5 : U * 65536 ^ n' < 65536 ^ n * 65536 ^ n' := Int.mul_lt_mul_of_pos_right h1 pk
    rw [← Int.pow_add] at h5
    have h6 := pow_mono (show n + n' ≤ n'' - 1 by omega)
    omega
theorem add_len2 {zs us vs : List Int} {N : Nat} (h : Nm zs (val us + val vs)) (ou : okL us) (ov : okL vs) (hu : us.length ≤ N) (hv : vs.length ≤ N) : zs.length ≤ N + 1 := by
  by_cases hl : zs.length ≤ N + 1
  · exact hl
  · have q1 := top_le h.ok h.tr (by omega)
    rw [h.v] at q1
    have q2 := val_lt ou
    have q3 := val_lt ov
    have q4 := pow_mono hu
    have q5 := pow_mono hv
    have q6 := pow_mono (show N + 1 ≤ zs.length - 1 by omega)
    rw [Int.pow_succ] at q6
    have q7 : (0 : Int) < 65536 ^ N := Int.pow_pos (by omega)
    omega

theorem mid_le {L H L' H' : Int} (l : 0 ≤ L) (h : 0 ≤ H) (l' : 0 ≤ L') (h' : 0 ≤ H') : L * L' ≤ (L + H) * (L' + H') ∧ H * H' ≤ (L + H) * (L' + H') - L * L' := by
  have e : (L + H) * (L' + H') = L * L' + H * L' + (L * H' + H * H') := by simp only [Int.mul_add, Int.add_mul]
  have p1 := Int.mul_nonneg l h'
  have p2 := Int.mul_nonneg h l'
  have p3 := Int.mul_nonneg h h'
  omega

end Go.Proofs.YtdgonpbponnnaaaDoor
namespace Go.Proofs.YtdgonpbponnnaaaDoor
open Go.RowKit
set_option linter.unusedVariables false
set_option maxRecDepth 100000
set_option linter.unusedSimpArgs false

theorem trim_of_top {zs : List Int} (h : okL zs) (h0 : 0 < zs.length) (ht : (65536 : Int) ^ (zs.length - 1) ≤ val zs) : trim zs = zs := by
  have e : zs = zs.take (zs.length - 1) ++ [zs.getD (zs.length - 1) 0] := by
    rw [← take_succ' (by omega), show zs.length - 1 + 1 = zs.length by omega, List.take_length]
  by_cases hz : zs.getD (zs.length - 1) 0 = 0
  · have hv : val zs = val (zs.take (zs.length - 1)) := by
      conv => lhs; rw [e]
      rw [val_snoc, hz]; simp
    have hl := val_lt (okL_take h (zs.length - 1))
    rw [List.length_take, Nat.min_eq_left (by omega)] at hl
    omega
  · conv => lhs; rw [e]
    rw [trim_snoc_ne _ hz]
    exact e.symm

set_option maxHeartbeats 4000000 in
theorem addT_any (a a' : Option Addr) (n m c c' : Nat) (xs ys : List Int) (w : World) (hx : Arg w a n c xs) (hy : Arg w a' m c' ys) (ox : okL xs) (oy : okL ys) (tx : trim xs = xs) (ty : trim ys = ys) (h1 : n ≤ 1048576) (h2 : m ≤ 1048576) :
    Calls Tryd.prog 49 #[.slice a n c, .slice a' m c'] w (Out w (val xs + val ys)) := by
  obtain ⟨i0, hi, hz0, hz1, hz2⟩ := info_parts Tryd.info3
  have HN := hide hx.len
  have HM := hide hy.len
  have HX := hide hx.sl
  have HY := hide hy.sl
  have TX := hide tx
  have TY := hide ty
  clear hx hy tx ty
  go_enter Tryd.func49, Tryd.ntmps49
  go_wp2
  go_loopw [5, 6, 7] (fun v cv i wr => ∃ (k : Nat) (cy : Int) (zs : List Int), k ≤ max n m + 1 ∧ i = .int .i64 k ∧ cv = .int .i64 cy ∧ 0 ≤ cy ∧ cy ≤ 1 ∧ (k = max n m + 1 → cy = 0) ∧ Hid (k = max n m + 1 → 65536 ^ (max n m) ≤ val xs + val ys) ∧ Hid (Acc zs k cy (val (xs.take k) + val (ys.take k))) ∧
      Hid (wr.ownsRow w.heap.size 3 1 v k (zs.map (Value.int .i64))) ∧ Hid (Below w.heap.size w wr)) (fun _ _ i _ => max n m + 1 - (intOf i).toNat)
  case atStart => exact ⟨0, 0, [], Nat.zero_le _, rfl, rfl, by omega, by omega, fun _ => rfl, hide (fun h => by omega), hide (by simpa [val] using Acc.start), hide (World.ownsRow_nil _ _ _ _), hide (Below.refl _ _)⟩
  case round =>
    obtain ⟨k, cy, zs, hk, rfl, rfl, hc0, hc1, hcz, HW, HA, HO, HB⟩ := hrel
    by_cases hgo : k < n ∨ k < m ∨ 0 < cy
    · have hklt : k < max n m + 1 := by
        rcases hgo with h | h | h
        · omega
        · omega
        · by_cases hq : k = max n m + 1
          · have := hcz hq; omega
          · omega
      have hxb := okL_get ox k
      have hyb := okL_get oy k
      have hvx := hide (val_take_succ xs k)
      have hvy := hide (val_take_succ ys k)
      have SX := hide ((unhide HX).later (Nat.le_refl _) (unhide HB))
      have SY := hide ((unhide HY).later (Nat.le_refl _) (unhide HB))
      have hlast : k = max n m → xs.getD k 0 = 0 ∧ ys.getD k 0 = 0 := fun e => ⟨getD_out (unhide HN) (by omega), getD_out (unhide HM) (by omega)⟩
      have LX := hide (fun w h => limb_any a n c xs k w h (unhide HN))
      have LY := hide (fun w h => limb_any a' m c' ys k w h (unhide HM))
      generalize xs.getD k 0 = x at *
      generalize ys.getD k 0 = y at *
      obtain ⟨hx0, hx1⟩ := hxb
      obtain ⟨hy0, hy1⟩ := hyb
      have HLast := hide hlast
      have HCZ := hide hcz
      have HW2 : Hid (k + 1 = max n m + 1 → 65536 ^ (max n m) ≤ val xs + val ys) := hide (by
        intro e
        have hcy : 1 ≤ cy := by
          rcases hgo with h | h | h
          · omega
          · omega
          · omega
        have e1 := (unhide HA).v
        rw [List.take_of_length_le (by rw [unhide HN]; omega), List.take_of_length_le (by rw [unhide HM]; omega)] at e1
        have e2 := val_nonneg (unhide HA).ok
        have e3 : (65536 : Int) ^ k * 1 ≤ 65536 ^ k * cy := Int.mul_le_mul_of_nonneg_left hcy (Int.le_of_lt (Int.pow_pos (by omega)))
        rw [show max n m = k by omega]
        omega)
      have HA2 := hide ((unhide HA).step (x + y + cy))
      clear hlast hcz
      rcases (show (k < n) ∨ (¬ k < n ∧ k < m) ∨ (¬ k < n ∧ ¬ k < m ∧ 0 < cy) from by omega) with g1 | ⟨g1, g2⟩ | ⟨g1, g2, g3⟩
      · have d1 : (k : Int) < (n : Int) := by omega
        go_wp2_with fail
        refine (unhide LX _ (unhide SX)).mono ?_
        rintro e w2 ⟨rfl, rfl⟩
        go_wp2_with fail
        refine (unhide LY _ (unhide SY)).mono ?_
        rintro e w3 ⟨rfl, rfl⟩
        go_wp2_with (at_builtin; refine wpList_append_own _ rfl (.tmp 34) (.tmp 37) 23 rfl w.heap.size 3 i0 (.int .i64 0) 1 8 Tryd.underlying23 hi hz0 hz1 hz2 rfl (by decide) _ _ _ rfl ((unhide HO).alloc _) ⟨_, 0, none⟩ 1 1 [.int .i64 ((x + y + cy) % 65536)] rfl rfl (new_cell _ _) (fun u hu => by simp at hu; subst hu; rfl) (by unfold maxLen; omega) (by omega) (by have := (unhide HB).size; simp; omega) ?_)
        intro v' w1 hown hg _
        have HR := hide (push_owns (w := w) (v := v') hown)
        have HB2 := hide (below_push (base := 0) (unhide HB) (unhide HO) hg)
        clear hown hg
        go_wp2
        go_roundw
        case rel => exact ⟨k + 1, (x + y + cy) / 65536, zs ++ [(x + y + cy) % 65536], by omega, by go_num, rfl, by omega, by omega, fun e => by have := unhide HLast (by omega); omega, HW2, hide ((unhide HA2).cast (by rw [unhide hvx, unhide hvy, Int.mul_sub, Int.mul_add, Int.mul_add]; omega)), HR, HB2⟩
        case measure => simp [intOf]; omega
      · have d1 : decide ((k : Int) < (n : Int)) = false := by simp; omega
        have d2 : (k : Int) < (m : Int) := by omega
        go_wp2_with fail
        refine (unhide LX _ (unhide SX)).mono ?_
        rintro e w2 ⟨rfl, rfl⟩
        go_wp2_with fail
        refine (unhide LY _ (unhide SY)).mono ?_
        rintro e w3 ⟨rfl, rfl⟩
        go_wp2_with (at_builtin; refine wpList_append_own _ rfl (.tmp 34) (.tmp 37) 23 rfl w.heap.size 3 i0 (.int .i64 0) 1 8 Tryd.underlying23 hi hz0 hz1 hz2 rfl (by decide) _ _ _ rfl ((unhide HO).alloc _) ⟨_, 0, none⟩ 1 1 [.int .i64 ((x + y + cy) % 65536)] rfl rfl (new_cell _ _) (fun u hu => by simp at hu; subst hu; rfl) (by unfold maxLen; omega) (by omega) (by have := (unhide HB).size; simp; omega) ?_)
        intro v' w1 hown hg _
        have HR := hide (push_owns (w := w) (v := v') hown)
        have HB2 := hide (below_push (base := 0) (unhide HB) (unhide HO) hg)
        clear hown hg
        go_wp2
        go_roundw
        case rel => exact ⟨k + 1, (x + y + cy) / 65536, zs ++ [(x + y + cy) % 65536], by omega, by go_num, rfl, by omega, by omega, fun e => by have := unhide HLast (by omega); omega, HW2, hide ((unhide HA2).cast (by rw [unhide hvx, unhide hvy, Int.mul_sub, Int.mul_add, Int.mul_add]; omega)), HR, HB2⟩
        case measure => simp [intOf]; omega
      · have d1 : decide ((k : Int) < (n : Int)) = false := by simp; omega
        have d2 : decide ((k : Int) < (m : Int)) = false := by simp; omega
        go_wp2_with fail
        refine (unhide LX _ (unhide SX)).mono ?_
        rintro e w2 ⟨rfl, rfl⟩
        go_wp2_with fail
        refine (unhide LY _ (unhide SY)).mono ?_
        rintro e w3 ⟨rfl, rfl⟩
        go_wp2_with (at_builtin; refine wpList_append_own _ rfl (.tmp 34) (.tmp 37) 23 rfl w.heap.size 3 i0 (.int .i64 0) 1 8 Tryd.underlying23 hi hz0 hz1 hz2 rfl (by decide) _ _ _ rfl ((unhide HO).alloc _) ⟨_, 0, none⟩ 1 1 [.int .i64 ((x + y + cy) % 65536)] rfl rfl (new_cell _ _) (fun u hu => by simp at hu; subst hu; rfl) (by unfold maxLen; omega) (by omega) (by have := (unhide HB).size; simp; omega) ?_)
        intro v' w1 hown hg _
        have HR := hide (push_owns (w := w) (v := v') hown)
        have HB2 := hide (below_push (base := 0) (unhide HB) (unhide HO) hg)
        clear hown hg
        go_wp2
        go_roundw
        case rel => exact ⟨k + 1, (x + y + cy) / 65536, zs ++ [(x + y + cy) % 65536], by omega, by go_num, rfl, by omega, by omega, fun e => by have := unhide HLast (by omega); omega, HW2, hide ((unhide HA2).cast (by rw [unhide hvx, unhide hvy, Int.mul_sub, Int.mul_add, Int.mul_add]; omega)), HR, HB2⟩
        case measure => simp [intOf]; omega
    · have d1 : decide ((k : Int) < (n : Int)) = false := by simp; omega
      have d2 : decide ((k : Int) < (m : Int)) = false := by simp; omega
      have d3 : ¬ (0 : Int) < cy := by omega
      obtain ⟨a2, c2, rfl, ho, ha⟩ := owns_shape (unhide HO) (unhide HA).len
      have HF := hide (And.intro ho ha)
      clear ho ha
      go_wp2
      go_ret
      have e1 := (unhide HA).v
      rw [List.take_of_length_le (by rw [unhide HN]; omega), List.take_of_length_le (by rw [unhide HM]; omega)] at e1
      have e2 : cy = 0 := by omega
      rw [e2] at e1
      have e3 : val zs = val xs + val ys := by simpa using e1
      refine ⟨a2, _, c2, zs, rfl, unhide HB, (unhide HF).1, (unhide HF).2, (unhide HA).ok, ?_, e3⟩
      by_cases hz : zs = []
      · rw [hz]; rfl
      · have hlz : 0 < zs.length := List.length_pos_iff.2 hz
        refine trim_of_top (unhide HA).ok hlz ?_
        rw [e3]
        have hl := (unhide HA).len
        have x0 := val_nonneg ox
        have y0 := val_nonneg oy
        by_cases hq : k = max n m + 1
        · rw [hl, show k - 1 = max n m by omega]
          exact unhide HW hq
        · by_cases hnm : n ≤ m
          · have := top_le oy (unhide TY) (by rw [unhide HM]; omega)
            rw [unhide HM] at this
            rw [hl, show k - 1 = m - 1 by omega]
            omega
          · have := top_le ox (unhide TX) (by rw [unhide HN]; omega)
            rw [unhide HN] at this
            rw [hl, show k - 1 = n - 1 by omega]
            omega
end Go.Proofs.YtdgonpbponnnaaaDoor
namespace Go.Proofs.YtdgonpbponnnaaaDoor
open Go.RowKit
set_option linter.unusedVariables false
set_option maxRecDepth 100000
set_option linter.unusedSimpArgs false

theorem cells_all {w : World} {b off : Nat} {xs : List Int} (hc : ∀ i, i < xs.length → w.cell? ⟨b, off + i, none⟩ = some (.int .i64 (xs.getD i 0))) :
    ∀ j u, (xs.map (Value.int .i64))[j]? = some u → w.cell? ((⟨b, off, none⟩ : Addr).add j) = some u := by
  have := cells_at (w := w) (b := b) (off := off) (k := xs.length) (xs := xs) hc (Nat.le_refl _)
  rwa [List.take_length] at this
end Go.Proofs.YtdgonpbponnnaaaDoor
namespace Go.Proofs.YtdgonpbponnnaaaDoor
open Go.RowKit
set_option linter.unusedVariables false
set_option maxRecDepth 100000
set_option linter.unusedSimpArgs false

end Go.Proofs.YtdgonpbponnnaaaDoor
namespace Go.Proofs.YtdgonpbponnnaaaDoor
open Go.RowKit
set_option linter.unusedVariables false
set_option maxRecDepth 100000
set_option linter.unusedSimpArgs false

theorem mul_len2 {w : World} {zs xs ys : List Int} {a a' : Option Addr} {n m c c' : Nat} (h : Nm zs (val xs * val ys)) (hx : Num w a n c xs) (hy : Num w a' m c' ys) (hn : n ≤ 200000) (hm : m ≤ 200000) : zs.length ≤ 1048576 := mul_len h hx hy (by omega) (by omega)
theorem fitMS (g : Bool) (U : Int) (a : Option Addr) (n c : Nat) (zs : List Int) (w : World) (base : Nat) (ho : Own base w a zs) (ha : Arg w a n c zs) (hn : Nm zs U) (V : Int) (hV : V = if g then -U else U) :
    Calls Tryd.prog 29 #[.agg #[.bool (sd g U), .slice a n c]] w fun e w' => ∃ gr a2 n2 c2 ts ok, e = .returned (.tuple #[.agg #[.bool gr, .slice a2 n2 c2], .bool ok]) ∧ Below w.heap.size w w' ∧ Own base w' a2 ts ∧ Arg w' a2 n2 c2 ts ∧ Ans true V gr ts ok := by
  have e : sd g U = decide (V < 0) := by rw [hV]; rfl
  rw [e]
  exact fitS_any V a n c zs w base ho ha (by rw [natAbs_sign hn.nonneg hV]; exact hn)

end Go.Proofs.YtdgonpbponnnaaaDoor
namespace Go.Proofs.YtdgonpbponnnaaaDoor
open Go.RowKit
set_option linter.unusedVariables false
set_option maxRecDepth 100000
set_option linter.unusedSimpArgs false

theorem gcd_short {xs ys zs : List Int} (ox : okL xs) (oy : okL ys) (hx : xs.length ≤ 40) (hy : ys.length ≤ 40) (h : Nm zs ((Nat.gcd (val xs).toNat (val ys).toNat : Nat) : Int)) : zs.length ≤ 40 := by
  have x0 := val_nonneg ox
  have y0 := val_nonneg oy
  by_cases h0 : 0 < (val xs).toNat
  · have := Nat.gcd_le_left (val ys).toNat h0
    exact Nat.le_trans (len_of_val ox h.ok h.tr (by rw [h.v]; omega)) hx
  · have e : (val xs).toNat = 0 := by omega
    rw [e, Nat.gcd_zero_left] at h
    exact Nat.le_trans (len_of_val oy h.ok h.tr (by rw [h.v]; omega)) hy

end Go.Proofs.YtdgonpbponnnaaaDoor
namespace Go.Proofs.YtdgonpbponnnaaaDoor
open Go.RowKit
set_option linter.unusedVariables false
set_option maxRecDepth 100000
set_option linter.unusedSimpArgs false

end Go.Proofs.YtdgonpbponnnaaaDoor
namespace Go.Proofs.YtdgonpbponnnaaaDoor
open Go.RowKit
set_option linter.unusedVariables false
set_option maxRecDepth 100000
set_option linter.unusedSimpArgs false

/-- A variable's box that holds a number. -/
structure BxN (w : World) (G : Nat) (b : BV) : Prop where
  c0 : w.cell? ⟨G, 0, none⟩ = some (.bool b.g)
  c1 : w.cell? ⟨G, 1, none⟩ = some (.slice b.a b.n b.c)
theorem BxN.later {w w' : World} {G : Nat} {b : BV} (h : BxN w G b) (hb : Below w.heap.size w w') : BxN w' G b := ⟨cell_later hb h.c0, cell_later hb h.c1⟩
theorem BxN.new {w : World} {b : BV} {t : TypeId} : BxN (w.alloc (.cells #[.bool b.g, .slice b.a b.n b.c] t)) w.heap.size b := ⟨by simp [go_sem], by simp [go_sem]⟩
theorem BxN.new2 {w : World} {b : BV} {t : TypeId} {o : Obj} : BxN ((w.alloc o).alloc (.cells #[.bool b.g, .slice b.a b.n b.c] t)) (w.heap.size + 1) b := ⟨by simp [go_sem], by simp [go_sem]⟩
def OutRe (w : World) (P : Bool) (V : Int) (e : Ending) (w' : World) : Prop := ∃ (b : BV) (d : BD) (ok : Bool), e = .returned (.tuple #[.agg #[.bool b.g, .slice b.a b.n b.c], .bool ok]) ∧ Below w.heap.size w w' ∧ AllAr w' [(b, d)] ∧ Ans P V d.g d.xs ok
theorem OutA.toRe {w : World} {P : Bool} {V : Int} (e : Ending) (w' : World) (h : OutA w P V e w') : OutRe w P V e w' := by
  obtain ⟨gr, a, n, c, zs, ok, he, hb, ho, ha, hans⟩ := h
  exact ⟨⟨gr, a, n, c⟩, ⟨gr, zs⟩, ok, he, hb, AllAr.cons ⟨rfl, ha⟩ (AllAr.nil _), hans⟩
section
variable (b b' : BV) (d d' : BD) (w : World) (h : AllAr w [(b, d)]) (h' : AllAr w [(b', d')])
include h h'
theorem addR_I : Calls Tryd.prog 5 #[.agg #[.bool b.g, .slice b.a b.n b.c], .agg #[.bool b'.g, .slice b'.a b'.n b'.c]] w (OutRe w (goodB d.g d.xs && goodB d'.g d'.xs) (sv d.g d.xs + sv d'.g d'.xs)) := by
  have k := (AddI_any b.g b'.g b.a b'.a b.n b'.n b.c b'.c d.xs d'.xs w h.head.ar h'.head.ar).mono OutA.toRe
  rw [h.head.sg, h'.head.sg] at k
  rw [h.head.sg, h'.head.sg]
  exact k
end
theorem cmpR_lt (b b' : BV) (d d' : BD) (w : World) (h : AllAr w [(b, d)]) (h' : AllAr w [(b', d')]) (hl : d.xs.length ≤ 1048576) (hl' : d'.xs.length ≤ 1048576) (hc : cmpOk false d.xs false d'.xs = true ∧ cmpV false d.xs false d'.xs < 0) :
    Calls Tryd.prog 9 #[.agg #[.bool false, .slice b.a b.n b.c], .agg #[.bool false, .slice b'.a b'.n b'.c]] w fun e w' => ∃ k : Int, e = .returned (.tuple #[.int .i64 k, .bool true]) ∧ Below w.heap.size w w' ∧ k < 0 := by
  refine (CompareI_any false false b.a b'.a b.n b'.n b.c b'.c d.xs d'.xs w h.head.ar.sl h'.head.ar.sl h.head.ar.len h'.head.ar.len (by have := h.head.ar.len; unfold maxLen; omega) (by have := h'.head.ar.len; unfold maxLen; omega)).mono ?_
  rintro e w1 ⟨rfl, hb⟩
  rw [hc.1]
  exact ⟨_, rfl, hb, hc.2⟩
theorem intR_I (b : BV) (d : BD) (w : World) (h : AllAr w [(b, d)]) (hl : d.xs.length ≤ 1048576) :
    Calls Tryd.prog 18 #[.agg #[.bool b.g, .slice b.a b.n b.c]] w fun e w' => e = .returned (.tuple #[.int .i64 (intV d.g d.xs), .bool (intOk d.g d.xs)]) ∧ Below w.heap.size w w' := by
  have k := intI_any b.g b.a b.n b.c d.xs w h.head.ar (by have := h.head.ar.len; omega)
  rw [h.head.sg] at k
  rw [h.head.sg]
  exact k
theorem Ans.sameD {P : Bool} {V : Int} {d d' : BD} {ok ok' : Bool} (h : Ans P V d.g d.xs ok) (k : Ans P V d'.g d'.xs ok') : d = d' ∧ ok = ok' := by
  obtain ⟨e1, e2, e3⟩ := h.same k
  obtain ⟨g, xs⟩ := d
  obtain ⟨g', xs'⟩ := d'
  simp only at e1 e2
  exact ⟨by rw [e1, e2], e3⟩
theorem AllAr.n_len {w : World} {b : BV} {d : BD} (h : AllAr w [(b, d)]) : d.xs.length = b.n := h.head.ar.len
end Go.Proofs.YtdgonpbponnnaaaDoor
namespace Go.Proofs.YtdgonpbponnnaaaDoor
open Go.RowKit
set_option linter.unusedVariables false
set_option maxRecDepth 100000
set_option linter.unusedSimpArgs false

/-- Digits read on from n: none where one is no digit or the number comes beyond most. -/
def nv (most : Nat) : Nat → List UInt8 → Option Nat
  | n, [] => some n
  | n, c :: cs => if c.toNat < 48 ∨ 57 < c.toNat then none else if most < 10 * n + (c.toNat - 48) then none else nv most (10 * n + (c.toNat - 48)) cs
def numV (most : Nat) : List UInt8 → Option Nat
  | [] => none
  | c :: cs => if c = 48 ∧ cs ≠ [] then none else nv most 0 (c :: cs)
theorem nv_snoc (most : Nat) (c : UInt8) : ∀ (l : List UInt8) (n : Nat), nv most n (l ++ [c]) = (nv most n l).bind (fun m => nv most m [c])
  | [], n => by simp [nv]
  | d :: l, n => by
    simp only [List.cons_append, nv]
    split
    · rfl
    · split
      · rfl
      · exact nv_snoc most c l _
theorem u8_of {c : UInt8} {k : Nat} (h : c.toNat = k) (hk : k < 256) : c = UInt8.ofNat k := by
  apply UInt8.toNat_inj.1
  rw [h, UInt8.toNat_ofNat_of_lt' (by show k < 256; exact hk)]
theorem dd_step {m n d : Nat} (hn : 1 ≤ n) (hd : d < 10) (h : m = 10 * n + d) : Lib.decDigits m = Lib.decDigits n ++ [UInt8.ofNat (48 + d)] := by
  rw [Lib.decDigits, dif_neg (by omega), show m / 10 = n by omega, show m % 10 = d by omega]
theorem nv_dd (most : Nat) : ∀ (l : List UInt8) (n v : Nat), 1 ≤ n → nv most n l = some v → Lib.decDigits v = Lib.decDigits n ++ l ∧ (n ≤ most → v ≤ most)
  | [], n, v, hn, h => by
    simp only [nv, Option.some.injEq] at h
    subst h
    simp
  | c :: l, n, v, hn, h => by
    simp only [nv] at h
    split at h
    · cases h
    · split at h
      · cases h
      · rename_i h1 h2
        have ih := nv_dd most l _ v (by omega) h
        rw [ih.1, dd_step hn (d := c.toNat - 48) (by omega) rfl, show 48 + (c.toNat - 48) = c.toNat by omega, ← u8_of rfl (UInt8.toNat_lt c)]
        exact ⟨by simp, fun _ => ih.2 (by omega)⟩
/-- What is told has just this text. -/
theorem num_dd {most : Nat} {l : List UInt8} {v : Nat} (h : numV most l = some v) : l = Lib.decDigits v ∧ v ≤ most := by
  match l, h with
  | c :: l, h =>
    simp only [numV] at h
    split at h
    · cases h
    · rename_i h0
      simp only [nv] at h
      split at h
      · cases h
      · split at h
        · cases h
        · rename_i h1 h2
          by_cases z : c = 48
          · have hl : l = [] := by
              by_cases e : l = []
              · exact e
              · exact absurd ⟨z, e⟩ h0
            subst hl; subst z
            have hv : v = 0 := by simpa [nv] using h.symm
            subst hv
            refine ⟨?_, Nat.zero_le _⟩
            rw [Lib.decDigits_one (by decide)]
            rfl
          · have z' : c.toNat ≠ 48 := fun e => z (by have := u8_of e (by omega); rw [this]; rfl)
            have k := nv_dd most l _ v (by omega) h
            rw [k.1, Lib.decDigits_one (by omega), show 48 + (10 * 0 + (c.toNat - 48)) = c.toNat by omega, ← u8_of rfl (UInt8.toNat_lt c)]
            exact ⟨rfl, k.2 (by omega)⟩
theorem u8_to {d : Nat} (hd : d < 10) : (UInt8.ofNat (48 + d)).toNat = 48 + d := by
  rw [UInt8.toNat_ofNat_of_lt' (by show 48 + d < 256; omega)]
theorem dd_nv {most : Nat} : ∀ (k v : Nat), v < 10 ^ (k + 1) → v ≤ most → 1 ≤ v → nv most 0 (Lib.decDigits v) = some v ∧ ∃ c l, Lib.decDigits v = c :: l ∧ c ≠ 48
  | k, v, hk, hv, h1 => by
    by_cases c : v < 10
    · rw [Lib.decDigits_one c]
      refine ⟨?_, _, _, rfl, fun e => ?_⟩
      · simp only [nv]
        rw [u8_to c, if_neg (by omega), if_neg (by omega)]
        simp
      · have := u8_to c
        rw [e] at this
        simp at this
        omega
    · match k, hk with
      | 0, hk => simp at hk; omega
      | k + 1, hk =>
        have ih := dd_nv (most := most) k (v / 10) (by rw [Nat.div_lt_iff_lt_mul (by omega)]; rw [Nat.pow_succ] at hk; exact hk) (by omega) (by omega)
        rw [dd_step (n := v / 10) (d := v % 10) (by omega) (by omega) (by omega), nv_snoc, ih.1]
        obtain ⟨c, l, e, ne⟩ := ih.2
        refine ⟨?_, c, l ++ [UInt8.ofNat (48 + v % 10)], by rw [e]; rfl, ne⟩
        simp only [nv, Option.bind_some]
        rw [u8_to (d := v % 10) (by omega), if_neg (by omega), if_neg (by omega)]
        congr 1; omega
/-- .. and each number's text is told. -/
theorem dd_num {most v : Nat} (h : v ≤ most) : numV most (Lib.decDigits v) = some v := by
  by_cases z : v = 0
  · subst z
    rw [Lib.decDigits_one (by decide)]
    simp [numV, nv]
  · have lt : v < 10 ^ (v + 1) := Nat.lt_of_lt_of_le (Nat.lt_pow_self (by decide)) (Nat.pow_le_pow_right (by decide) (Nat.le_succ v))
    obtain ⟨h1, c, l, e, ne⟩ := dd_nv v v lt h (by omega)
    rw [e] at h1 ⊢
    simp only [numV]
    rw [if_neg (fun k => ne k.1)]
    exact h1
theorem get_at {s : ByteArray} {i : Nat} (h : i < s.size) : s.get! i = s.data.toList[i]'(by simpa using h) := by
  rw [Array.getElem_toList]
  show s.data[i]! = _
  rw [getElem!_pos s.data i (by simpa using h)]
theorem size_list (s : ByteArray) : s.data.toList.length = s.size := by rw [Array.length_toList]; rfl
end Go.Proofs.YtdgonpbponnnaaaDoor
namespace Go.Proofs.YtdgonpbponnnaaaDoor
open Go.RowKit
set_option linter.unusedVariables false
set_option maxRecDepth 100000
set_option linter.unusedSimpArgs false

/-- The greatest number of forty limbs. -/
def M40 : Nat := 65536 ^ 40 - 1
theorem m40_lt (n : Nat) : n ≤ M40 ↔ n < 65536 ^ 40 := by
  have h : 0 < 65536 ^ 40 := Nat.pow_pos (by decide)
  unfold M40
  generalize 65536 ^ 40 = m at *
  omega
def rbN (l : List UInt8) : Bool := match l with | [] => false | c :: _ => c == 45
def rbD (l : List UInt8) : List UInt8 := match l with | [] => [] | c :: t => if c = 45 then t else c :: t
def rbM (l : List UInt8) : Nat := (numV M40 (rbD l)).getD 0
/-- Whether a text is told, and its number. -/
def rbB (l : List UInt8) : Bool := (numV M40 (rbD l)).isSome && !(rbN l && decide (rbM l = 0))
def rbV (l : List UInt8) : Int := if rbB l = true then (if rbN l = true then -(rbM l : Int) else (rbM l : Int)) else 0
theorem rbD_len (l : List UInt8) : (rbD l).length ≤ l.length := by
  match l with
  | [] => simp [rbD]
  | c :: t =>
    show (if c = 45 then t else c :: t).length ≤ _
    split <;> simp
theorem rb_neg {l : List UInt8} (h : rbN l = true) : l = 45 :: rbD l := by
  match l, h with
  | c :: t, h =>
    have e : c = 45 := by unfold rbN at h; exact eq_of_beq h
    subst e
    rfl
theorem rb_pos {l : List UInt8} (h : rbN l = false) : rbD l = l := by
  match l, h with
  | [], _ => rfl
  | c :: t, h =>
    have e : ¬ c = 45 := by unfold rbN at h; intro k; subst k; simp at h
    show (if c = 45 then t else c :: t) = _
    rw [if_neg e]
theorem nm_40 {zs : List Int} {V : Nat} (h : Nm zs (V : Int)) : zs.length ≤ 40 ↔ V ≤ M40 := by
  rw [m40_lt]
  have c : ((65536 ^ 40 : Nat) : Int) = (65536 : Int) ^ 40 := by rw [Int.natCast_pow]; rfl
  constructor
  · intro hl
    have a := val_lt h.ok
    have b := pow_mono hl
    rw [h.v] at a
    have d : (V : Int) < ((65536 ^ 40 : Nat) : Int) := by rw [c]; exact Int.lt_of_lt_of_le a b
    exact Int.ofNat_lt.1 d
  · intro hv
    by_cases hl : zs.length ≤ 40
    · exact hl
    · have a := top_le h.ok h.tr (by omega)
      have b := pow_mono (show 40 ≤ zs.length - 1 by omega)
      rw [h.v] at a
      have d : ((65536 ^ 40 : Nat) : Int) ≤ (V : Int) := by rw [c]; exact Int.le_trans b a
      have d2 := Int.ofNat_le.1 d
      exact absurd hv (Nat.not_lt.2 d2)
theorem p40 : 65536 ^ 40 ≤ 10 ^ 193 := by decide
theorem rbD_200 {l : List UInt8} {V : Nat} (h : numV M40 (rbD l) = some V) : 1 ≤ (rbD l).length ∧ (rbD l).length ≤ 200 ∧ V ≤ M40 ∧ rbD l = Lib.decDigits V := by
  have n := num_dd h
  have v := (m40_lt V).1 n.2
  have d := dd_len 192 V (Nat.lt_of_lt_of_le v p40)
  refine ⟨?_, ?_, n.2, n.1⟩
  · rw [n.1]; exact dd_pos16 V
  · rw [n.1]; omega
theorem dd_zero_iff (V : Nat) (c : UInt8) (t : List UInt8) (h : Lib.decDigits V = c :: t) (hV : V ≠ 0) : c ≠ 48 := by
  obtain ⟨_, c', l, e, ne⟩ := dd_nv (most := V) V V (Nat.lt_of_lt_of_le (Nat.lt_pow_self (by decide)) (Nat.pow_le_pow_right (by decide) (Nat.le_succ V))) (Nat.le_refl _) (by omega)
  rw [e] at h
  cases h
  exact ne
/-- Digits read on without a bound. -/
def dgN : Nat → List UInt8 → Option Nat
  | n, [] => some n
  | n, c :: cs => if c.toNat < 48 ∨ 57 < c.toNat then none else dgN (10 * n + (c.toNat - 48)) cs
theorem dgN_nv (most : Nat) : ∀ (l : List UInt8) (n v : Nat), nv most n l = some v → dgN n l = some v
  | [], n, v, h => h
  | c :: l, n, v, h => by
    simp only [nv] at h
    simp only [dgN]
    split at h
    · cases h
    · rename_i h0
      rw [if_neg h0]
      split at h
      · cases h
      · exact dgN_nv most l _ _ h
/-- The specification's look: all digits, not too long, and its text the text itself. -/
theorem rb_iff {l : List UInt8} {W : Nat} (hd : dgN 0 (rbD l) = some W) (hn : rbD l ≠ []) :
    rbB l = (decide (W ≤ M40) && decide (txV (rbN l && decide (W ≠ 0)) W = l)) ∧ (rbB l = true → rbM l = W) := by
  have key : ∀ V, numV M40 (rbD l) = some V → V = W := fun V h => by
    match hD : rbD l, h with
    | c :: t, h =>
      simp only [numV] at h
      split at h
      · cases h
      · have := dgN_nv M40 _ _ _ h
        rw [← hD, hd] at this
        exact (Option.some.inj this).symm
  have back : W ≤ M40 → rbD l = Lib.decDigits W → numV M40 (rbD l) = some W := fun h1 h2 => by rw [h2]; exact dd_num h1
  have M : ∀ V, numV M40 (rbD l) = some V → rbM l = V := fun V h => by unfold rbM; rw [h]; rfl
  refine ⟨?_, fun h => ?_⟩
  · cases hN : numV M40 (rbD l) with
    | none =>
      have L : rbB l = false := by unfold rbB; rw [hN]; rfl
      rw [L]
      symm
      rw [Bool.and_eq_false_iff]
      by_cases c : W ≤ M40
      · right
        apply decide_eq_false
        intro e
        have nb := back c
        rw [hN] at nb
        apply absurd nb
        intro k
        refine absurd (k ?_) (by simp)
        cases s : rbN l
        · rw [s] at e
          rw [rb_pos s]
          exact e.symm
        · have p := rb_neg s
          rw [s] at e
          by_cases z : W = 0
          · subst z
            exfalso
            rw [p] at e
            simp [txV, dd_zero16] at e
          · rw [p] at e
            simp only [txV, decide_eq_true (show W ≠ 0 from z), Bool.and_self, if_true] at e
            exact (List.cons.inj e).2.symm
      · left; exact decide_eq_false c
    | some V =>
      obtain rfl := key V hN
      have f := rbD_200 hN
      have mv := M V hN
      unfold rbB
      rw [hN, mv, decide_eq_true f.2.2.1]
      simp only [Option.isSome_some, Bool.true_and]
      cases s : rbN l
      · have p := rb_pos s
        simp only [Bool.false_and, Bool.not_false]
        symm
        apply decide_eq_true
        rw [p] at f
        exact f.2.2.2.symm
      · have p := rb_neg s
        by_cases z : V = 0
        · subst z
          simp only [Bool.true_and, decide_true, Bool.not_true]
          symm
          apply decide_eq_false
          intro e
          rw [p] at e
          simp [txV, dd_zero16] at e
        · simp only [Bool.true_and, decide_eq_false z, Bool.not_false]
          symm
          apply decide_eq_true
          rw [decide_eq_true (show V ≠ 0 from z)]
          show 45 :: Lib.decDigits V = l
          rw [← f.2.2.2]
          exact p.symm
  · unfold rbB at h
    have h1 := (Bool.and_eq_true _ _).mp h
    obtain ⟨V, hV⟩ := Option.isSome_iff_exists.1 h1.1
    rw [M V hV, key V hV]
/-- A text with a sign that is no digit. -/
theorem rb_none {l : List UInt8} (h : dgN 0 (rbD l) = none ∨ rbD l = [] ∨ 200 < (rbD l).length) : rbB l = false := by
  unfold rbB
  cases hN : numV M40 (rbD l) with
  | none => rfl
  | some V =>
    exfalso
    have f := rbD_200 hN
    rcases h with h | h | h
    · match hD : rbD l, hN with
      | c :: t, hN =>
        simp only [numV] at hN
        split at hN
        · cases hN
        · have := dgN_nv M40 _ _ _ hN
          rw [← hD, h] at this
          cases this
    · rw [h] at f; simp at f
    · omega
theorem dgN_snoc (c : UInt8) : ∀ (l : List UInt8) (n : Nat), dgN n (l ++ [c]) = (dgN n l).bind (fun m => dgN m [c])
  | [], n => by simp [dgN]
  | d :: l, n => by
    simp only [List.cons_append, dgN]
    split
    · rfl
    · exact dgN_snoc c l _
theorem dgN_bad {l : List UInt8} {i : Nat} (hi : i < l.length) (h : ¬ (48 ≤ l[i].toNat ∧ l[i].toNat ≤ 57)) : ∀ n, dgN n l = none := by
  induction l generalizing i with
  | nil => simp at hi
  | cons d l ih =>
    intro n
    simp only [dgN]
    cases i with
    | zero =>
      rw [if_pos (by simp at h; omega)]
    | succ j =>
      split
      · rfl
      · exact ih (i := j) (by simpa using hi) (by simpa using h) _
end Go.Proofs.YtdgonpbponnnaaaDoor
namespace Go.Proofs.YtdgonpbponnnaaaDoor
open Go.RowKit
set_option linter.unusedVariables false
set_option maxRecDepth 100000
set_option linter.unusedSimpArgs false

structure RwI (B : Nat) (w : World) (v : Value) (L : List Int) : Prop where
  row : w.ownsRow B 3 1 v L.length (L.map (Value.int .i64))
theorem owns_laterR {B k : Nat} {t : TypeId} {w w' : World} {v : Value} {n : Nat} {xs : List Value} (h : w.ownsRow B t k v n xs) (hb : Below w.heap.size w w') : w'.ownsRow B t k v n xs := by
  refine ⟨h.1, ?_⟩
  rcases h.2 with h' | ⟨g', cap, cur, hv, h1, hg, r⟩
  · exact .inl h'
  · refine .inr ⟨g', cap, cur, hv, h1, ?_, r⟩
    rw [hb.block g' (Array.getElem?_eq_some_iff.1 hg).1]
    exact hg
theorem owns_belowR {B k : Nat} {t : TypeId} {W wr w1 : World} {o : Obj} {v : Value} {n : Nat} {xs : List Value} (hb : Below B W wr) (hB : B ≤ wr.heap.size) (hown : wr.ownsRow B t k v n xs) (hg : (wr.alloc o).grownBy w1 v.ownBlock) : Below B W w1 := by
  refine (hb.alloc hB o).grown hg (by simp; omega) (fun k hk => ?_)
  rcases hown.2 with ⟨h', _⟩ | ⟨g', cap, cur, hv, h1, _⟩
  · subst h'; simp [Value.ownBlock] at hk
  · subst hv; simp [Value.ownBlock] at hk; subst hk; exact h1
theorem RwI.later {B : Nat} {w w' : World} {v : Value} {L : List Int} (h : RwI B w v L) (hb : Below w.heap.size w w') : RwI B w' v L := ⟨owns_laterR h.row hb⟩
theorem RwI.nil (B : Nat) (w : World) : RwI B w (.slice none 0 0) [] := ⟨rfl, .inl ⟨rfl, rfl⟩⟩
theorem RwI.mono {B B' : Nat} {w : World} {v : Value} {L : List Int} (h : RwI B w v L) (hb : B' ≤ B) : RwI B' w v L := ⟨owns_mono h.row hb⟩
theorem RwI.open {B : Nat} {w : World} {v : Value} {L : List Int} (h : RwI B w v L) :
    (v = .slice none 0 0 ∧ L = []) ∨ ∃ g c, v = .slice (some ⟨g, 0, none⟩) L.length c ∧ B ≤ g ∧ g < w.heap.size ∧ L.length ≤ c ∧ c ≤ maxLen ∧ ∀ i (h : i < L.length), w.cell? ⟨g, i, none⟩ = some (.int .i64 L[i]) := by
  rcases h.row.2 with h' | ⟨g, c, cur, hv, h1, hg, h2, h3, h4, h5⟩
  · exact .inl ⟨h'.1, List.length_eq_zero_iff.1 h'.2⟩
  · have ho := h.row
    rw [hv] at ho
    refine .inr ⟨g, c, hv, h1, (Array.getElem?_eq_some_iff.1 hg).1, h2, h3, fun i hi => ?_⟩
    rw [ho.cellAt _ (by omega)]
    simp [hi]
theorem RwI.sl {B : Nat} {w : World} {v : Value} {L : List Int} (h : RwI B w v L) : ∃ a c, v = .slice a L.length c ∧ Sl w a L := by
  rcases h.open with ⟨rfl, rfl⟩ | ⟨g, c, rfl, h1, h2, h3, h4, h5⟩
  · exact ⟨none, 0, rfl, .inl rfl⟩
  · exact ⟨_, c, rfl, .inr ⟨g, 0, rfl, h2, fun i hi => by simpa [hi] using h5 i hi⟩⟩
theorem new_cellI (w : World) (x : Int) : ∀ j u, [Value.int .i64 x][j]? = some u → (w.alloc (.cells #[.int .i64 x] 3)).cell? ((⟨w.heap.size, 0, none⟩ : Addr).add j) = some u := by
  intro j u h
  match j, h with
  | 0, h => simp at h; subst h; simp [Addr.add, go_sem]
  | j + 1, h => simp at h
theorem RwI.snoc {B : Nat} {w : World} {v : Value} {L : List Int} {x : Int} (h : w.ownsRow B 3 1 v (L.length + 1) (L.map (Value.int .i64) ++ [.int .i64 x])) : RwI B w v (L ++ [x]) := ⟨by rw [List.map_append, List.length_append]; exact h⟩
theorem RwI.blk {B : Nat} {w : World} {v : Value} {L : List Int} (h : RwI B w v L) : ∀ k, v.ownBlock = some k → B ≤ k := by
  rcases h.open with ⟨rfl, _⟩ | ⟨g, c, rfl, hB, _⟩
  · intro k hk; simp [Value.ownBlock] at hk
  · intro k hk; simp [Value.ownBlock] at hk; subst hk; exact hB
theorem RwI.put15 {B g c : Nat} {w : World} {L : List Int} (h : RwI B w (.slice (some ⟨g, 0, none⟩) L.length c) L) (k : Nat) (x : Int) : RwI B (w.setCell ⟨g, k, none⟩ (.int .i64 x)) (.slice (some ⟨g, 0, none⟩) L.length c) (L.set k x) := by
  refine ⟨?_⟩
  rw [List.map_set, List.length_set]
  exact (World.ownsRow.stored h.row k (.int .i64 x)).1
end Go.Proofs.YtdgonpbponnnaaaDoor
namespace Go.Proofs.YtdgonpbponnnaaaDoor
open Go.RowKit
set_option linter.unusedVariables false
set_option maxRecDepth 100000
set_option linter.unusedSimpArgs false

theorem set_mid16 {zs L : List Int} {i : Nat} (h : zs.length = i) (hi : i < L.length) (t : Int) : (zs ++ L.drop i).set i t = (zs ++ [t]) ++ L.drop (i + 1) := by
  rw [List.set_append_right i t (by omega), h, Nat.sub_self, List.drop_eq_getElem_cons hi, List.set_cons_zero]
  simp
theorem acc_ten {zs L : List Int} {i : Nat} {cy d : Int} (h : Acc zs i cy (10 * val (L.take i) + d)) (hi : i < L.length) : Acc (zs ++ [(cy + L.getD i 0 * 10) % 65536]) (i + 1) ((cy + L.getD i 0 * 10) / 65536) (10 * val (L.take (i + 1)) + d) := by
  refine (h.step (cy + L.getD i 0 * 10)).cast ?_
  rw [val_take_succ]
  have e : cy + L.getD i 0 * 10 - cy = 10 * L.getD i 0 := by omega
  rw [e, Int.mul_left_comm, Int.mul_add]
  omega
set_option maxHeartbeats 4000000 in
theorem putI16 (B : Nat) (v : Value) (L : List Int) (d : Int) (w : World) (h : RwI B w v L) (ox : okL L) (hd : 0 ≤ d ∧ d ≤ 9) (h1 : L.length ≤ 1000) (hBw : B ≤ w.heap.size) :
    Calls Tryd.prog 44 #[v, .int .i64 d] w fun e w' => ∃ v' L', e = .returned v' ∧ RwI B w' v' L' ∧ okL L' ∧ val L' = 10 * val L + d ∧ (L'.length = L.length ∨ ∃ zs cy, L' = zs ++ [cy] ∧ cy ≠ 0) ∧ L'.length ≤ L.length + 1 ∧ Below B w w' := by
  obtain ⟨i0, hi0, hz0, hz1, hz2⟩ := info_parts Tryd.info3
  have HR := hide h
  have OX := hide ox
  have HB := hide (Below.refl B w)
  obtain ⟨a, c, rfl, _⟩ := h.sl
  obtain ⟨n, hn⟩ : ∃ n, n = L.length := ⟨_, rfl⟩
  have HN := hide hn
  rw [← hn] at h1 HR ⊢
  clear h ox hn
  go_enter Tryd.func44, Tryd.ntmps44
  go_wp2
  go_loopw [5, 11] (fun cv iv wr => ∃ (i : Nat) (cy : Int) (zs : List Int), i ≤ n ∧ iv = .int .i64 i ∧ cv = .int .i64 cy ∧ 0 ≤ cy ∧ cy ≤ 9 ∧ Hid (Acc zs i cy (10 * val (L.take i) + d)) ∧ Hid (RwI B wr (.slice a n c) (zs ++ L.drop i)) ∧ Hid (Below B w wr)) (fun _ iv _ => n - (intOf iv).toNat)
  case atStart => exact ⟨0, d, [], Nat.zero_le _, rfl, rfl, hd.1, hd.2, hide ⟨rfl, okL_nil, by simp [val]⟩, HR, HB⟩
  case round =>
    clear HR HB
    obtain ⟨i, cy, zs, hi, rfl, rfl, c0, c1, HA, HR, HB⟩ := hrel
    by_cases hlt : i < n
    · have hlt' : (i : Int) < (n : Int) := by omega
      have zl := (unhide HA).len
      have ln := unhide HN
      have ll : (zs ++ L.drop i).length = n := by rw [List.length_append, List.length_drop, zl]; omega
      rcases (unhide HR).open with ⟨_, e⟩ | ⟨g, c', ev, hB, hg, _, _, hc⟩
      · rw [e] at ll; simp at ll; omega
      rw [ll] at ev
      cases ev
      have e0 := hc i (by omega)
      rw [List.getElem_append_right (by omega)] at e0
      have ex : (L.drop i)[i - zs.length]'(by rw [List.length_drop, zl]; omega) = L.getD i 0 := by simp [zl, List.getD, show i < L.length by omega]
      rw [ex] at e0
      have xb := okL_get (unhide OX) i
      have AC := hide (acc_ten (unhide HA) (show i < L.length by omega))
      have RN : Hid (RwI B (wr.setCell ⟨g, i, none⟩ (.int .i64 ((cy + L.getD i 0 * 10) % 65536))) (.slice (some ⟨g, 0, none⟩) n c) (zs ++ [(cy + L.getD i 0 * 10) % 65536] ++ L.drop (i + 1))) := hide (by
        have h := unhide HR
        rw [← ll] at h
        have k := h.put15 i ((cy + L.getD i 0 * 10) % 65536)
        rw [ll, set_mid16 zl (by omega)] at k
        exact k)
      have fr : ∀ o, wr.frozen? ⟨g, o, none⟩ = false := fun o => by have h := (unhide HR).row; rw [ll] at h; exact h.frozenAt o
      generalize L.getD i 0 = x at *
      have w1 : IntKind.i64.wrap (x * 10) = x * 10 := by rw [IntKind.wrap_i64]; omega
      have w2 : IntKind.i64.wrap (cy + x * 10) = cy + x * 10 := by rw [IntKind.wrap_i64]; omega
      have am := and_mask (cy + x * 10)
      have HB2 := hide ((unhide HB).setCell (p := ⟨g, i, none⟩) hB (.int .i64 ((cy + x * 10) % 65536)))
      have d0 : 0 ≤ (cy + x * 10) / 65536 := by omega
      have d9 : (cy + x * 10) / 65536 ≤ 9 := by omega
      clear hc HR HA HB ll zl ln ex
      go_wp2
      go_roundw
      case rel => exact ⟨i + 1, (cy + x * 10) / 65536, zs ++ [(cy + x * 10) % 65536], by omega, by go_num, by go_num, d0, d9, AC, RN, HB2⟩
      case measure => simp [intOf]; omega
    · obtain rfl : i = n := by omega
      have ln := unhide HN
      have e1 : zs ++ L.drop i = zs := by rw [List.drop_of_length_le (by omega), List.append_nil]
      have e2 : L.take i = L := List.take_of_length_le (by omega)
      rw [e1] at HR
      rw [e2] at HA
      have av := (unhide HA).v
      have al := (unhide HA).len
      have hsz := (unhide HB).size
      clear e1 e2
      by_cases c2 : cy = 0
      · subst c2
        rw [Int.mul_zero, Int.add_zero] at av
        have AV := hide av
        have AL := hide al
        clear av al ln
        go_wp2
        go_ret
        exact ⟨_, zs, rfl, unhide HR, (unhide HA).ok, unhide AV, .inl (by have := unhide AL; have := unhide HN; omega), by have := unhide AL; omega, unhide HB⟩
      · have c3 : 0 < cy := by omega
        have AV : Hid (val (zs ++ [cy]) = 10 * val L + d) := hide (by rw [val_snoc, al]; exact av)
        have AO : Hid (okL (zs ++ [cy])) := hide (okL_append (unhide HA).ok (okL_one (by omega) (by omega)))
        have AL := hide al
        have RA := hide ((unhide HR).row)
        clear av ln
        go_wp2_with (at_builtin; refine wpList_append_own _ rfl (.tmp 30) (.tmp 32) 23 rfl B 3 i0 (.int .i64 0) 1 8 Tryd.underlying23 hi0 hz0 hz1 hz2 rfl (by decide) _ _ _ rfl ((unhide RA).alloc _) ⟨_, 0, none⟩ 1 1 [.int .i64 cy] rfl rfl (new_cellI _ _) (fun u hu => by simp at hu; subst hu; rfl) (by unfold maxLen; omega) (by omega) (by simp; omega) ?_)
        intro v' w7 hown hgr _
        have HO : Hid (RwI B w7 v' (zs ++ [cy])) := hide (RwI.snoc (by rw [unhide AL]; exact hown))
        have PB := hide (owns_belowR (unhide HB) (by omega) (unhide RA) hgr)
        clear hown hgr RA al
        go_wp2
        go_ret
        exact ⟨_, zs ++ [cy], rfl, unhide HO, unhide AO, unhide AV, .inr ⟨zs, cy, rfl, c2⟩, by have := unhide AL; simp; omega, unhide PB⟩
end Go.Proofs.YtdgonpbponnnaaaDoor
namespace Go.Proofs.YtdgonpbponnnaaaDoor
open Go.RowKit
set_option linter.unusedVariables false
set_option maxRecDepth 100000
set_option linter.unusedSimpArgs false

/-- By a goto to one of two labels: what holds there; else as Q. -/
def two16 (l0 l1 : Nat) (J0 J1 : Act → World → Prop) (Q : Exit → Act → World → Prop) : Exit → Act → World → Prop
  | .goto l, a, w => (l = l0 ∧ J0 a w) ∨ (l = l1 ∧ J1 a w)
  | e, a, w => Q e a w
/-- A scope with two labels: behind the first one there is no jump, behind the second one a measure falls. -/
theorem wp_scope_two16 {P : Program} {a : Act} {w : World} {Q : Exit → Act → World → Prop} {c r0 r1 : Code} (l0 l1 : Nat) (J0 J1 : Act → World → Prop) (μ : Act → World → Nat) (h0 : findLabel c l0 = some r0) (h1 : findLabel c l1 = some (Code.skip.seq r1))
    (first : (∀ a w, J1 a w → r1.wp P (two16 l0 l1 J0 J1 Q) a w) → c.wp P (two16 l0 l1 J0 J1 Q) a w)
    (pass0 : ∀ a w, J0 a w → r0.wp P (Exit.noGoto Q) a w)
    (pass1 : ∀ a w, J1 a w → r1.wp P (two16 l0 l1 J0 (fun a' w' => J1 a' w' ∧ μ a' w' < μ a w) Q) a w) : (Code.scope c).wp P Q a w := by
  have pass1s : ∀ a w, J1 a w → (Code.skip.seq r1).wp P (two16 l0 l1 J0 (fun a' w' => J1 a' w' ∧ μ a' w' < μ a w) Q) a w := fun a w h => wp_seq (wp_skip (pass1 a w h))
  intro b k cs
  have g0 : gotoIn l0 (.inScope c :: k) = some (.code r0 :: .inScope c :: k) := by simp [gotoIn, h0]
  have g1 : gotoIn l1 (.inScope c :: k) = some (.code (Code.skip.seq r1) :: .inScope c :: k) := by simp [gotoIn, h1]
  have key0 : ∀ a w, J0 a w → ∃ e a' w', Q e a' w' ∧ Arrives P (lone (b.at a (.code r0 :: .inScope c :: k)) cs w) b k cs e a' w' := by
    intro a w hJ
    obtain ⟨e, a₁, w₁, hq, harr⟩ := pass0 a w hJ b (.inScope c :: k) cs
    cases e with
    | normal => exact ⟨.normal, a₁, w₁, hq, Steps.trans harr (.one step_inScope)⟩
    | exit id => exact ⟨.exit id, a₁, w₁, hq, fun k' hk => harr k' (by simp [exitTo, hk])⟩
    | goto l' => exact hq.elim
    | ret => exact ⟨_, a₁, w₁, hq, harr⟩
    | panic ch => exact ⟨_, a₁, w₁, hq, harr⟩
    | outgrown => exact ⟨_, a₁, w₁, hq, harr⟩
  have key1 : ∀ n a w, μ a w = n → J1 a w → ∃ e a' w', Q e a' w' ∧ Arrives P (lone (b.at a (.code (Code.skip.seq r1) :: .inScope c :: k)) cs w) b k cs e a' w' := by
    intro n
    induction n using Nat.strongRecOn with
    | _ n ih =>
      intro a w hn hJ
      obtain ⟨e, a₁, w₁, hq, harr⟩ := pass1s a w hJ b (.inScope c :: k) cs
      cases e with
      | normal => exact ⟨.normal, a₁, w₁, hq, Steps.trans harr (.one step_inScope)⟩
      | exit id => exact ⟨.exit id, a₁, w₁, hq, fun k' hk => harr k' (by simp [exitTo, hk])⟩
      | goto l' =>
        rcases hq with ⟨rfl, hJ'⟩ | ⟨rfl, hJ', hlt⟩
        · obtain ⟨e₂, a₂, w₂, hq₂, harr₂⟩ := key0 a₁ w₁ hJ'
          exact ⟨e₂, a₂, w₂, hq₂, .of_steps (harr _ g0) harr₂⟩
        · obtain ⟨e₂, a₂, w₂, hq₂, harr₂⟩ := ih _ (by omega) a₁ w₁ rfl hJ'
          exact ⟨e₂, a₂, w₂, hq₂, .of_steps (harr _ g1) harr₂⟩
      | ret => exact ⟨_, a₁, w₁, hq, harr⟩
      | panic ch => exact ⟨_, a₁, w₁, hq, harr⟩
      | outgrown => exact ⟨_, a₁, w₁, hq, harr⟩
  obtain ⟨e, a₁, w₁, hq, harr⟩ := first (fun a w h => wp_mono (pass1 a w h) (fun e a' w' q => by
    cases e with
    | goto l' =>
      rcases q with q | ⟨q1, q2, _⟩
      · exact .inl q
      · exact .inr ⟨q1, q2⟩
    | _ => exact q)) b (.inScope c :: k) cs
  cases e with
  | normal => exact ⟨.normal, a₁, w₁, hq, .head step_scope (Steps.trans harr (.one step_inScope))⟩
  | exit id => exact ⟨.exit id, a₁, w₁, hq, fun k' hk => .head step_scope (harr k' (by simp [exitTo, hk]))⟩
  | goto l' =>
    rcases hq with ⟨rfl, hJ'⟩ | ⟨rfl, hJ'⟩
    · obtain ⟨e₂, a₂, w₂, hq₂, harr₂⟩ := key0 a₁ w₁ hJ'
      exact ⟨e₂, a₂, w₂, hq₂, .of_steps (.head step_scope (harr _ g0)) harr₂⟩
    · obtain ⟨e₂, a₂, w₂, hq₂, harr₂⟩ := key1 _ a₁ w₁ rfl hJ'
      exact ⟨e₂, a₂, w₂, hq₂, .of_steps (.head step_scope (harr _ g1)) harr₂⟩
  | ret => exact ⟨_, a₁, w₁, hq, .of_steps (.one step_scope) harr⟩
  | panic ch => exact ⟨_, a₁, w₁, hq, .of_steps (.one step_scope) harr⟩
  | outgrown => exact ⟨_, a₁, w₁, hq, .of_steps (.one step_scope) harr⟩
theorem nm_put16 {L L' : List Int} {n d : Nat} (h : Nm L (n : Int)) (ok : okL L') (hv : val L' = 10 * val L + (d : Int)) (hl : L'.length = L.length ∨ ∃ zs cy, L' = zs ++ [cy] ∧ cy ≠ 0) : Nm L' ((10 * n + d : Nat) : Int) := by
  refine ⟨ok, ?_, by rw [hv, h.v]; omega⟩
  rcases hl with e | ⟨zs, cy, rfl, hc⟩
  · by_cases z : L.length = 0
    · have : L' = [] := List.length_eq_zero_iff.1 (by omega)
      rw [this]; rfl
    · have t := top_le h.ok h.tr (by omega)
      have v := h.v
      exact trim_of_top ok (by omega) (by rw [e]; omega)
  · exact trim_snoc_ne zs hc
/-- The answer: a number of forty limbs at most, and whether it is told. -/
def OutRB (w : World) (V : Int) (b : Bool) (e : Ending) (w' : World) : Prop :=
  ∃ a n c zs, e = .returned (.tuple #[.agg #[.bool (decide (V < 0)), .slice a n c], .bool b]) ∧ Below w.heap.size w w' ∧ Own w.heap.size w' a zs ∧ Arg w' a n c zs ∧ Nm zs V.natAbs ∧ n ≤ 40
theorem outRB_of {w w2 : World} {a : Option Addr} {n c : Nat} {ts : List Int} {s : Nat} {U V : Int} {g : Bool} (hs : w.heap.size ≤ s) (hb : Below w.heap.size w w2) (ho : Own (s + 1) w2 a ts) (ha : Arg w2 a n c ts) (hn : Nm ts U) (hV : V = if g then -U else U) (hl : n ≤ 40) (v v' : Value) :
    OutRB w V true (.returned (.tuple #[.agg #[.bool (sd g U), .slice a n c], .bool true])) ((w2.setCell ⟨s, 0, none⟩ v).setCell ⟨s, 1, none⟩ v') := by
  obtain ⟨f1, f2, f3⟩ := fin_set hs hb ho ha v v'
  refine ⟨a, n, c, ts, by rw [hV]; rfl, f1, f2, f3, ?_, hl⟩
  rw [natAbs_sign hn.nonneg hV]
  exact hn
theorem outRB_no {w w2 : World} {s : Nat} (hs : w.heap.size ≤ s) (hb : Below w.heap.size w w2) (v v' : Value) :
    OutRB w 0 false (.returned (.tuple #[.agg #[.bool false, .slice none 0 0], .bool false])) ((w2.setCell ⟨s, 0, none⟩ v).setCell ⟨s, 1, none⟩ v') :=
  ⟨none, 0, 0, [], rfl, (hb.setCell hs _).setCell hs _, .inl rfl, Arg.none _, Nm.zero, by omega⟩
theorem rb_end {l : List UInt8} {n : Nat} (h : numV M40 (rbD l) = some n) (hc : rbN l = true → n ≠ 0) : rbB l = true ∧ rbV l = if rbN l then -(n : Int) else (n : Int) := by
  have M : rbM l = n := by unfold rbM; rw [h]; rfl
  have B : rbB l = true := by
    unfold rbB
    rw [h, M]
    cases s : rbN l
    · rfl
    · simp [hc s]
  refine ⟨B, ?_⟩
  unfold rbV
  rw [if_pos B, M]
theorem rb_no {l : List UInt8} (h : rbB l = false) : rbV l = 0 := by unfold rbV; rw [h]; rfl
theorem rbD_trim (l : List UInt8) : Lib.trimPrefix l [45] = rbD l := by
  match l with
  | [] => rfl
  | c :: t =>
    show (if Lib.hasPrefix (c :: t) [45] = true then _ else _) = if c = 45 then t else c :: t
    by_cases h : c = 45
    · subst h
      rw [if_pos rfl]
      simp [Lib.hasPrefix]
    · rw [if_neg h]
      have : Lib.hasPrefix (c :: t) [45] = false := by
        rw [Bool.eq_false_iff]
        intro k
        unfold Lib.hasPrefix at k
        simp at k
        exact h k.symm
      rw [this]
      simp
/-- An empty row that was just laid. -/
theorem emptyR16 (w : World) : RwI w.heap.size (w.alloc (.cells #[] 3)) (.slice (some ⟨w.heap.size, 0, none⟩) 0 0) [] := by
  refine ⟨⟨rfl, .inr ⟨w.heap.size, 0, #[], rfl, Nat.le_refl _, ?_, by simp, by simp, by simp, rfl⟩⟩⟩
  show (w.heap.push _)[w.heap.size]? = _
  simp
theorem RwI.arg16 {B : Nat} {w : World} {v : Value} {L : List Int} (h : RwI B w v L) : ∃ a c, v = .slice a L.length c ∧ Arg w a L.length c L ∧ Own B w a L := by
  rcases h.row.2 with h' | ⟨g, c, cur, hv, h1, hg, h2, h3, h4, h5⟩
  · obtain rfl : L = [] := List.length_eq_zero_iff.1 h'.2
    exact ⟨none, 0, h'.1, Arg.none _, .inl rfl⟩
  · have ho := h.row
    obtain ⟨a, c', e, hs⟩ := h.sl
    rw [hv] at e ho
    cases e
    exact ⟨_, c, hv, ⟨hs, rfl, h2, h3, .inr ⟨g, 0, rfl⟩⟩, Own.of_owns ho rfl⟩
def jt0 (s : ByteArray) (bs : List UInt8) (w : World) : Act → World → Prop := fun a' w' => ∃ (u0 u1 u3 u4 u5 u6 u7 u8 u9 u10 u11 u12 u13 u14 u15 u16 u17 u18 u19 u20 u21 u22 u23 u24 u25 u26 u27 u28 u29 u30 u31 u32 u33 u34 u35 u36 u37 u38 u39 u40 u41 u42 u43 u44 u45 u46 u47 u48 u49 u50 u51 u52 u53 : Value), a' = { tmps := #[u0, u1, .pointer (some ⟨w.heap.size, 0, none⟩), u3, u4, u5, u6, u7, u8, u9, u10, u11, u12, u13, u14, u15, u16, u17, u18, u19, u20, u21, u22, u23, u24, u25, u26, u27, u28, u29, u30, u31, u32, u33, u34, u35, u36, u37, u38, u39, u40, u41, u42, u43, u44, u45, u46, u47, u48, u49, u50, u51, u52, u53], defers := [] } ∧ Hid (w'.cell? ⟨w.heap.size, 0, none⟩ = some (.bool false) ∧ w'.cell? ⟨w.heap.size, 1, none⟩ = some (.slice none 0 0) ∧ ∀ o, w'.frozen? ⟨w.heap.size, o, none⟩ = false) ∧ Hid (Below w.heap.size w w') ∧ Hid (rbB bs = false)
def jt1 (s ds : ByteArray) (bs D : List UInt8) (w : World) : Act → World → Prop := fun a' w' => ∃ (at_ n : Nat) (L : List Int) (v u1 u7 u8 u9 u10 u11 u12 u13 u14 u15 u16 u17 u18 u19 u20 u21 u22 u23 u24 u25 u26 u27 u28 u29 u30 u31 u32 u33 u34 u35 u36 u37 u38 u39 u40 u41 u42 u43 u44 u45 u46 u47 u48 u49 u50 u51 u52 u53 : Value), a' = { tmps := #[.string s, u1, .pointer (some ⟨w.heap.size, 0, none⟩), .bool false, .string ds, v, .int .i64 (at_ : Int), u7, u8, u9, u10, u11, u12, u13, u14, u15, u16, u17, u18, u19, u20, u21, u22, u23, u24, u25, u26, u27, u28, u29, u30, u31, u32, u33, u34, u35, u36, u37, u38, u39, u40, u41, u42, u43, u44, u45, u46, u47, u48, u49, u50, u51, u52, u53], defers := [] } ∧ at_ ≤ ds.size ∧ Hid (numV M40 D = nv M40 n (D.drop at_)) ∧ Hid (RwI (w.heap.size + 1) w' v L) ∧ Hid (Nm L (n : Int)) ∧ L.length ≤ 40 ∧ Hid (w'.cell? ⟨w.heap.size, 0, none⟩ = some (.bool false) ∧ w'.cell? ⟨w.heap.size, 1, none⟩ = some (.slice none 0 0) ∧ ∀ o, w'.frozen? ⟨w.heap.size, o, none⟩ = false) ∧ Hid (Below w.heap.size w w') ∧ Hid (rbN bs = true → D ≠ [48])
set_option maxHeartbeats 16000000 in
theorem ReadBigI (s : ByteArray) (w : World) (hs : s.size ≤ 1048576) :
    Calls Tryd.prog 22 #[.string s] w (OutRB w (rbV s.data.toList) (rbB s.data.toList)) := by
  obtain ⟨bs, hbs⟩ : ∃ bs, bs = s.data.toList := ⟨_, rfl⟩
  have hl : bs.length = s.size := by rw [hbs]; exact size_list s
  rw [← hbs]
  obtain ⟨D, hD⟩ : ∃ D, D = rbD bs := ⟨_, rfl⟩
  obtain ⟨ds, hds⟩ : ∃ ds, ds = st D := ⟨_, rfl⟩
  have C1 : Hid (∀ w, Calls Tryd.prog 43 #[.string s, .string { data := #[45] }] w fun e w' => e = .returned (.string ds) ∧ w' = w) := hide (fun w => by
    have h := Tryd.strings_TrimPrefix s { data := #[45] } w
    rw [← hbs, show ({ data := #[45] } : ByteArray).data.toList = [45] from rfl, rbD_trim, ← hD] at h
    rw [hds]
    exact h)
  have dl : ds.size = D.length := by rw [hds, st_size]
  have DLE : D.length ≤ bs.length := by rw [hD]; exact rbD_len bs
  have IX : Hid (∀ i (h : i < ds.size), ∃ h2 : i < D.length, ds[i]'h = D[i]) := hide (fun i h => ⟨by omega, by subst hds; simp [st]; rfl⟩)
  have SG : Hid (decide ((ds.size : Int) < (s.size : Int)) = rbN bs) := hide (by
    cases g : rbN bs
    · have := rb_pos g
      rw [this] at hD
      exact decide_eq_false (by rw [dl, hD, ← hl]; omega)
    · have := congrArg List.length (rb_neg g)
      rw [← hD, List.length_cons] at this
      exact decide_eq_true (by rw [dl, ← hl]; omega))
  have HDL := hide dl
  have HLE : Hid (ds.size ≤ 1048576) := hide (by omega)
  have BX : Hid (Below w.heap.size w (w.alloc (.cells #[.bool false, .slice none 0 0] 25))) := hide ((Below.refl _ _).alloc (Nat.le_refl _) _)
  have BY : Hid (Below w.heap.size w ((w.alloc (.cells #[.bool false, .slice none 0 0] 25)).alloc (.cells #[] 3))) := hide ((unhide BX).alloc (by simp) _)
  have CX : Hid (((w.alloc (.cells #[.bool false, .slice none 0 0] 25)).alloc (.cells #[] 3)).cell? ⟨w.heap.size, 0, none⟩ = some (.bool false) ∧ ((w.alloc (.cells #[.bool false, .slice none 0 0] 25)).alloc (.cells #[] 3)).cell? ⟨w.heap.size, 1, none⟩ = some (.slice none 0 0) ∧ ∀ o, ((w.alloc (.cells #[.bool false, .slice none 0 0] 25)).alloc (.cells #[] 3)).frozen? ⟨w.heap.size, o, none⟩ = false) := hide ⟨by simp [go_sem], by simp [go_sem], fun o => by simp [go_sem]⟩
  have RX : Hid (RwI (w.heap.size + 1) ((w.alloc (.cells #[.bool false, .slice none 0 0] 25)).alloc (.cells #[] 3)) (.slice (some ⟨w.heap.size + 1, 0, none⟩) 0 0) []) := hide (by
    have h := emptyR16 (w.alloc (.cells #[.bool false, .slice none 0 0] 25))
    simpa using h)
  have ZH : Hid (D = [] → rbB bs = false) := hide (fun k => by unfold rbB; rw [← hD, k]; rfl)
  have ZK : Hid (∀ t, D = 48 :: t → 1 < s.size → rbB bs = false) := hide (fun t k k2 => by
    unfold rbB
    rw [← hD, k]
    by_cases z : t = []
    · have M : numV M40 ([48] : List UInt8) = some 0 := by simp [numV, nv]
      cases g : rbN bs
      · exfalso
        have := rb_pos g
        rw [this] at hD
        have e1 : D.length = 1 := by rw [k, z]; rfl
        have e2 : D.length = bs.length := by rw [hD]
        omega
      · have RM : rbM bs = 0 := by unfold rbM; rw [← hD, k, z, M]; rfl
        rw [RM]; simp
    · have M : numV M40 (48 :: t) = none := by simp [numV, z]
      rw [M]; rfl)
  have HD := hide hD
  go_enter Tryd.func22, Tryd.ntmps22
  go_wp2
  refine wp_scope_two16 0 1 (jt0 s bs w) (jt1 s ds bs D w) (fun a' _ => ds.size - (intOf (a'.tmps.getD 6 undef)).toNat) (by rfl) (by rfl) ?_ ?_ ?_
  · intro PASS
    replace PASS := hide PASS
    by_cases z : D = []
    · have RB := unhide ZH z
      have es : ds = { data := #[] } := by rw [hds, z]; rfl
      clear hds hD hbs dl
      subst es
      go_wp2_with fail
      refine (unhide C1 _).mono ?_
      rintro e w1 ⟨rfl, rfl⟩
      go_wp2
      go_step3
      exact Or.inl ⟨rfl, _, _, _, _, _, _, _, _, _, _, _, _, _, _, _, _, _, _, _, _, _, _, _, _, _, _, _, _, _, _, _, _, _, _, _, _, _, _, _, _, _, _, _, _, _, _, _, _, _, _, _, _, _, rfl, CX, BY, hide RB⟩
    · obtain ⟨c0, t, hc⟩ := List.exists_cons_of_ne_nil z
      have hp0 : 0 < ds.size := by rw [dl, hc]; simp
      have i0 : ds[0]'hp0 = c0 := by
        obtain ⟨h2, e⟩ := unhide IX 0 hp0
        rw [e]
        simp [hc]
      have d1 : ds.toList.isEmpty = false := by rw [ByteArray.toList_eq, List.isEmpty_eq_false_iff]; intro k; have := congrArg List.length k; rw [size_list] at this; rw [List.length_nil] at this; omega
      by_cases k1 : 1 < s.size
      · have k1i : (1 : Int) < (s.size : Int) := by omega
        have k1d : decide ((1 : Int) < (s.size : Int)) = true := decide_eq_true k1i
        by_cases k2 : c0 = 48
        · have RB := unhide ZK t (by rw [hc, k2]) k1
          rw [k2] at i0
          clear hds hD hbs dl z hc k2
          go_wp2_with fail
          refine (unhide C1 _).mono ?_
          rintro e w1 ⟨rfl, rfl⟩
          go_wp2
          go_step3
          exact Or.inl ⟨rfl, _, _, _, _, _, _, _, _, _, _, _, _, _, _, _, _, _, _, _, _, _, _, _, _, _, _, _, _, _, _, _, _, _, _, _, _, _, _, _, _, _, _, _, _, _, _, _, _, _, _, _, _, _, rfl, CX, BY, hide RB⟩
        · have g1 : ((c0.toNat : Int) == 48) = false := by
            rw [beq_eq_false_iff_ne]
            intro k
            exact k2 (by have := u8_of (c := c0) (k := 48) (by omega) (by omega); rw [this]; rfl)
          have g2 : ¬ ((c0.toNat : Int) = 48) := by simpa using g1
          have NE : Hid (rbN bs = true → D ≠ [48]) := hide (fun _ k => k2 (by rw [hc] at k; exact (List.cons.inj k).1))
          have NV : Hid (numV M40 D = nv M40 0 (D.drop 0)) := hide (by rw [hc]; simp only [numV, List.drop_zero]; rw [if_neg (fun k => k2 k.1)])
          clear hds hD hbs dl z hc k2
          go_wp2_with fail
          refine (unhide C1 _).mono ?_
          rintro e w1 ⟨rfl, rfl⟩
          go_wp2
          go_step3
          refine ‹∀ (a : Act) (w : World), Code.wp Tryd.prog _ _ a w → _› _ _ (unhide PASS _ _ ?_)
          exact ⟨0, 0, [], _, _, _, _, _, _, _, _, _, _, _, _, _, _, _, _, _, _, _, _, _, _, _, _, _, _, _, _, _, _, _, _, _, _, _, _, _, _, _, _, _, _, _, _, _, _, _, _, _, rfl, Nat.zero_le _, NV, RX, hide Nm.zero, by simp, CX, BY, NE⟩
      · have k1i : ¬ (1 : Int) < (s.size : Int) := by omega
        have k1d : decide ((1 : Int) < (s.size : Int)) = false := decide_eq_false k1i
        by_cases k2 : c0 = 48
        · have NE : Hid (rbN bs = true → D ≠ [48]) := hide (fun k _ => by
            have e1 := congrArg List.length (rb_neg k)
            rw [← hD, List.length_cons, hl, hc, List.length_cons] at e1
            omega)
          have NV : Hid (numV M40 D = nv M40 0 (D.drop 0)) := hide (by
            have t0 : t = [] := by
              have e1 : D.length = t.length + 1 := by rw [hc]; rfl
              exact List.length_eq_zero_iff.1 (by omega)
            rw [hc, t0]; simp [numV])
          rw [k2] at i0
          clear hds hD hbs dl z hc k2
          go_wp2_with fail
          refine (unhide C1 _).mono ?_
          rintro e w1 ⟨rfl, rfl⟩
          go_wp2
          go_step3
          refine ‹∀ (a : Act) (w : World), Code.wp Tryd.prog _ _ a w → _› _ _ (unhide PASS _ _ ?_)
          exact ⟨0, 0, [], _, _, _, _, _, _, _, _, _, _, _, _, _, _, _, _, _, _, _, _, _, _, _, _, _, _, _, _, _, _, _, _, _, _, _, _, _, _, _, _, _, _, _, _, _, _, _, _, _, rfl, Nat.zero_le _, NV, RX, hide Nm.zero, by simp, CX, BY, NE⟩
        · have g1 : ((c0.toNat : Int) == 48) = false := by
            rw [beq_eq_false_iff_ne]
            intro k
            exact k2 (by have := u8_of (c := c0) (k := 48) (by omega) (by omega); rw [this]; rfl)
          have g2 : ¬ ((c0.toNat : Int) = 48) := by simpa using g1
          have NE : Hid (rbN bs = true → D ≠ [48]) := hide (fun _ k => k2 (by rw [hc] at k; exact (List.cons.inj k).1))
          have NV : Hid (numV M40 D = nv M40 0 (D.drop 0)) := hide (by rw [hc]; simp only [numV, List.drop_zero]; rw [if_neg (fun k => k2 k.1)])
          clear hds hD hbs dl z hc k2
          go_wp2_with fail
          refine (unhide C1 _).mono ?_
          rintro e w1 ⟨rfl, rfl⟩
          go_wp2
          go_step3
          refine ‹∀ (a : Act) (w : World), Code.wp Tryd.prog _ _ a w → _› _ _ (unhide PASS _ _ ?_)
          exact ⟨0, 0, [], _, _, _, _, _, _, _, _, _, _, _, _, _, _, _, _, _, _, _, _, _, _, _, _, _, _, _, _, _, _, _, _, _, _, _, _, _, _, _, _, _, _, _, _, _, _, _, _, _, rfl, Nat.zero_le _, NV, RX, hide Nm.zero, by simp, CX, BY, NE⟩
  · rintro a' w' ⟨u0, u1, u3, u4, u5, u6, u7, u8, u9, u10, u11, u12, u13, u14, u15, u16, u17, u18, u19, u20, u21, u22, u23, u24, u25, u26, u27, u28, u29, u30, u31, u32, u33, u34, u35, u36, u37, u38, u39, u40, u41, u42, u43, u44, u45, u46, u47, u48, u49, u50, u51, u52, u53, rfl, C, HB, RB⟩
    rw [unhide RB, rb_no (unhide RB)]
    obtain ⟨r0, r1, f0⟩ := unhide C
    clear C C1 IX hds hD hbs dl RX CX BX BY ZH ZK
    go_wp2
    exact bodyPost_ret (v := .tuple #[.agg #[.bool false, .slice none 0 0], .bool false]) (by simp [results, Tryd.results22, go_sem, r0, r1]) rfl (outRB_no (s := w.heap.size) (Nat.le_refl _) (unhide HB) _ _)
  · rintro a' w' ⟨at_, n, L, v, u1, u7, u8, u9, u10, u11, u12, u13, u14, u15, u16, u17, u18, u19, u20, u21, u22, u23, u24, u25, u26, u27, u28, u29, u30, u31, u32, u33, u34, u35, u36, u37, u38, u39, u40, u41, u42, u43, u44, u45, u46, u47, u48, u49, u50, u51, u52, u53, rfl, hat, NV, R, NL, LL, C, HB, NE⟩
    obtain ⟨a, c, ev, AR, OW⟩ := (unhide R).arg16
    obtain ⟨r0, r1, f0⟩ := unhide C
    have lt0 : w.heap.size < w'.heap.size := World.block_lt_of_cell? _ _ r0
    clear C RX CX BX BY ZH ZK hds
    have HDD := unhide HDL
    by_cases hend : at_ = ds.size
    · subst hend
      have ED : numV M40 D = some n := by rw [unhide NV, List.drop_of_length_le (by omega)]; rfl
      have E := rb_end (l := bs) (n := n) (by rw [← hD]; exact ED) (fun k z => by
        have h := (num_dd ED).1
        rw [z, dd_zero16] at h
        exact unhide NE k h)
      obtain ⟨V, hV⟩ : ∃ V, V = rbV bs := ⟨_, rfl⟩
      have EV : Hid (V = if rbN bs = true then -(n : Int) else (n : Int)) := hide (by rw [hV]; exact E.2)
      rw [E.1, ← hV]
      clear hV
      have nM := (nm_40 (unhide NL)).1 LL
      have CS := hide (signI_out (rbN bs) a L.length c L w' (w.heap.size + 1) (n : Int) AR OW (unhide NL).ok (unhide NL).v lt0 (by omega))
      have SGi := unhide SG
      have SGn : decide (ds.size < s.size) = rbN bs := by rw [← SGi]; simp
      generalize rbN bs = g at *
      have de : ((ds.size : Int) == (ds.size : Int)) = true := by simp
      rw [ev]
      clear E ED NE NV NL R AR OW IX C1 hD hbs dl SG ev HDD
      go_wp2_with fail
      refine (unhide CS).mono ?_
      rintro e w2 ⟨a2, n2, c2, ts, rfl, hb2, ho2, ha2, hn2⟩
      have l2 : n2 ≤ 40 := by rw [← ha2.len]; exact (nm_40 hn2).2 nM
      replace r0 := cell_later hb2 r0
      replace r1 := cell_later hb2 r1
      have f2 : ∀ o, w2.frozen? ⟨w.heap.size, o, none⟩ = false := fun o => frozen_later hb2 lt0 (f0 o)
      replace HB := hide (below_on (unhide HB) hb2)
      have HO := hide ho2
      have HA := hide ha2
      have HN2 := hide hn2
      clear f0 hb2 ho2 ha2 hn2 CS
      go_wp2
      exact bodyPost_ret (v := .tuple #[.agg #[.bool (sd g (n : Int)), .slice a2 n2 c2], .bool true]) (by simp [results, Tryd.results22, go_sem, r0, r1]) rfl (outRB_of (s := w.heap.size) (Nat.le_refl _) (unhide HB) (unhide HO) (unhide HA) (unhide HN2) (unhide EV) l2 _ _)
    · have hlt : at_ < ds.size := by omega
      have hltD : at_ < D.length := by omega
      have de : ((at_ : Int) == (ds.size : Int)) = false := by simpa using (show ¬ (at_ : Int) = (ds.size : Int) by omega)
      have de2 : ¬ (at_ : Int) = (ds.size : Int) := by omega
      obtain ⟨_, e0⟩ := unhide IX at_ hlt
      obtain ⟨cc, hcc⟩ : ∃ z, z = D[at_] := ⟨_, rfl⟩
      rw [← hcc] at e0
      have DR : D.drop at_ = cc :: D.drop (at_ + 1) := by rw [hcc]; exact List.drop_eq_getElem_cons hltD
      rw [DR] at NV
      by_cases dg : 48 ≤ cc.toNat ∧ cc.toNat ≤ 57
      · obtain ⟨d, hd⟩ : ∃ d : Nat, cc.toNat = 48 + d := ⟨cc.toNat - 48, by omega⟩
        have d9 : d ≤ 9 := by omega
        have NV2 : Hid (numV M40 D = if M40 < 10 * n + d then none else nv M40 (10 * n + d) (D.drop (at_ + 1))) := hide (by
          rw [unhide NV]
          simp only [nv]
          rw [if_neg (by omega), show cc.toNat - 48 = d by omega])
        have CP := hide (putI16 (w.heap.size + 1) v L (d : Int) w' (unhide R) (unhide NL).ok (by omega) (by omega) lt0)
        have b1 : ¬ ((cc.toNat : Int) < 48) := by omega
        have b2 : ¬ ((57 : Int) < (cc.toNat : Int)) := by omega
        have b1d : decide ((cc.toNat : Int) < 48) = false := decide_eq_false b1
        have b2d : decide ((57 : Int) < (cc.toNat : Int)) = false := decide_eq_false b2
        have w1 : IntKind.u8.wrap ((cc.toNat : Int) - 48) = (d : Int) := by rw [IntKind.wrap_u8]; omega
        have w2 : IntKind.i64.wrap (d : Int) = (d : Int) := by rw [IntKind.wrap_i64]; omega
        have w3 : IntKind.i64.wrap ((at_ : Int) + 1) = (at_ : Int) + 1 := by rw [IntKind.wrap_i64]; have := unhide HLE; omega
        rw [ev] at CP ⊢
        clear NV DR hcc hD hbs dl C1 IX AR OW R dg hd ev HDD hltD
        go_wp2_with fail
        refine (unhide CP).mono ?_
        rintro e w2x ⟨v', L', rfl, R2, ok2, v2, ch, ll2, hb2⟩
        have N2 : Hid (Nm L' ((10 * n + d : Nat) : Int)) := hide (nm_put16 (unhide NL) ok2 v2 ch)
        have hb2' : Below w'.heap.size w' w2x ∨ True := .inr trivial
        have R2H := hide R2
        obtain ⟨a2, c2, ev2, _, _⟩ := R2.arg16
        have bx : ∀ o, w2x.cell? ⟨w.heap.size, o, none⟩ = w'.cell? ⟨w.heap.size, o, none⟩ := fun o => hb2.cell (p := ⟨w.heap.size, o, none⟩) (Nat.lt_succ_self _)
        replace r0 := (bx 0).trans r0
        replace r1 := (bx 1).trans r1
        have f2 : ∀ o, w2x.frozen? ⟨w.heap.size, o, none⟩ = false := fun o => by rw [hb2.frozen (p := ⟨w.heap.size, o, none⟩) (Nat.lt_succ_self _)]; exact f0 o
        replace HB := hide ((unhide HB).trans (hb2.mono (Nat.le_succ _)))
        have CX := hide (And.intro r0 (And.intro r1 f2))
        rw [ev2] at R2H ⊢
        clear CP ok2 v2 ch hb2 bx f0 R2 hb2' ev2
        by_cases l40 : L'.length ≤ 40
        · have l40i : (L'.length : Int) ≤ 40 := by omega
          have l40d : decide ((L'.length : Int) ≤ 40) = true := decide_eq_true l40i
          have NV3 : Hid (numV M40 D = nv M40 (10 * n + d) (D.drop (at_ + 1))) := hide (by
            rw [unhide NV2, if_neg (Nat.not_lt.2 ((nm_40 (unhide N2)).1 l40))])
          go_wp2
          go_step3
          have e1 : (at_ : Int) + 1 = ((at_ + 1 : Nat) : Int) := by omega
          (try rw [e1])
          refine Or.inr ⟨rfl, ⟨at_ + 1, 10 * n + d, L', _, _, _, _, _, _, _, _, _, _, _, _, _, _, _, _, _, _, _, _, _, _, _, _, _, _, _, _, _, _, _, _, _, _, _, _, _, _, _, _, _, _, _, _, _, _, _, _, _, rfl, by omega, NV3, R2H, N2, l40, CX, HB, NE⟩, ?_⟩
          simp [intOf]
          omega
        · have l40i : ¬ (L'.length : Int) ≤ 40 := by omega
          have l40d : decide ((L'.length : Int) ≤ 40) = false := decide_eq_false l40i
          have RB : rbB bs = false := by
            unfold rbB
            rw [← unhide HD, unhide NV2, if_pos (Nat.lt_of_not_le (fun k => l40 ((nm_40 (unhide N2)).2 k)))]
            rfl
          clear NV2 N2 R2H NL CX
          go_wp2
          go_step3
          go_wp2
          exact bodyPost_ret (v := .tuple #[.agg #[.bool false, .slice none 0 0], .bool false]) (by simp [results, Tryd.results22, go_sem, r0, r1]) rfl (by rw [rb_no RB]; exact outRB_no (s := w.heap.size) (Nat.le_refl _) (unhide HB) _ _)
      · have RB : rbB bs = false := by
          unfold rbB
          rw [← unhide HD, unhide NV]
          simp only [nv]
          rw [if_pos (by omega)]
          rfl
        have CX := hide (And.intro r0 (And.intro r1 f0))
        rw [ev]
        clear NV DR hcc hD hbs dl C1 IX AR OW R NL ev HDD hltD
        by_cases q1 : cc.toNat < 48
        · have b1 : (cc.toNat : Int) < 48 := by omega
          have b1d : decide ((cc.toNat : Int) < 48) = true := decide_eq_true b1
          go_wp2
          go_step3
          exact Or.inl ⟨rfl, _, _, _, _, _, _, _, _, _, _, _, _, _, _, _, _, _, _, _, _, _, _, _, _, _, _, _, _, _, _, _, _, _, _, _, _, _, _, _, _, _, _, _, _, _, _, _, _, _, _, _, _, _, rfl, CX, HB, hide RB⟩
        · have b1 : ¬ (cc.toNat : Int) < 48 := by omega
          have b1d : decide ((cc.toNat : Int) < 48) = false := decide_eq_false b1
          have b2 : (57 : Int) < (cc.toNat : Int) := by omega
          have b2d : decide ((57 : Int) < (cc.toNat : Int)) = true := decide_eq_true b2
          go_wp2
          go_step3
          exact Or.inl ⟨rfl, _, _, _, _, _, _, _, _, _, _, _, _, _, _, _, _, _, _, _, _, _, _, _, _, _, _, _, _, _, _, _, _, _, _, _, _, _, _, _, _, _, _, _, _, _, _, _, _, _, _, _, _, _, rfl, CX, HB, hide RB⟩
end Go.Proofs.YtdgonpbponnnaaaDoor
