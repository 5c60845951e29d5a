/- Slices of values of kind Span: what they read as, and what the laws' functions on them answer. No condition beyond those typed. Written by mkslice.py. -/
import Derived.Test.YtikllcoekcglcaaSignV
import Derived.Test.YtikllcoekcglcaaVarB
import Derived.Test.YtikllcoekcglcaaDivJ
import Derived.Test.YtikllcoekcglcaaDivI
import Derived.Test.YtikllcoekcglcaaRatC
import Derived.Test.YtikllcoekcglcaaFlatQ
namespace Go.Proofs.Ytikllcoekcglcaa
open Go.RowKit
set_option linter.unusedVariables false
set_option maxRecDepth 100000
set_option linter.unusedSimpArgs false

theorem cd_other {w : World} {b o : Nat} {x : Value} (h : w.cell? ⟨b, o, none⟩ = some x) : w.drew.cell? ⟨b, o, none⟩ = some x := cell_later (Below.refl _ _).drew h
theorem gcd_len {gs : List Int} {N D : Int} {n : Nat} (h : Nm gs ((Nat.gcd N.natAbs D.natAbs : Nat) : Int)) (hl : gs.length = n) (hD : D ≠ 0) (k : Bd D 400000) : 1 ≤ n ∧ n ≤ 400000 := by
  have hg := gcd_pos_right (N := N) hD
  have hd : Nat.gcd N.natAbs D.natAbs ≤ D.natAbs := Nat.le_of_dvd (by omega) (Nat.gcd_dvd_right _ _)
  subst hl
  constructor
  · have := h.nil_iff
    by_cases e : gs = []
    · have := this.1 e; omega
    · have : gs.length ≠ 0 := fun e0 => e (List.length_eq_zero_iff.1 e0)
      omega
  · exact Nm.len_le (V := ((Nat.gcd N.natAbs D.natAbs : Nat) : Int)) (by simpa using h) (k.le (by simp; omega))

theorem outN_fin {w wN W : World} {R : Nat} {b : BV} {xs : List Int} {V : Int} (hR : w.heap.size ≤ R) (hb : Below w.heap.size w wN) (bt : But R (R + 1) wN W)
    (ho : AllOwn (R + 1) wN.heap.size wN [(b, ⟨decide (V < 0), xs⟩)]) (ha : AllAr wN [(b, ⟨decide (V < 0), xs⟩)]) (h1 : Nm xs V.natAbs) : OutN w V (.returned (.agg #[.bool b.g, .slice b.a b.n b.c])) W :=
  ⟨b, xs, rfl, bt.below hb hR hb.size, (own_fin bt ho (Nat.le_refl _)).wide (by omega) bt.size, ar_fin bt ho ha (Nat.le_refl _), h1⟩
theorem quot_len {zs rs : List Int} {X Y : Int} {N : Int} {n m : Nat} (h : Nm zs (X / Y)) (h' : Nm rs (X % Y)) (k : X = N.natAbs) (hn : zs.length = n) (hm : rs.length = m) (hY : 0 < Y) (kb : Bd N 400000) : n ≤ 400000 ∧ m ≤ 400000 := by
  subst k
  have h1 : (N.natAbs : Int) / Y ≤ N.natAbs := Int.ediv_le_self _ (by omega)
  have h2 : 0 ≤ (N.natAbs : Int) / Y := Int.ediv_nonneg (by omega) (by omega)
  have h3 : (N.natAbs : Int) % Y ≤ N.natAbs := by have e1 := Int.emod_add_mul_ediv (N.natAbs : Int) Y; have e2 := Int.mul_nonneg (show 0 ≤ Y by omega) h2; omega
  have h4 : 0 ≤ (N.natAbs : Int) % Y := Int.emod_nonneg _ (by omega)
  subst hn hm
  exact ⟨Nm.len_le (V := (N.natAbs : Int) / Y) (by rw [Int.natAbs_of_nonneg h2]; exact h) (kb.le (by omega)), Nm.len_le (V := (N.natAbs : Int) % Y) (by rw [Int.natAbs_of_nonneg h4]; exact h') (kb.le (by omega))⟩
/-- The quotient and the rest, with signs. -/
def OutDv (w : World) (N D : Int) (e : Ending) (w' : World) : Prop :=
  ∃ x y : BV, e = .returned (.tuple #[.agg #[.bool x.g, .slice x.a x.n x.c], .agg #[.bool y.g, .slice y.a y.n y.c]]) ∧ Below w.heap.size w w' ∧ Ow w.heap.size w'.heap.size w' x (sU (!(decide (N < 0) == decide (D < 0))) ((N.natAbs : Int) / (D.natAbs : Int))) ∧ Ow w.heap.size w'.heap.size w' y (sU (decide (N < 0)) ((N.natAbs : Int) % (D.natAbs : Int)))
end Go.Proofs.Ytikllcoekcglcaa
namespace Go.Proofs.Ytikllcoekcglcaa
open Go.RowKit
set_option linter.unusedVariables false
set_option maxRecDepth 100000
set_option linter.unusedSimpArgs false

theorem quot_g (N D X : Int) (hD : D ≠ 0) : sU (!(decide (X < 0) == decide (((Nat.gcd N.natAbs D.natAbs : Nat) : Int) < 0))) ((X.natAbs : Int) / ((((Nat.gcd N.natAbs D.natAbs : Nat) : Int)).natAbs : Int)) = sU (decide (X < 0)) ((X.natAbs : Int) / ((Nat.gcd N.natAbs D.natAbs : Nat) : Int)) := by
  have : decide (((Nat.gcd N.natAbs D.natAbs : Nat) : Int) < 0) = false := decide_eq_false (by omega)
  rw [this, Int.natAbs_natCast]
  cases decide (X < 0) <;> rfl
theorem low_neg {N D : Int} (h : D < 0) : -(sU (decide (N < 0)) (lowU N D)) = lowN N D ∧ -(sU (decide (D < 0)) (lowD N D)) = lowD N D := by
  unfold lowN sU
  rw [decide_eq_true h]
  refine ⟨?_, by simp⟩
  cases decide (N < 0) <;> simp
theorem low_pos {N D : Int} (h : 0 ≤ D) : sU (decide (N < 0)) (lowU N D) = lowN N D ∧ sU (decide (D < 0)) (lowD N D) = lowD N D := by
  unfold lowN sU
  rw [decide_eq_false (show ¬ D < 0 by omega)]
  refine ⟨?_, by simp⟩
  cases decide (N < 0) <;> simp
theorem outQv_fin {w wN W : World} {R : Nat} {q : QV} {N D : Int} (hR : w.heap.size ≤ R) (hb : Below w.heap.size w wN) (bt : But R (R + 1) wN W)
    (h1 : Ow (R + 1) wN.heap.size wN q.num N) (h2 : Ow (R + 1) wN.heap.size wN q.den D) : OutQv w N D (.returned (.agg #[.bool q.num.g, .slice q.num.a q.num.n q.num.c, .bool q.den.g, .slice q.den.a q.den.n q.den.c])) W :=
  ⟨q, rfl, bt.below hb hR hb.size, (h1.but bt (.inr (Nat.le_refl _))).wide (by omega) bt.size, (h2.but bt (.inr (Nat.le_refl _))).wide (by omega) bt.size⟩

end Go.Proofs.Ytikllcoekcglcaa
namespace Go.Proofs.Ytikllcoekcglcaa
open Go.RowKit
set_option linter.unusedVariables false
set_option maxRecDepth 100000
set_option linter.unusedSimpArgs false

/-- A variable's box that holds a value of the kind B. -/
structure BxB (wk wx : World) (G : Nat) (x : BV) (V : Int) : Prop where
  lo : wk.heap.size ≤ G
  hi : G < wx.heap.size
  c0 : wx.cell? ⟨G, 0, none⟩ = some (.bool x.g)
  c1 : wx.cell? ⟨G, 1, none⟩ = some (.slice x.a x.n x.c)
  ow : Ow wk.heap.size wx.heap.size wx x V
  bel : Below wk.heap.size wk wx
theorem bxB_alloc {wk w5 : World} {x : BV} {V : Int} {B : Nat} (t : TypeId) (hk : Below wk.heap.size wk w5) (how : Ow B w5.heap.size w5 x V) (hB : wk.heap.size ≤ B) : BxB wk (w5.alloc (.cells #[.bool x.g, .slice x.a x.n x.c] t)) w5.heap.size x V :=
  ⟨hk.size, by simp, by simp [go_sem], by simp [go_sem], (how.later ((Below.refl _ _).alloc (Nat.le_refl _) _)).wide hB (by simp), hk.alloc hk.size _⟩
theorem bxB_set {wk w5 : World} {x : BV} {V : Int} {B G : Nat} {z0 : Value} {z1 : Value} (hk : Below wk.heap.size wk w5) (how : Ow B w5.heap.size w5 x V) (hG : wk.heap.size ≤ G) (hGB : G < B) (e0 : w5.cell? ⟨G, 0, none⟩ = some z0) (e1 : w5.cell? ⟨G, 1, none⟩ = some z1) : BxB wk ((w5.setCell ⟨G, 0, none⟩ (.bool x.g)).setCell ⟨G, 1, none⟩ (.slice x.a x.n x.c)) G x V := by
  have hb := metB_but (w5 := w5) (v := x) (G := G)
  have hlt : G < w5.heap.size := World.block_lt_of_cell? _ _ e0
  refine ⟨hG, by have := hb.size; omega, ?_, ?_, (how.but hb (.inr (by omega))).wide (by omega) hb.size, hb.below hk hG hk.size⟩
  · simp [go_sem, e0, e1]
  · simp [go_sem, e0, e1]
/-- A variable's box that holds a value of the kind Q. -/
structure BxQ (wk wx : World) (G : Nat) (x : QV) (N : Int) (D : Int) : Prop where
  lo : wk.heap.size ≤ G
  hi : G < wx.heap.size
  c0 : wx.cell? ⟨G, 0, none⟩ = some (.bool x.num.g)
  c1 : wx.cell? ⟨G, 1, none⟩ = some (.slice x.num.a x.num.n x.num.c)
  c2 : wx.cell? ⟨G, 2, none⟩ = some (.bool x.den.g)
  c3 : wx.cell? ⟨G, 3, none⟩ = some (.slice x.den.a x.den.n x.den.c)
  ow1 : Ow wk.heap.size wx.heap.size wx x.num N
  ow2 : Ow wk.heap.size wx.heap.size wx x.den D
  bel : Below wk.heap.size wk wx
theorem bxQ_alloc {wk w5 : World} {x : QV} {N : Int} {D : Int} {B : Nat} (t : TypeId) (hk : Below wk.heap.size wk w5) (how1 : Ow B w5.heap.size w5 x.num N) (how2 : Ow B w5.heap.size w5 x.den D) (hB : wk.heap.size ≤ B) : BxQ wk (w5.alloc (.cells #[.bool x.num.g, .slice x.num.a x.num.n x.num.c, .bool x.den.g, .slice x.den.a x.den.n x.den.c] t)) w5.heap.size x N D :=
  ⟨hk.size, by simp, by simp [go_sem], by simp [go_sem], by simp [go_sem], by simp [go_sem], (how1.later ((Below.refl _ _).alloc (Nat.le_refl _) _)).wide hB (by simp), (how2.later ((Below.refl _ _).alloc (Nat.le_refl _) _)).wide hB (by simp), hk.alloc hk.size _⟩
theorem bxQ_set {wk w5 : World} {x : QV} {N : Int} {D : Int} {B G : Nat} {z0 : Value} {z1 : Value} {z2 : Value} {z3 : Value} (hk : Below wk.heap.size wk w5) (how1 : Ow B w5.heap.size w5 x.num N) (how2 : Ow B w5.heap.size w5 x.den D) (hG : wk.heap.size ≤ G) (hGB : G < B) (e0 : w5.cell? ⟨G, 0, none⟩ = some z0) (e1 : w5.cell? ⟨G, 1, none⟩ = some z1) (e2 : w5.cell? ⟨G, 2, none⟩ = some z2) (e3 : w5.cell? ⟨G, 3, none⟩ = some z3) : BxQ wk ((((w5.setCell ⟨G, 0, none⟩ (.bool x.num.g)).setCell ⟨G, 1, none⟩ (.slice x.num.a x.num.n x.num.c)).setCell ⟨G, 2, none⟩ (.bool x.den.g)).setCell ⟨G, 3, none⟩ (.slice x.den.a x.den.n x.den.c)) G x N D := by
  have hb := metQ_but (w5 := w5) (v := x) (G := G)
  have hlt : G < w5.heap.size := World.block_lt_of_cell? _ _ e0
  refine ⟨hG, by have := hb.size; omega, ?_, ?_, ?_, ?_, (how1.but hb (.inr (by omega))).wide (by omega) hb.size, (how2.but hb (.inr (by omega))).wide (by omega) hb.size, hb.below hk hG hk.size⟩
  · simp [go_sem, e0, e1, e2, e3]
  · simp [go_sem, e0, e1, e2, e3]
  · simp [go_sem, e0, e1, e2, e3]
  · simp [go_sem, e0, e1, e2, e3]

end Go.Proofs.Ytikllcoekcglcaa
namespace Go.Proofs.Ytikllcoekcglcaa
open Go.RowKit
set_option linter.unusedVariables false
set_option maxRecDepth 100000
set_option linter.unusedSimpArgs false

/-- What CompareRat answers: the order of A and B, where both are good. -/
def OutK (w : World) (P : Bool) (A B : Int) (e : Ending) (w' : World) : Prop :=
  Below w.heap.size w w' ∧ ((P = true ∧ ∃ ts us, Nm ts A.natAbs ∧ Nm us B.natAbs ∧ e = .returned (.tuple #[.int .i64 (cmpB (decide (A < 0)) ts (decide (B < 0)) us), .bool true])) ∨ (P = false ∧ e = .returned (.tuple #[.int .i64 0, .bool false])))
theorem goodR_parts {g h : Bool} {xs us : List Int} (k : goodR g xs h us = true) : goodB g xs = true ∧ goodB h us = true := by
  unfold goodR at k
  rw [Bool.and_eq_true, Bool.and_eq_true] at k
  exact k.1
theorem good_len {w : World} {g : Bool} {a : Option Addr} {n c : Nat} {xs : List Int} (ha : Arg w a n c xs) (h : goodB g xs = true) : n ≤ 40 := by rw [← ha.len]; exact (good_parts h).2.2.1

end Go.Proofs.Ytikllcoekcglcaa
namespace Go.Proofs.Ytikllcoekcglcaa
open Go.RowKit
set_option linter.unusedVariables false
set_option maxRecDepth 100000
set_option linter.unusedSimpArgs false

/-- A call answers a fraction and whether: what it leads to is its own. -/
def RetQ (w : World) (U : QD → Bool → Prop) (e : Ending) (w' : World) : Prop := ∃ (v : QV) (d : QD) (ok : Bool), e = .returned (.tuple #[.agg #[.bool v.num.g, .slice v.num.a v.num.n v.num.c, .bool v.den.g, .slice v.den.a v.den.n v.den.c], .bool ok]) ∧ Below w.heap.size w w' ∧ AllOwn w.heap.size w'.heap.size w' [(v.num, d.num), (v.den, d.den)] ∧ U d ok
def RetQin (lo hi : Nat) (w : World) (U : QD → Bool → Prop) (e : Ending) (w' : World) : Prop := ∃ (v : QV) (d : QD) (ok : Bool), e = .returned (.tuple #[.agg #[.bool v.num.g, .slice v.num.a v.num.n v.num.c, .bool v.den.g, .slice v.den.a v.den.n v.den.c], .bool ok]) ∧ Below w.heap.size w w' ∧ AllOwn lo hi w' [(v.num, d.num), (v.den, d.den)] ∧ U d ok
theorem zeroQ (lo hi : Nat) (w : World) : AllOwn lo hi w [((⟨⟨false, none, 0, 0⟩, ⟨false, none, 0, 0⟩⟩ : QV).num, (⟨⟨false, []⟩, ⟨false, []⟩⟩ : QD).num), ((⟨⟨false, none, 0, 0⟩, ⟨false, none, 0, 0⟩⟩ : QV).den, (⟨⟨false, []⟩, ⟨false, []⟩⟩ : QD).den)] := ⟨fun p hp => by
  have hp : p = ((⟨false, none, 0, 0⟩ : BV), (⟨false, []⟩ : BD)) := by simpa using hp
  subst hp
  exact ⟨rfl, .inl rfl, rfl⟩, List.pairwise_cons.2 ⟨fun p hp => .inl rfl, List.pairwise_singleton _ _⟩⟩
/-- The answer N / D, where both fit; otherwise, and where P does not hold, the zero answer. -/
def AnsQ (P : Bool) (N D : Int) (d : QD) (ok : Bool) : Prop :=
  (P = true ∧ ∃ zs us, Nm zs N.natAbs ∧ Nm us D.natAbs ∧ ((zs.length ≤ 40 ∧ us.length ≤ 40 ∧ ok = true ∧ d = ⟨⟨decide (N < 0), zs⟩, ⟨decide (D < 0), us⟩⟩) ∨ (¬ (zs.length ≤ 40 ∧ us.length ≤ 40) ∧ ok = false ∧ d = (⟨⟨false, []⟩, ⟨false, []⟩⟩ : QD)))) ∨ (P = false ∧ ok = false ∧ d = (⟨⟨false, []⟩, ⟨false, []⟩⟩ : QD))
theorem AnsQ.same {P : Bool} {N D : Int} {d d' : QD} {ok ok' : Bool} (h : AnsQ P N D d ok) (k : AnsQ P N D d' ok') : d = d' ∧ ok = ok' := by
  rcases h with ⟨p, zs, us, h1, h2, h3⟩ | ⟨p, h1, h2⟩ <;> rcases k with ⟨p', zs', us', k1, k2, k3⟩ | ⟨p', k1, k2⟩
  · obtain rfl := h1.same k1
    obtain rfl := h2.same k2
    rcases h3 with ⟨a, b, c, e⟩ | ⟨a, c, e⟩ <;> rcases k3 with ⟨a', b', c', e'⟩ | ⟨a', c', e'⟩
    · exact ⟨e.trans e'.symm, c.trans c'.symm⟩
    · exact absurd ⟨a, b⟩ a'
    · exact absurd ⟨a', b'⟩ a
    · exact ⟨e.trans e'.symm, c.trans c'.symm⟩
  · rw [p] at p'; cases p'
  · rw [p] at p'; cases p'
  · exact ⟨h2.trans k2.symm, h1.trans k1.symm⟩
theorem AnsQ.lens {P : Bool} {N D : Int} {d : QD} {ok : Bool} (h : AnsQ P N D d ok) : d.num.xs.length ≤ 40 ∧ d.den.xs.length ≤ 40 := by
  rcases h with ⟨p, zs, us, h1, h2, ⟨a, b, c, rfl⟩ | ⟨a, c, rfl⟩⟩ | ⟨p, h1, rfl⟩
  · exact ⟨a, b⟩
  · exact ⟨by simp, by simp⟩
  · exact ⟨by simp, by simp⟩
theorem ansQ_none (N D : Int) : AnsQ false N D (⟨⟨false, []⟩, ⟨false, []⟩⟩ : QD) false := .inr ⟨rfl, rfl, rfl⟩
theorem retQ_fin {w wN W : World} {R : Nat} {v : QV} {d : QD} {ok : Bool} {U : QD → Bool → Prop} (hR : w.heap.size ≤ R) (hb : Below w.heap.size w wN) (bt : But R (R + 1) wN W)
    (ho : AllOwn (R + 1) wN.heap.size wN [(v.num, d.num), (v.den, d.den)]) (hu : U d ok) : RetQ w U (.returned (.tuple #[.agg #[.bool v.num.g, .slice v.num.a v.num.n v.num.c, .bool v.den.g, .slice v.den.a v.den.n v.den.c], .bool ok])) W :=
  ⟨v, d, ok, rfl, bt.below hb hR hb.size, (own_fin bt ho (Nat.le_refl _)).wide (by omega) bt.size, hu⟩

set_option maxHeartbeats 1000000 in
theorem inL (q : QV) (m : Nat) (w : World) : Calls Try.prog 83 #[.agg #[.bool q.num.g, .slice q.num.a q.num.n q.num.c, .bool q.den.g, .slice q.den.a q.den.n q.den.c], .int .i64 (m : Nat)] w fun e w' => e = .returned (.bool (decide (q.num.n ≤ m) && decide (q.den.n ≤ m))) ∧ Below w.heap.size w w' := by
  have HB := hide (show ∀ o, Below w.heap.size w (w.alloc o) from fun o => (Below.refl _ _).alloc (Nat.le_refl _) _)
  by_cases c1 : q.num.n ≤ m
  · by_cases c2 : q.den.n ≤ m
    · rw [decide_eq_true c1, decide_eq_true c2]
      have b1 : (q.num.n : Int) ≤ (m : Int) := by omega
      have b2 : (q.den.n : Int) ≤ (m : Int) := by omega
      go_enter Try.func83, Try.ntmps83
      go_wp2
      go_ret
      exact ⟨rfl, unhide HB _⟩
    · rw [decide_eq_true c1, decide_eq_false c2]
      have b1 : (q.num.n : Int) ≤ (m : Int) := by omega
      have b2 : ¬ ((q.den.n : Int) ≤ (m : Int)) := by omega
      go_enter Try.func83, Try.ntmps83
      go_wp2
      go_ret
      exact ⟨rfl, unhide HB _⟩
  · rw [decide_eq_false c1]
    have b1 : ¬ ((q.num.n : Int) ≤ (m : Int)) := by omega
    go_enter Try.func83, Try.ntmps83
    go_wp2
    go_ret
    exact ⟨by simp, unhide HB _⟩
def gQ (d : QD) : Bool := goodR d.num.g d.num.xs d.den.g d.den.xs
def nQ (d : QD) : Int := sv d.num.g d.num.xs
def dQ (d : QD) : Int := sv d.den.g d.den.xs
theorem goodQI (q : QV) (d : QD) (w : World) (h : AllAr w [(q.num, d.num), (q.den, d.den)]) : Calls Try.prog 71 #[.agg #[.bool q.num.g, .slice q.num.a q.num.n q.num.c, .bool q.den.g, .slice q.den.a q.den.n q.den.c]] w fun e w' => e = .returned (.bool (gQ d)) ∧ Below w.heap.size w w' := by
  have := goodRI_any ⟨q.num.g, q.num.a, q.num.n, q.num.c, q.den.g, q.den.a, q.den.n, q.den.c⟩ d.num.xs d.den.xs w h.head.ar h.tail.head.ar
  simp only at this
  rw [h.head.sg, h.tail.head.sg] at this
  rw [h.head.sg, h.tail.head.sg]
  exact this
theorem goodQS (q : QV) (d : QD) (w : World) (h : AllAr w [(q.num, d.num), (q.den, d.den)]) : Calls Try.prog 66 #[.agg #[.bool q.num.g, .slice q.num.a q.num.n q.num.c, .bool q.den.g, .slice q.den.a q.den.n q.den.c]] w fun e w' => e = .returned (.bool (gQ d)) ∧ Below w.heap.size w w' := by
  have := goodRS_any ⟨q.num.g, q.num.a, q.num.n, q.num.c, q.den.g, q.den.a, q.den.n, q.den.c⟩ d.num.xs d.den.xs w h.head.ar h.tail.head.ar
  simp only at this
  rw [h.head.sg, h.tail.head.sg] at this
  rw [h.head.sg, h.tail.head.sg]
  exact this
/-- A good fraction reads as what it says; its denominator is above 0. -/
structure IsGood (w : World) (q : QV) (d : QD) : Prop where
  is : IsQ w q (nQ d) (dQ d)
  kn : Bd (nQ d) 40
  kd : Bd (dQ d) 40
  pos : 0 < dQ d
  low : Nat.gcd (nQ d).natAbs (dQ d).natAbs = 1
theorem isGood_of {w : World} {q : QV} {d : QD} (h : AllAr w [(q.num, d.num), (q.den, d.den)]) (hg : gQ d = true) : IsGood w q d := by
  have h0 := hg
  unfold gQ at hg
  obtain ⟨g1, g2⟩ := goodR_parts hg
  obtain ⟨i1, k1⟩ := isB_of_good h.head g1
  obtain ⟨i2, k2⟩ := isB_of_good h.tail.head g2
  unfold goodR at hg
  simp only [Bool.and_eq_true, Bool.not_eq_true', decide_eq_true_eq] at hg
  obtain ⟨_, h1, h2, h3⟩ := hg
  obtain ⟨o1, t1, _, _⟩ := good_parts g1
  obtain ⟨o2, t2, _, _⟩ := good_parts g2
  have v1 := val_nonneg o1
  have v2 := val_nonneg o2
  have hz : val d.den.xs ≠ 0 := fun e => h2 (by rw [(val_zero_iff o2 t2).1 e]; rfl)
  have hd : dQ d = val d.den.xs := by unfold dQ sv; rw [h1]; simp
  have hn : (nQ d).natAbs = (val d.num.xs).toNat := by unfold nQ sv; split <;> omega
  exact ⟨⟨i1, i2⟩, k1, k2, by omega, by rw [hn, hd, show (val d.den.xs).natAbs = (val d.den.xs).toNat by omega]; exact h3⟩
theorem IsGood.later {w w' : World} {q : QV} {d : QD} (h : IsGood w q d) (hb : Below w.heap.size w w') : IsGood w' q d := ⟨h.is.later hb, h.kn, h.kd, h.pos, h.low⟩

set_option maxHeartbeats 4000000 in
theorem fitsQS (q : QV) (N D : Int) (w : World) (h : IsQ w q N D) (hD : 0 < D) :
    Calls Try.prog 73 #[.agg #[.bool q.num.g, .slice q.num.a q.num.n q.num.c, .bool q.den.g, .slice q.den.a q.den.n q.den.c]] w (RetQ w (AnsQ true N D)) := by
  obtain ⟨⟨xs, a1, n1⟩, ⟨us, a2, n2⟩⟩ := h
  have X1 := hide a1.ar
  have X2 := hide a2.ar
  have SG : Hid (sU q.num.g (N.natAbs : Int) = N ∧ sU false (D.natAbs : Int) = D) := hide ⟨by rw [a1.sg]; unfold sU; by_cases e : N < 0 <;> simp [e] <;> omega, by unfold sU; simp; omega⟩
  have VV : Hid (N.natAbs = N.natAbs ∧ D.natAbs = D.natAbs) := hide ⟨rfl, rfl⟩
  have LL : Hid (xs.length = q.num.n ∧ us.length = q.den.n) := hide ⟨a1.ar.len, a2.ar.len⟩
  have N1 := hide n1
  have N2 := hide n2
  clear a1 a2 n1 n2
  by_cases hf : q.num.n ≤ 40 ∧ q.den.n ≤ 40
  · have t1 : decide ((40 : Int) < (q.num.n : Int)) = false := by simp; omega
    have t2 : decide ((40 : Int) < (q.den.n : Int)) = false := by simp; omega
    have l1 : q.num.n ≤ 1048576 := by omega
    have l2 : q.den.n ≤ 1048576 := by omega
    have HF := hide hf
    clear hf
    go_enter Try.func73, Try.ntmps73
    go_upto_region 3 with fail
    have hb : Below w.heap.size w ((w.alloc (.cells #[.bool q.num.g, .slice q.num.a q.num.n q.num.c, .bool q.den.g, .slice q.den.a q.den.n q.den.c] 50)).alloc (.cells #[.bool false, .slice none 0 0, .bool false, .slice none 0 0] 50)) := (((Below.refl _ _).alloc (by simp) _).alloc (by simp) _)
    have k0_0 : ((w.alloc (.cells #[.bool q.num.g, .slice q.num.a q.num.n q.num.c, .bool q.den.g, .slice q.den.a q.den.n q.den.c] 50)).alloc (.cells #[.bool false, .slice none 0 0, .bool false, .slice none 0 0] 50)).cell? ⟨w.heap.size, 0, none⟩ = some (.bool q.num.g) := by simp [go_sem]
    have k0_1 : ((w.alloc (.cells #[.bool q.num.g, .slice q.num.a q.num.n q.num.c, .bool q.den.g, .slice q.den.a q.den.n q.den.c] 50)).alloc (.cells #[.bool false, .slice none 0 0, .bool false, .slice none 0 0] 50)).cell? ⟨w.heap.size, 1, none⟩ = some (.slice q.num.a q.num.n q.num.c) := by simp [go_sem]
    have k0_3 : ((w.alloc (.cells #[.bool q.num.g, .slice q.num.a q.num.n q.num.c, .bool q.den.g, .slice q.den.a q.den.n q.den.c] 50)).alloc (.cells #[.bool false, .slice none 0 0, .bool false, .slice none 0 0] 50)).cell? ⟨w.heap.size, 3, none⟩ = some (.slice q.den.a q.den.n q.den.c) := by simp [go_sem]
    have k1_0 : ((w.alloc (.cells #[.bool q.num.g, .slice q.num.a q.num.n q.num.c, .bool q.den.g, .slice q.den.a q.den.n q.den.c] 50)).alloc (.cells #[.bool false, .slice none 0 0, .bool false, .slice none 0 0] 50)).cell? ⟨w.heap.size + 1, 0, none⟩ = some (.bool false) := by simp [go_sem]
    have k1_1 : ((w.alloc (.cells #[.bool q.num.g, .slice q.num.a q.num.n q.num.c, .bool q.den.g, .slice q.den.a q.den.n q.den.c] 50)).alloc (.cells #[.bool false, .slice none 0 0, .bool false, .slice none 0 0] 50)).cell? ⟨w.heap.size + 1, 1, none⟩ = some (.slice none 0 0) := by simp [go_sem]
    have k1_2 : ((w.alloc (.cells #[.bool q.num.g, .slice q.num.a q.num.n q.num.c, .bool q.den.g, .slice q.den.a q.den.n q.den.c] 50)).alloc (.cells #[.bool false, .slice none 0 0, .bool false, .slice none 0 0] 50)).cell? ⟨w.heap.size + 1, 2, none⟩ = some (.bool false) := by simp [go_sem]
    have k1_3 : ((w.alloc (.cells #[.bool q.num.g, .slice q.num.a q.num.n q.num.c, .bool q.den.g, .slice q.den.a q.den.n q.den.c] 50)).alloc (.cells #[.bool false, .slice none 0 0, .bool false, .slice none 0 0] 50)).cell? ⟨w.heap.size + 1, 3, none⟩ = some (.slice none 0 0) := by simp [go_sem]
    have z1 : ∀ o, ((w.alloc (.cells #[.bool q.num.g, .slice q.num.a q.num.n q.num.c, .bool q.den.g, .slice q.den.a q.den.n q.den.c] 50)).alloc (.cells #[.bool false, .slice none 0 0, .bool false, .slice none 0 0] 50)).frozen? ⟨w.heap.size + 1, o, none⟩ = false := fun o => by simp [go_sem]
    have A1 := hide ((unhide X1).later hb)
    have A2 := hide ((unhide X2).later hb)
    have szw0 : w.heap.size + 2 ≤ ((w.alloc (.cells #[.bool q.num.g, .slice q.num.a q.num.n q.num.c, .bool q.den.g, .slice q.den.a q.den.n q.den.c] 50)).alloc (.cells #[.bool false, .slice none 0 0, .bool false, .slice none 0 0] 50)).heap.size := by simp
    have HB := hide hb
    clear hb
    generalize ((w.alloc (.cells #[.bool q.num.g, .slice q.num.a q.num.n q.num.c, .bool q.den.g, .slice q.den.a q.den.n q.den.c] 50)).alloc (.cells #[.bool false, .slice none 0 0, .bool false, .slice none 0 0] 50)) = w0 at *
    have ne0_1 : w.heap.size ≠ w.heap.size + 1 := by omega
    go_region_held3 (fun w' => w'.cell? ⟨w.heap.size, 0, none⟩ = some (.bool q.num.g) ∧ w'.cell? ⟨w.heap.size, 1, none⟩ = some (.slice q.num.a q.num.n q.num.c) ∧ w'.cell? ⟨w.heap.size, 3, none⟩ = some (.slice q.den.a q.den.n q.den.c)) (with_reducible (first | exact ⟨k0_0, k0_1, k0_3⟩ | exact ⟨cd_other k0_0, cd_other k0_1, cd_other k0_3⟩ | exact ⟨cs_other (cs_other (cs_other (cs_other (k0_0) ne0_1) ne0_1) ne0_1) ne0_1, cs_other (cs_other (cs_other (cs_other (k0_1) ne0_1) ne0_1) ne0_1) ne0_1, cs_other (cs_other (cs_other (cs_other (k0_3) ne0_1) ne0_1) ne0_1) ne0_1⟩ | fail))
      (first
      | (go_at_call_of 89 (Value.bool q.num.g); refine (makeS_v _ q.num.a q.num.n q.num.c xs _ _ ?_ (unhide N1) l1).mono ?_; exact (unhide A1).later (Below.refl _ _).drew; rintro e w1 ⟨x1, rfl, hb, ow1, ar1⟩; have hbx : Below w0.heap.size w0 w1 := below_of_drew hb; have szw1 := hbx.size; replace z1 := fun o => frozen_later hbx (World.block_lt_of_cell? _ _ k1_0) (z1 o); replace k0_0 := cell_later hbx k0_0; replace k0_1 := cell_later hbx k0_1; replace k0_3 := cell_later hbx k0_3; replace k1_0 := cell_later hbx k1_0; replace k1_1 := cell_later hbx k1_1; replace k1_2 := cell_later hbx k1_2; replace k1_3 := cell_later hbx k1_3; replace A1 := hide ((unhide A1).later hbx); replace A2 := hide ((unhide A2).later hbx); have eo := unhide SG; rw [eo.1] at ow1 ar1; replace ow1 : AllOwn w0.heap.size w1.heap.size w1 [(x1, ⟨decide (N < 0), xs⟩)] := ow1; clear ar1 eo; have O1 := hide (ow1); have HBr := hide hbx; clear hbx hb ow1)
      | (go_at_call_of 89 (Value.bool false); refine (makeS_v false q.den.a q.den.n q.den.c us _ _ ?_ (unhide N2) l2).mono ?_; exact (unhide A2).later (Below.refl _ _); rintro e w2 ⟨x2, rfl, hb, ow2, ar2⟩; have hbx : Below w1.heap.size w1 w2 := hb; have szw2 := hbx.size; replace z1 := fun o => frozen_later hbx (World.block_lt_of_cell? _ _ k1_0) (z1 o); replace k0_0 := cell_later hbx k0_0; replace k0_1 := cell_later hbx k0_1; replace k0_3 := cell_later hbx k0_3; replace k1_0 := cell_later hbx k1_0; replace k1_1 := cell_later hbx k1_1; replace k1_2 := cell_later hbx k1_2; replace k1_3 := cell_later hbx k1_3; replace A1 := hide ((unhide A1).later hbx); replace A2 := hide ((unhide A2).later hbx); replace O1 := hide ((unhide O1).later hbx); rw [(unhide SG).2] at ow2; clear ar2; have O2 := hide (ow2); have HBr := hide (below_on (unhide HBr) hbx); clear hbx hb ow2))
    replace HB := hide (below_on (unhide HB) (unhide HBr))
    clear HBr
    have OO := hide (((unhide O1).join (unhide O2) (by omega) (by omega)).wide (lo' := w.heap.size + 1 + 1) (hi' := w2.heap.size) (by omega) (by omega))
    go_wp2
    refine bodyPost_ret (v := .tuple #[.agg #[.bool x1.g, .slice x1.a x1.n x1.c, .bool x2.g, .slice x2.a x2.n x2.c], .bool true]) (by simp [results, Try.results73, go_sem, k1_0, k1_1, k1_2, k1_3]) rfl ?_
    exact retQ_fin (v := ⟨x1, x2⟩) (d := ⟨⟨decide (N < 0), xs⟩, ⟨decide (D < 0), us⟩⟩) (R := w.heap.size + 1) (by omega) (unhide HB) (metQ_but (w5 := w2) (v := ⟨x1, x2⟩) (G := w.heap.size + 1)) (unhide OO) (.inl ⟨rfl, xs, us, unhide N1, unhide N2, .inl ⟨(unhide LL).1 ▸ (unhide HF).1, (unhide LL).2 ▸ (unhide HF).2, rfl, rfl⟩⟩)
  by_cases h1 : 40 < q.num.n
  · have t1 : decide ((40 : Int) < (q.num.n : Int)) = true := by simp; omega
    have HF := hide hf
    clear hf
    have HB := hide (show Below w.heap.size w ((w.alloc (.cells #[.bool q.num.g, .slice q.num.a q.num.n q.num.c, .bool q.den.g, .slice q.den.a q.den.n q.den.c] 50)).alloc (.cells #[.bool false, .slice none 0 0, .bool false, .slice none 0 0] 50)) from (((Below.refl _ _).alloc (by simp) _).alloc (by simp) _))
    go_enter Try.func73, Try.ntmps73
    go_wp2
    refine bodyPost_ret (v := .tuple #[.agg #[.bool false, .slice none 0 0, .bool false, .slice none 0 0], .bool false]) (by simp [results, Try.results73, go_sem]) rfl ?_
    exact ⟨(⟨⟨false, none, 0, 0⟩, ⟨false, none, 0, 0⟩⟩ : QV), (⟨⟨false, []⟩, ⟨false, []⟩⟩ : QD), false, rfl, unhide HB, zeroQ _ _ _, .inl ⟨rfl, xs, us, unhide N1, unhide N2, .inr ⟨by rw [(unhide LL).1, (unhide LL).2]; have := unhide HF; omega, rfl, rfl⟩⟩⟩
  · have t1 : decide ((40 : Int) < (q.num.n : Int)) = false := by simp; omega
    have t2 : decide ((40 : Int) < (q.den.n : Int)) = true := by simp; omega
    have HF := hide hf
    clear hf
    have HB := hide (show Below w.heap.size w ((w.alloc (.cells #[.bool q.num.g, .slice q.num.a q.num.n q.num.c, .bool q.den.g, .slice q.den.a q.den.n q.den.c] 50)).alloc (.cells #[.bool false, .slice none 0 0, .bool false, .slice none 0 0] 50)) from (((Below.refl _ _).alloc (by simp) _).alloc (by simp) _))
    go_enter Try.func73, Try.ntmps73
    go_wp2
    refine bodyPost_ret (v := .tuple #[.agg #[.bool false, .slice none 0 0, .bool false, .slice none 0 0], .bool false]) (by simp [results, Try.results73, go_sem]) rfl ?_
    exact ⟨(⟨⟨false, none, 0, 0⟩, ⟨false, none, 0, 0⟩⟩ : QV), (⟨⟨false, []⟩, ⟨false, []⟩⟩ : QD), false, rfl, unhide HB, zeroQ _ _ _, .inl ⟨rfl, xs, us, unhide N1, unhide N2, .inr ⟨by rw [(unhide LL).1, (unhide LL).2]; have := unhide HF; omega, rfl, rfl⟩⟩⟩

end Go.Proofs.Ytikllcoekcglcaa
namespace Go.Proofs.Ytikllcoekcglcaa
open Go.RowKit
set_option linter.unusedVariables false
set_option maxRecDepth 100000
set_option linter.unusedSimpArgs false

theorem szS_in (v : SV) (left : Int) (w : World) (h0 : 0 ≤ left) (h1 : left ≤ 1048576) (h : (v.lo.num.n : Int) + (v.lo.den.n : Int) + (v.hi.num.n : Int) + (v.hi.den.n : Int) ≤ left) :
    Calls Try.prog 30 #[.agg #[.bool v.lo.num.g, .slice v.lo.num.a v.lo.num.n v.lo.num.c, .bool v.lo.den.g, .slice v.lo.den.a v.lo.den.n v.lo.den.c, .bool v.hi.num.g, .slice v.hi.num.a v.hi.num.n v.hi.num.c, .bool v.hi.den.g, .slice v.hi.den.a v.hi.den.n v.hi.den.c], .int .i64 left] w fun e w' => e = .returned (.int .i64 (left - (v.lo.num.n : Int) - (v.lo.den.n : Int) - (v.hi.num.n : Int) - (v.hi.den.n : Int))) ∧ Below w.heap.size w w' := by
  have k1 : ¬ (left - (v.lo.num.n : Int) - (v.lo.den.n : Int) < 0) := by omega
  have k2 : ¬ (left - (v.lo.num.n : Int) - (v.lo.den.n : Int) - (v.hi.num.n : Int) - (v.hi.den.n : Int) < 0) := by omega
  go_enter Try.func30, Try.ntmps30
  go_wp2_with fail
  refine (szQ_in v.lo left _ h0 h1 (by omega)).mono ?_
  rintro e w1 ⟨rfl, hb1⟩
  have y4 : w1.cell? ⟨w.heap.size, 4, none⟩ = some (.bool v.hi.num.g) := cell_later hb1 (by simp [go_sem])
  have y5 : w1.cell? ⟨w.heap.size, 5, none⟩ = some (.slice v.hi.num.a v.hi.num.n v.hi.num.c) := cell_later hb1 (by simp [go_sem])
  have y6 : w1.cell? ⟨w.heap.size, 6, none⟩ = some (.bool v.hi.den.g) := cell_later hb1 (by simp [go_sem])
  have y7 : w1.cell? ⟨w.heap.size, 7, none⟩ = some (.slice v.hi.den.a v.hi.den.n v.hi.den.c) := cell_later hb1 (by simp [go_sem])
  have HB := hide (ba hb1)
  clear hb1
  go_wp2_with fail
  refine (szQ_in v.hi _ _ (by omega) (by omega) (by omega)).mono ?_
  rintro e w2 ⟨rfl, hb2⟩
  have HB2 := hide (below_on (unhide HB) hb2)
  clear hb2
  go_wp2
  go_ret
  exact ⟨rfl, unhide HB2⟩

theorem szS_out (v : SV) (left : Int) (w : World) (h0 : 0 ≤ left) (h1 : left ≤ 1048576) (hm0 : v.lo.num.n ≤ maxLen) (hm1 : v.lo.den.n ≤ maxLen) (hm2 : v.hi.num.n ≤ maxLen) (hm3 : v.hi.den.n ≤ maxLen) (h : left < (v.lo.num.n : Int) + (v.lo.den.n : Int) + (v.hi.num.n : Int) + (v.hi.den.n : Int)) :
    Calls Try.prog 30 #[.agg #[.bool v.lo.num.g, .slice v.lo.num.a v.lo.num.n v.lo.num.c, .bool v.lo.den.g, .slice v.lo.den.a v.lo.den.n v.lo.den.c, .bool v.hi.num.g, .slice v.hi.num.a v.hi.num.n v.hi.num.c, .bool v.hi.den.g, .slice v.hi.den.a v.hi.den.n v.hi.den.c], .int .i64 left] w fun e w' => e = .returned (.int .i64 (-1)) ∧ Below w.heap.size w w' := by
  by_cases hn : left < (v.lo.num.n : Int) + (v.lo.den.n : Int)
  · go_enter Try.func30, Try.ntmps30
    go_wp2_with fail
    refine (szQ_out v.lo left _ h0 h1 hm0 hm1 hn).mono ?_
    rintro e w1 ⟨rfl, hb1⟩
    have HB := hide (ba hb1)
    clear hb1
    go_wp2
    go_ret
    exact ⟨rfl, unhide HB⟩
  · have k1 : ¬ (left - (v.lo.num.n : Int) - (v.lo.den.n : Int) < 0) := by omega
    go_enter Try.func30, Try.ntmps30
    go_wp2_with fail
    refine (szQ_in v.lo left _ h0 h1 (by omega)).mono ?_
    rintro e w1 ⟨rfl, hb1⟩
    have y4 : w1.cell? ⟨w.heap.size, 4, none⟩ = some (.bool v.hi.num.g) := cell_later hb1 (by simp [go_sem])
    have y5 : w1.cell? ⟨w.heap.size, 5, none⟩ = some (.slice v.hi.num.a v.hi.num.n v.hi.num.c) := cell_later hb1 (by simp [go_sem])
    have y6 : w1.cell? ⟨w.heap.size, 6, none⟩ = some (.bool v.hi.den.g) := cell_later hb1 (by simp [go_sem])
    have y7 : w1.cell? ⟨w.heap.size, 7, none⟩ = some (.slice v.hi.den.a v.hi.den.n v.hi.den.c) := cell_later hb1 (by simp [go_sem])
    have HB := hide (ba hb1)
    clear hb1
    go_wp2_with fail
    refine (szQ_out v.hi _ _ (by omega) (by omega) hm2 hm3 (by omega)).mono ?_
    rintro e w2 ⟨rfl, hb2⟩
    have HB2 := hide (below_on (unhide HB) hb2)
    clear hb2
    go_wp2
    go_ret
    exact ⟨rfl, unhide HB2⟩

theorem AllSl.Sl {w : World} {v : SV} {d : SD} (h : AllSl w [(v.lo.num, d.lo.num), (v.lo.den, d.lo.den), (v.hi.num, d.hi.num), (v.hi.den, d.hi.den)]) : AllSl w [(v.lo.num, d.lo.num), (v.lo.den, d.lo.den)] := fun p hp => h p (show p ∈ [(v.lo.num, d.lo.num), (v.lo.den, d.lo.den), (v.hi.num, d.hi.num), (v.hi.den, d.hi.den)] from (List.mem_append_left [(v.hi.num, d.hi.num), (v.hi.den, d.hi.den)] hp : p ∈ [(v.lo.num, d.lo.num), (v.lo.den, d.lo.den)] ++ [(v.hi.num, d.hi.num), (v.hi.den, d.hi.den)]))
theorem AllSl.Sr {w : World} {v : SV} {d : SD} (h : AllSl w [(v.lo.num, d.lo.num), (v.lo.den, d.lo.den), (v.hi.num, d.hi.num), (v.hi.den, d.hi.den)]) : AllSl w [(v.hi.num, d.hi.num), (v.hi.den, d.hi.den)] := fun p hp => h p (show p ∈ [(v.lo.num, d.lo.num), (v.lo.den, d.lo.den), (v.hi.num, d.hi.num), (v.hi.den, d.hi.den)] from (List.mem_append_right [(v.lo.num, d.lo.num), (v.lo.den, d.lo.den)] hp : p ∈ [(v.lo.num, d.lo.num), (v.lo.den, d.lo.den)] ++ [(v.hi.num, d.hi.num), (v.hi.den, d.hi.den)]))
theorem AllAr.Sl {w : World} {v : SV} {d : SD} (h : AllAr w [(v.lo.num, d.lo.num), (v.lo.den, d.lo.den), (v.hi.num, d.hi.num), (v.hi.den, d.hi.den)]) : AllAr w [(v.lo.num, d.lo.num), (v.lo.den, d.lo.den)] := fun p hp => h p (show p ∈ [(v.lo.num, d.lo.num), (v.lo.den, d.lo.den), (v.hi.num, d.hi.num), (v.hi.den, d.hi.den)] from (List.mem_append_left [(v.hi.num, d.hi.num), (v.hi.den, d.hi.den)] hp : p ∈ [(v.lo.num, d.lo.num), (v.lo.den, d.lo.den)] ++ [(v.hi.num, d.hi.num), (v.hi.den, d.hi.den)]))
theorem AllAr.Sr {w : World} {v : SV} {d : SD} (h : AllAr w [(v.lo.num, d.lo.num), (v.lo.den, d.lo.den), (v.hi.num, d.hi.num), (v.hi.den, d.hi.den)]) : AllAr w [(v.hi.num, d.hi.num), (v.hi.den, d.hi.den)] := fun p hp => h p (show p ∈ [(v.lo.num, d.lo.num), (v.lo.den, d.lo.den), (v.hi.num, d.hi.num), (v.hi.den, d.hi.den)] from (List.mem_append_right [(v.lo.num, d.lo.num), (v.lo.den, d.lo.den)] hp : p ∈ [(v.lo.num, d.lo.num), (v.lo.den, d.lo.den)] ++ [(v.hi.num, d.hi.num), (v.hi.den, d.hi.den)]))

set_option maxHeartbeats 4000000 in
theorem toS_at (v : SV) (d : SD) (w : World) (h : AllSl w [(v.lo.num, d.lo.num), (v.lo.den, d.lo.den), (v.hi.num, d.hi.num), (v.hi.den, d.hi.den)]) (h1 : v.lo.num.n ≤ 1048576) (h2 : v.lo.den.n ≤ 1048576) (h3 : v.hi.num.n ≤ 1048576) (h4 : v.hi.den.n ≤ 1048576) :
    Calls Try.prog 33 #[.agg #[.bool v.lo.num.g, .slice v.lo.num.a v.lo.num.n v.lo.num.c, .bool v.lo.den.g, .slice v.lo.den.a v.lo.den.n v.lo.den.c, .bool v.hi.num.g, .slice v.hi.num.a v.hi.num.n v.hi.num.c, .bool v.hi.den.g, .slice v.hi.den.a v.hi.den.n v.hi.den.c]] w fun e w' => ∃ u : SV, e = .returned (.agg #[.bool u.lo.num.g, .slice u.lo.num.a u.lo.num.n u.lo.num.c, .bool u.lo.den.g, .slice u.lo.den.a u.lo.den.n u.lo.den.c, .bool u.hi.num.g, .slice u.hi.num.a u.hi.num.n u.hi.num.c, .bool u.hi.den.g, .slice u.hi.den.a u.hi.den.n u.hi.den.c]) ∧ Below w.heap.size w w' ∧ (u.lo.num.n = v.lo.num.n ∧ u.lo.den.n = v.lo.den.n ∧ u.hi.num.n = v.hi.num.n ∧ u.hi.den.n = v.hi.den.n) ∧ AllOwn w.heap.size w'.heap.size w' [(u.lo.num, d.lo.num), (u.lo.den, d.lo.den), (u.hi.num, d.hi.num), (u.hi.den, d.hi.den)] ∧ AllAr w' [(u.lo.num, d.lo.num), (u.lo.den, d.lo.den), (u.hi.num, d.hi.num), (u.hi.den, d.hi.den)] := by
  have HX := hide h
  clear h
  have B3 := hide (below_three w (.cells #[.bool v.lo.num.g, .slice v.lo.num.a v.lo.num.n v.lo.num.c, .bool v.lo.den.g, .slice v.lo.den.a v.lo.den.n v.lo.den.c, .bool v.hi.num.g, .slice v.hi.num.a v.hi.num.n v.hi.num.c, .bool v.hi.den.g, .slice v.hi.den.a v.hi.den.n v.hi.den.c] 47) (.cells #[.bool false, .slice none 0 0, .bool false, .slice none 0 0, .bool false, .slice none 0 0, .bool false, .slice none 0 0] 52) (.cells #[.bool false, .slice none 0 0, .bool false, .slice none 0 0, .bool false, .slice none 0 0, .bool false, .slice none 0 0] 52))
  go_enter Try.func33, Try.ntmps33
  go_wp2_with fail
  refine (toQ_at v.lo d.lo _ ((unhide HX).Sl.later (unhide B3)) h1 h2).mono ?_
  rintro e w1 ⟨u1, rfl, hb1, hn1, ow1, ar1⟩
  have hs1 : w.heap.size + 3 ≤ w1.heap.size := by have := hb1.size; simp at this; omega
  have ow1' : AllOwn (w.heap.size + 3) w1.heap.size w1 [(u1.num, d.lo.num), (u1.den, d.lo.den)] := ow1.wide (by simp) (Nat.le_refl _)
  have B1 : Below w.heap.size w w1 := (unhide B3).trans (hb1.mono (by simp <;> omega))
  have y4 : w1.cell? ⟨w.heap.size, 4, none⟩ = some (.bool v.hi.num.g) := cell_later hb1 (by simp [go_sem])
  have y5 : w1.cell? ⟨w.heap.size, 5, none⟩ = some (.slice v.hi.num.a v.hi.num.n v.hi.num.c) := cell_later hb1 (by simp [go_sem])
  have y6 : w1.cell? ⟨w.heap.size, 6, none⟩ = some (.bool v.hi.den.g) := cell_later hb1 (by simp [go_sem])
  have y7 : w1.cell? ⟨w.heap.size, 7, none⟩ = some (.slice v.hi.den.a v.hi.den.n v.hi.den.c) := cell_later hb1 (by simp [go_sem])
  have q0 : w1.cell? ⟨w.heap.size + 1, 0, none⟩ = some (.bool false) := cell_later hb1 (by simp [go_sem])
  have q1 : w1.cell? ⟨w.heap.size + 1, 1, none⟩ = some (.slice none 0 0) := cell_later hb1 (by simp [go_sem])
  have q2 : w1.cell? ⟨w.heap.size + 1, 2, none⟩ = some (.bool false) := cell_later hb1 (by simp [go_sem])
  have q3 : w1.cell? ⟨w.heap.size + 1, 3, none⟩ = some (.slice none 0 0) := cell_later hb1 (by simp [go_sem])
  have q4 : w1.cell? ⟨w.heap.size + 1, 4, none⟩ = some (.bool false) := cell_later hb1 (by simp [go_sem])
  have q5 : w1.cell? ⟨w.heap.size + 1, 5, none⟩ = some (.slice none 0 0) := cell_later hb1 (by simp [go_sem])
  have q6 : w1.cell? ⟨w.heap.size + 1, 6, none⟩ = some (.bool false) := cell_later hb1 (by simp [go_sem])
  have q7 : w1.cell? ⟨w.heap.size + 1, 7, none⟩ = some (.slice none 0 0) := cell_later hb1 (by simp [go_sem])
  have r0 : w1.cell? ⟨w.heap.size + 1 + 1, 0, none⟩ = some (.bool false) := cell_later hb1 (by simp [go_sem])
  have r1 : w1.cell? ⟨w.heap.size + 1 + 1, 1, none⟩ = some (.slice none 0 0) := cell_later hb1 (by simp [go_sem])
  have r2 : w1.cell? ⟨w.heap.size + 1 + 1, 2, none⟩ = some (.bool false) := cell_later hb1 (by simp [go_sem])
  have r3 : w1.cell? ⟨w.heap.size + 1 + 1, 3, none⟩ = some (.slice none 0 0) := cell_later hb1 (by simp [go_sem])
  have r4 : w1.cell? ⟨w.heap.size + 1 + 1, 4, none⟩ = some (.bool false) := cell_later hb1 (by simp [go_sem])
  have r5 : w1.cell? ⟨w.heap.size + 1 + 1, 5, none⟩ = some (.slice none 0 0) := cell_later hb1 (by simp [go_sem])
  have r6 : w1.cell? ⟨w.heap.size + 1 + 1, 6, none⟩ = some (.bool false) := cell_later hb1 (by simp [go_sem])
  have r7 : w1.cell? ⟨w.heap.size + 1 + 1, 7, none⟩ = some (.slice none 0 0) := cell_later hb1 (by simp [go_sem])
  have f1 : ∀ o, w1.frozen? ⟨w.heap.size + 1, o, none⟩ = false := fun o => frozen_later hb1 (by simp) (by simp [go_sem])
  have f2 : ∀ o, w1.frozen? ⟨w.heap.size + 1 + 1, o, none⟩ = false := fun o => frozen_later hb1 (by simp) (by simp [go_sem])
  have O1 := hide (And.intro ow1' (And.intro ar1 hn1))
  have HB1 := hide B1
  clear ow1 ow1' ar1 hn1 hb1 B1
  go_wp2_with fail
  have B1' : Below w.heap.size w ((((w1.setCell ⟨w.heap.size + 1 + 1, 0, none⟩ (.bool u1.num.g)).setCell ⟨w.heap.size + 1 + 1, 1, none⟩ (.slice u1.num.a u1.num.n u1.num.c)).setCell ⟨w.heap.size + 1 + 1, 2, none⟩ (.bool u1.den.g)).setCell ⟨w.heap.size + 1 + 1, 3, none⟩ (.slice u1.den.a u1.den.n u1.den.c)) := (((((unhide HB1).setCell (by show w.heap.size ≤ w.heap.size + 1 + 1; omega) _).setCell (by show w.heap.size ≤ w.heap.size + 1 + 1; omega) _).setCell (by show w.heap.size ≤ w.heap.size + 1 + 1; omega) _).setCell (by show w.heap.size ≤ w.heap.size + 1 + 1; omega) _)
  refine (toQ_at v.hi d.hi _ ((unhide HX).Sr.later B1') h3 h4).mono ?_
  rintro e w2 ⟨u2, rfl, hb2, hn2, ow2, ar2⟩
  have hsz : ((((w1.setCell ⟨w.heap.size + 1 + 1, 0, none⟩ (.bool u1.num.g)).setCell ⟨w.heap.size + 1 + 1, 1, none⟩ (.slice u1.num.a u1.num.n u1.num.c)).setCell ⟨w.heap.size + 1 + 1, 2, none⟩ (.bool u1.den.g)).setCell ⟨w.heap.size + 1 + 1, 3, none⟩ (.slice u1.den.a u1.den.n u1.den.c)).heap.size = w1.heap.size := by simp [World.setCell]
  have ow2' : AllOwn w1.heap.size w2.heap.size w2 [(u2.num, d.hi.num), (u2.den, d.hi.den)] := ow2.wide (by rw [hsz]; exact Nat.le_refl _) (Nat.le_refl _)
  have bt : But (w.heap.size + 1 + 1) (w.heap.size + 3) w1 ((((w1.setCell ⟨w.heap.size + 1 + 1, 0, none⟩ (.bool u1.num.g)).setCell ⟨w.heap.size + 1 + 1, 1, none⟩ (.slice u1.num.a u1.num.n u1.num.c)).setCell ⟨w.heap.size + 1 + 1, 2, none⟩ (.bool u1.den.g)).setCell ⟨w.heap.size + 1 + 1, 3, none⟩ (.slice u1.den.a u1.den.n u1.den.c)) := (((((But.refl _ _ _).set (p := ⟨w.heap.size + 1 + 1, 0, none⟩) (Nat.le_refl _) (by show w.heap.size + 1 + 1 < w.heap.size + 3; omega) _).set (p := ⟨w.heap.size + 1 + 1, 1, none⟩) (Nat.le_refl _) (by show w.heap.size + 1 + 1 < w.heap.size + 3; omega) _).set (p := ⟨w.heap.size + 1 + 1, 2, none⟩) (Nat.le_refl _) (by show w.heap.size + 1 + 1 < w.heap.size + 3; omega) _).set (p := ⟨w.heap.size + 1 + 1, 3, none⟩) (Nat.le_refl _) (by show w.heap.size + 1 + 1 < w.heap.size + 3; omega) _)
  have ow1 : AllOwn (w.heap.size + 3) w1.heap.size w2 [(u1.num, d.lo.num), (u1.den, d.lo.den)] := ((unhide O1).1.but bt (.inr (Nat.le_refl _))).later hb2
  have ar1 : AllAr w2 [(u1.num, d.lo.num), (u1.den, d.lo.den)] := fun p hp => ⟨((unhide O1).2.1 p hp).sg, ⟨(ow1.sl p hp).sl, ((unhide O1).2.1 p hp).ar.len, ((unhide O1).2.1 p hp).ar.cap, ((unhide O1).2.1 p hp).ar.top, ((unhide O1).2.1 p hp).ar.addr⟩⟩
  have hs2 : w1.heap.size ≤ w2.heap.size := by have := hb2.size; rw [hsz] at this; exact this
  have s0 : w2.cell? ⟨w.heap.size + 1 + 1, 0, none⟩ = some (.bool u1.num.g) := cell_later hb2 (by simp [go_sem, r0, r1, r2, r3, r4, r5, r6, r7])
  have s1 : w2.cell? ⟨w.heap.size + 1 + 1, 1, none⟩ = some (.slice u1.num.a u1.num.n u1.num.c) := cell_later hb2 (by simp [go_sem, r0, r1, r2, r3, r4, r5, r6, r7])
  have s2 : w2.cell? ⟨w.heap.size + 1 + 1, 2, none⟩ = some (.bool u1.den.g) := cell_later hb2 (by simp [go_sem, r0, r1, r2, r3, r4, r5, r6, r7])
  have s3 : w2.cell? ⟨w.heap.size + 1 + 1, 3, none⟩ = some (.slice u1.den.a u1.den.n u1.den.c) := cell_later hb2 (by simp [go_sem, r0, r1, r2, r3, r4, r5, r6, r7])
  have s4 : w2.cell? ⟨w.heap.size + 1 + 1, 4, none⟩ = some (.bool false) := cell_later hb2 (by simp [go_sem, r4])
  have s5 : w2.cell? ⟨w.heap.size + 1 + 1, 5, none⟩ = some (.slice none 0 0) := cell_later hb2 (by simp [go_sem, r5])
  have s6 : w2.cell? ⟨w.heap.size + 1 + 1, 6, none⟩ = some (.bool false) := cell_later hb2 (by simp [go_sem, r6])
  have s7 : w2.cell? ⟨w.heap.size + 1 + 1, 7, none⟩ = some (.slice none 0 0) := cell_later hb2 (by simp [go_sem, r7])
  have t0 : w2.cell? ⟨w.heap.size + 1, 0, none⟩ = some (.bool false) := cell_later hb2 (by simp [go_sem, q0])
  have t1 : w2.cell? ⟨w.heap.size + 1, 1, none⟩ = some (.slice none 0 0) := cell_later hb2 (by simp [go_sem, q1])
  have t2 : w2.cell? ⟨w.heap.size + 1, 2, none⟩ = some (.bool false) := cell_later hb2 (by simp [go_sem, q2])
  have t3 : w2.cell? ⟨w.heap.size + 1, 3, none⟩ = some (.slice none 0 0) := cell_later hb2 (by simp [go_sem, q3])
  have t4 : w2.cell? ⟨w.heap.size + 1, 4, none⟩ = some (.bool false) := cell_later hb2 (by simp [go_sem, q4])
  have t5 : w2.cell? ⟨w.heap.size + 1, 5, none⟩ = some (.slice none 0 0) := cell_later hb2 (by simp [go_sem, q5])
  have t6 : w2.cell? ⟨w.heap.size + 1, 6, none⟩ = some (.bool false) := cell_later hb2 (by simp [go_sem, q6])
  have t7 : w2.cell? ⟨w.heap.size + 1, 7, none⟩ = some (.slice none 0 0) := cell_later hb2 (by simp [go_sem, q7])
  have f3 : ∀ o, w2.frozen? ⟨w.heap.size + 1, o, none⟩ = false := fun o => frozen_later hb2 (by rw [hsz]; omega) (by simp [go_sem, f1])
  have f4 : ∀ o, w2.frozen? ⟨w.heap.size + 1 + 1, o, none⟩ = false := fun o => frozen_later hb2 (by rw [hsz]; omega) (by simp [go_sem, f2])
  have HO := hide (And.intro (ow1.join ow2' hs1 hs2) (And.intro ar1 (And.intro ar2 (And.intro (unhide O1).2.2 hn2))))
  have HB2 := hide (below_on B1' hb2)
  clear ow1 ow2 ow2' ar1 ar2 hn2 hb2 bt B1' y4 y5 y6 y7 q0 r0 q1 r1 q2 r2 q3 r3 q4 r4 q5 r5 q6 r6 q7 r7 f1 f2 O1 HB1 hsz
  go_wp2
  have hlt : (w.heap.size ≤ w.heap.size + 1 + 1) ∧ (w.heap.size ≤ w.heap.size + 1) ∧ (w.heap.size + 1 + 1 < w.heap.size + 3) ∧ (w.heap.size + 1 < w.heap.size + 3) ∧ (w.heap.size + 1 ≤ w.heap.size + 1 + 1) := by omega
  have bt : But (w.heap.size + 1) (w.heap.size + 3) w2 ((((((((((((w2.setCell ⟨w.heap.size + 1 + 1, 4, none⟩ (.bool u2.num.g)).setCell ⟨w.heap.size + 1 + 1, 5, none⟩ (.slice u2.num.a u2.num.n u2.num.c)).setCell ⟨w.heap.size + 1 + 1, 6, none⟩ (.bool u2.den.g)).setCell ⟨w.heap.size + 1 + 1, 7, none⟩ (.slice u2.den.a u2.den.n u2.den.c)).setCell ⟨w.heap.size + 1, 0, none⟩ (.bool u1.num.g)).setCell ⟨w.heap.size + 1, 1, none⟩ (.slice u1.num.a u1.num.n u1.num.c)).setCell ⟨w.heap.size + 1, 2, none⟩ (.bool u1.den.g)).setCell ⟨w.heap.size + 1, 3, none⟩ (.slice u1.den.a u1.den.n u1.den.c)).setCell ⟨w.heap.size + 1, 4, none⟩ (.bool u2.num.g)).setCell ⟨w.heap.size + 1, 5, none⟩ (.slice u2.num.a u2.num.n u2.num.c)).setCell ⟨w.heap.size + 1, 6, none⟩ (.bool u2.den.g)).setCell ⟨w.heap.size + 1, 7, none⟩ (.slice u2.den.a u2.den.n u2.den.c)) := by
    refine ((((((((((((But.refl _ _ _).set (p := ⟨w.heap.size + 1 + 1, 4, none⟩) ?_ ?_ _).set (p := ⟨w.heap.size + 1 + 1, 5, none⟩) ?_ ?_ _).set (p := ⟨w.heap.size + 1 + 1, 6, none⟩) ?_ ?_ _).set (p := ⟨w.heap.size + 1 + 1, 7, none⟩) ?_ ?_ _).set (p := ⟨w.heap.size + 1, 0, none⟩) ?_ ?_ _).set (p := ⟨w.heap.size + 1, 1, none⟩) ?_ ?_ _).set (p := ⟨w.heap.size + 1, 2, none⟩) ?_ ?_ _).set (p := ⟨w.heap.size + 1, 3, none⟩) ?_ ?_ _).set (p := ⟨w.heap.size + 1, 4, none⟩) ?_ ?_ _).set (p := ⟨w.heap.size + 1, 5, none⟩) ?_ ?_ _).set (p := ⟨w.heap.size + 1, 6, none⟩) ?_ ?_ _).set (p := ⟨w.heap.size + 1, 7, none⟩) ?_ ?_ _ <;> first | exact hlt.1 | exact hlt.2.1 | exact hlt.2.2.1 | exact hlt.2.2.2.1 | exact hlt.2.2.2.2 | exact Nat.le_refl _
  refine bodyPost_ret (v := .agg #[.bool u1.num.g, .slice u1.num.a u1.num.n u1.num.c, .bool u1.den.g, .slice u1.den.a u1.den.n u1.den.c, .bool u2.num.g, .slice u2.num.a u2.num.n u2.num.c, .bool u2.den.g, .slice u2.den.a u2.den.n u2.den.c]) (by simp [results, Try.results33, go_sem, s0, t0, s1, t1, s2, t2, s3, t3, s4, t4, s5, t5, s6, t6, s7, t7]) rfl ⟨⟨u1, u2⟩, rfl, bt.below (unhide HB2) (Nat.le_succ _) (unhide HB2).size, ?_, ?_, ?_⟩
  · have q := (unhide HO).2.2.2
    exact ⟨q.1.1, q.1.2, q.2.1, q.2.2⟩
  · exact ((unhide HO).1.but bt (.inr (Nat.le_refl _))).wide (by omega) bt.size
  · have oo := ((unhide HO).1.but bt (.inr (Nat.le_refl _))).sl
    have aa := (unhide HO).2.1.append (unhide HO).2.2.1
    exact fun p hp => ⟨(aa p hp).sg, ⟨(oo p hp).sl, (aa p hp).ar.len, (aa p hp).ar.cap, (aa p hp).ar.top, (aa p hp).ar.addr⟩⟩

set_option maxHeartbeats 1000000 in
theorem eqS_at (v v' : SV) (d : SD) (w : World) (h : AllSl w [(v.lo.num, d.lo.num), (v.lo.den, d.lo.den), (v.hi.num, d.hi.num), (v.hi.den, d.hi.den)]) (h' : AllSl w [(v'.lo.num, d.lo.num), (v'.lo.den, d.lo.den), (v'.hi.num, d.hi.num), (v'.hi.den, d.hi.den)]) (hm0 : v.lo.num.n ≤ maxLen) (hm1 : v.lo.den.n ≤ maxLen) (hm2 : v.hi.num.n ≤ maxLen) (hm3 : v.hi.den.n ≤ maxLen) :
    Calls Try.prog 37 #[.agg #[.bool v.lo.num.g, .slice v.lo.num.a v.lo.num.n v.lo.num.c, .bool v.lo.den.g, .slice v.lo.den.a v.lo.den.n v.lo.den.c, .bool v.hi.num.g, .slice v.hi.num.a v.hi.num.n v.hi.num.c, .bool v.hi.den.g, .slice v.hi.den.a v.hi.den.n v.hi.den.c], .agg #[.bool v'.lo.num.g, .slice v'.lo.num.a v'.lo.num.n v'.lo.num.c, .bool v'.lo.den.g, .slice v'.lo.den.a v'.lo.den.n v'.lo.den.c, .bool v'.hi.num.g, .slice v'.hi.num.a v'.hi.num.n v'.hi.num.c, .bool v'.hi.den.g, .slice v'.hi.den.a v'.hi.den.n v'.hi.den.c]] w fun e w' => e = .returned (.bool true) ∧ Below w.heap.size w w' := by
  have HX := hide h
  have HX' := hide h'
  clear h h'
  have B2 := hide (below_two w (.cells #[.bool v.lo.num.g, .slice v.lo.num.a v.lo.num.n v.lo.num.c, .bool v.lo.den.g, .slice v.lo.den.a v.lo.den.n v.lo.den.c, .bool v.hi.num.g, .slice v.hi.num.a v.hi.num.n v.hi.num.c, .bool v.hi.den.g, .slice v.hi.den.a v.hi.den.n v.hi.den.c] 52) (.cells #[.bool v'.lo.num.g, .slice v'.lo.num.a v'.lo.num.n v'.lo.num.c, .bool v'.lo.den.g, .slice v'.lo.den.a v'.lo.den.n v'.lo.den.c, .bool v'.hi.num.g, .slice v'.hi.num.a v'.hi.num.n v'.hi.num.c, .bool v'.hi.den.g, .slice v'.hi.den.a v'.hi.den.n v'.hi.den.c] 52))
  go_enter Try.func37, Try.ntmps37
  go_wp2_with fail
  refine (eqQ_at v.lo v'.lo d.lo _ ((unhide HX).Sl.later (unhide B2)) ((unhide HX').Sl.later (unhide B2)) hm0 hm1).mono ?_
  rintro e w1 ⟨rfl, hb1⟩
  have x4 : w1.cell? ⟨w.heap.size, 4, none⟩ = some (.bool v.hi.num.g) := cell_later hb1 (by simp [go_sem])
  have x5 : w1.cell? ⟨w.heap.size, 5, none⟩ = some (.slice v.hi.num.a v.hi.num.n v.hi.num.c) := cell_later hb1 (by simp [go_sem])
  have x6 : w1.cell? ⟨w.heap.size, 6, none⟩ = some (.bool v.hi.den.g) := cell_later hb1 (by simp [go_sem])
  have x7 : w1.cell? ⟨w.heap.size, 7, none⟩ = some (.slice v.hi.den.a v.hi.den.n v.hi.den.c) := cell_later hb1 (by simp [go_sem])
  have y4 : w1.cell? ⟨w.heap.size + 1, 4, none⟩ = some (.bool v'.hi.num.g) := cell_later hb1 (by simp [go_sem])
  have y5 : w1.cell? ⟨w.heap.size + 1, 5, none⟩ = some (.slice v'.hi.num.a v'.hi.num.n v'.hi.num.c) := cell_later hb1 (by simp [go_sem])
  have y6 : w1.cell? ⟨w.heap.size + 1, 6, none⟩ = some (.bool v'.hi.den.g) := cell_later hb1 (by simp [go_sem])
  have y7 : w1.cell? ⟨w.heap.size + 1, 7, none⟩ = some (.slice v'.hi.den.a v'.hi.den.n v'.hi.den.c) := cell_later hb1 (by simp [go_sem])
  have HB := hide (below_two' hb1)
  clear hb1
  go_wp2_with fail
  refine (eqQ_at v.hi v'.hi d.hi _ ((unhide HX).Sr.later (unhide HB)) ((unhide HX').Sr.later (unhide HB)) hm2 hm3).mono ?_
  rintro e w2 ⟨rfl, hb2⟩
  have HB2 := hide (below_on (unhide HB) hb2)
  clear hb2
  go_wp2
  go_ret
  exact ⟨rfl, unhide HB2⟩

theorem re_assocS {lo hi : Nat} {w : World} {pre post xs ys : List (BV × BD)} (h : AllOwn lo hi w (pre ++ (xs ++ (ys ++ post)))) : AllOwn lo hi w ((pre ++ xs) ++ (ys ++ post)) := by rw [List.append_assoc]; exact h
end Go.Proofs.Ytikllcoekcglcaa
namespace Go.Proofs.Ytikllcoekcglcaa
open Go.RowKit
set_option linter.unusedVariables false
set_option maxRecDepth 100000
set_option linter.unusedSimpArgs false

/-- -1, 0 or 1. -/
def cmpZ (A B : Int) : Int := if A < B then -1 else if B < A then 1 else 0
theorem cmpTop_range (xs ys : List Int) (k : Nat) : cmpTop xs ys k = -1 ∨ cmpTop xs ys k = 0 ∨ cmpTop xs ys k = 1 := by
  induction k with
  | zero => right; left; rfl
  | succ k ih =>
    unfold cmpTop
    split
    · left; rfl
    · split
      · right; right; rfl
      · exact ih
theorem cmpL_range (xs ys : List Int) : cmpL xs ys = -1 ∨ cmpL xs ys = 0 ∨ cmpL xs ys = 1 := by
  unfold cmpL
  split
  · left; rfl
  · split
    · right; right; rfl
    · exact cmpTop_range _ _ _
theorem cmpB_val {A B : Int} {ts us : List Int} (h : Nm ts A.natAbs) (k : Nm us B.natAbs) : cmpB (decide (A < 0)) ts (decide (B < 0)) us = cmpZ A B := by
  have h1 := cmpL_val h.ok k.ok h.tr k.tr
  have h2 := cmpL_val k.ok h.ok k.tr h.tr
  have r1 := cmpL_range ts us
  have r2 := cmpL_range us ts
  rw [h.v, k.v] at h1 h2
  unfold cmpB cmpZ
  by_cases a : A < 0 <;> by_cases b : B < 0
  · rw [decide_eq_true a, decide_eq_true b, if_pos rfl, if_pos rfl]
    split
    · omega
    · split <;> omega
  · rw [decide_eq_true a, decide_eq_false b, if_neg (by simp), if_pos rfl, if_pos (by omega)]
  · rw [decide_eq_false a, decide_eq_true b, if_neg (by simp), if_neg (by simp), if_neg (by omega), if_pos (by omega)]
  · rw [decide_eq_false a, decide_eq_false b, if_pos rfl, if_neg (by simp)]
    split
    · omega
    · split <;> omega
def gS (d : SD) : Bool := (gQ d.lo && gQ d.hi) && decide (nQ d.lo * dQ d.hi ≤ nQ d.hi * dQ d.lo)
theorem cmpZ_le (A B : Int) : decide (cmpZ A B ≤ 0) = decide (A ≤ B) := by
  unfold cmpZ
  split
  · exact decide_eq_decide.2 (by omega)
  · split <;> exact decide_eq_decide.2 (by omega)
theorem AllAr.lo {w : World} {v : SV} {d : SD} (h : AllAr w [(v.lo.num, d.lo.num), (v.lo.den, d.lo.den), (v.hi.num, d.hi.num), (v.hi.den, d.hi.den)]) : AllAr w [(v.lo.num, d.lo.num), (v.lo.den, d.lo.den)] := h.Sl
theorem AllAr.hi {w : World} {v : SV} {d : SD} (h : AllAr w [(v.lo.num, d.lo.num), (v.lo.den, d.lo.den), (v.hi.num, d.hi.num), (v.hi.den, d.hi.den)]) : AllAr w [(v.hi.num, d.hi.num), (v.hi.den, d.hi.den)] := h.Sr

structure IsGoodS (w : World) (v : SV) (d : SD) : Prop where
  lo : IsGood w v.lo d.lo
  hi : IsGood w v.hi d.hi
  le : nQ d.lo * dQ d.hi ≤ nQ d.hi * dQ d.lo
theorem isGoodS_of {w : World} {v : SV} {d : SD} (h : AllAr w [(v.lo.num, d.lo.num), (v.lo.den, d.lo.den), (v.hi.num, d.hi.num), (v.hi.den, d.hi.den)]) (hg : gS d = true) : IsGoodS w v d := by
  unfold gS at hg
  simp only [Bool.and_eq_true, decide_eq_true_eq] at hg
  exact ⟨isGood_of h.lo hg.1.1, isGood_of h.hi hg.1.2, hg.2⟩
theorem IsGoodS.later {w w' : World} {v : SV} {d : SD} (h : IsGoodS w v d) (hb : Below w.heap.size w w') : IsGoodS w' v d := ⟨h.lo.later hb, h.hi.later hb, h.le⟩

end Go.Proofs.Ytikllcoekcglcaa
namespace Go.Proofs.Ytikllcoekcglcaa
open Go.RowKit
set_option linter.unusedVariables false
set_option maxRecDepth 100000
set_option linter.unusedSimpArgs false

/-- A variable of the law's own: its box at block G, what it leads to at blocks from lo to below hi. -/
structure VarS (wx : World) (G lo hi : Nat) (v : SV) (d : SD) : Prop where
  c0 : wx.cell? ⟨G, 0, none⟩ = some (.bool v.lo.num.g)
  c1 : wx.cell? ⟨G, 1, none⟩ = some (.slice v.lo.num.a v.lo.num.n v.lo.num.c)
  c2 : wx.cell? ⟨G, 2, none⟩ = some (.bool v.lo.den.g)
  c3 : wx.cell? ⟨G, 3, none⟩ = some (.slice v.lo.den.a v.lo.den.n v.lo.den.c)
  c4 : wx.cell? ⟨G, 4, none⟩ = some (.bool v.hi.num.g)
  c5 : wx.cell? ⟨G, 5, none⟩ = some (.slice v.hi.num.a v.hi.num.n v.hi.num.c)
  c6 : wx.cell? ⟨G, 6, none⟩ = some (.bool v.hi.den.g)
  c7 : wx.cell? ⟨G, 7, none⟩ = some (.slice v.hi.den.a v.hi.den.n v.hi.den.c)
  own : AllOwn lo hi wx [(v.lo.num, d.lo.num), (v.lo.den, d.lo.den), (v.hi.num, d.hi.num), (v.hi.den, d.hi.den)]
theorem VarS.later {wx wy : World} {G lo hi : Nat} {v : SV} {d : SD} (h : VarS wx G lo hi v d) (hb : Below wx.heap.size wx wy) : VarS wy G lo hi v d :=
  ⟨cell_later hb h.c0, cell_later hb h.c1, cell_later hb h.c2, cell_later hb h.c3, cell_later hb h.c4, cell_later hb h.c5, cell_later hb h.c6, cell_later hb h.c7, h.own.later hb⟩
theorem VarS.but {wx wy : World} {G lo hi lo' hi' : Nat} {v : SV} {d : SD} (h : VarS wx G lo hi v d) (hb : But lo' hi' wx wy) (hG : G < lo' ∨ hi' ≤ G) (hd : hi ≤ lo' ∨ hi' ≤ lo) : VarS wy G lo hi v d :=
  ⟨hb.cell h.c0 hG, hb.cell h.c1 hG, hb.cell h.c2 hG, hb.cell h.c3 hG, hb.cell h.c4 hG, hb.cell h.c5 hG, hb.cell h.c6 hG, hb.cell h.c7 hG, h.own.but hb hd⟩
theorem VarS.mark {wx wy : World} {G lo hi : Nat} {v : SV} {d d' : SD} (h : VarS wx G lo hi v d) (hb : But lo hi wx wy) (hG : G < lo ∨ hi ≤ G) (ho : AllOwn lo hi wy [(v.lo.num, d'.lo.num), (v.lo.den, d'.lo.den), (v.hi.num, d'.hi.num), (v.hi.den, d'.hi.den)]) : VarS wy G lo hi v d' :=
  ⟨hb.cell h.c0 hG, hb.cell h.c1 hG, hb.cell h.c2 hG, hb.cell h.c3 hG, hb.cell h.c4 hG, hb.cell h.c5 hG, hb.cell h.c6 hG, hb.cell h.c7 hG, ho⟩
theorem VarS.low {wx : World} {G lo hi lo' : Nat} {v : SV} {d : SD} (h : VarS wx G lo hi v d) (hl : lo' ≤ lo) : VarS wx G lo' hi v d := ⟨h.c0, h.c1, h.c2, h.c3, h.c4, h.c5, h.c6, h.c7, h.own.wide hl (Nat.le_refl _)⟩
theorem VarS.start {wx : World} {lo : Nat} {v : SV} {d : SD} (t : TypeId) (h : AllOwn lo wx.heap.size wx [(v.lo.num, d.lo.num), (v.lo.den, d.lo.den), (v.hi.num, d.hi.num), (v.hi.den, d.hi.den)]) : VarS (wx.alloc (.cells #[.bool v.lo.num.g, .slice v.lo.num.a v.lo.num.n v.lo.num.c, .bool v.lo.den.g, .slice v.lo.den.a v.lo.den.n v.lo.den.c, .bool v.hi.num.g, .slice v.hi.num.a v.hi.num.n v.hi.num.c, .bool v.hi.den.g, .slice v.hi.den.a v.hi.den.n v.hi.den.c] t)) wx.heap.size lo wx.heap.size v d :=
  ⟨by simp [go_sem], by simp [go_sem], by simp [go_sem], by simp [go_sem], by simp [go_sem], by simp [go_sem], by simp [go_sem], by simp [go_sem], h.later ((Below.refl _ _).alloc (Nat.le_refl _) _)⟩
theorem VarS.gt {wx : World} {G lo hi : Nat} {v : SV} {d : SD} (h : VarS wx G lo hi v d) : G < wx.heap.size := World.block_lt_of_cell? _ _ h.c0
/-- An answer lies in its box. -/
structure MetS (wk wx : World) (G : Nat) (v : SV) (d : SD) : Prop where
  lo : wk.heap.size ≤ G
  hi : G < wx.heap.size
  var : VarS wx G wk.heap.size wx.heap.size v d
  bel : Below wk.heap.size wk wx
theorem metS_alloc {wk w5 : World} {v : SV} {d : SD} {B : Nat} (t : TypeId) (hk : Below wk.heap.size wk w5) (ho : AllOwn B w5.heap.size w5 [(v.lo.num, d.lo.num), (v.lo.den, d.lo.den), (v.hi.num, d.hi.num), (v.hi.den, d.hi.den)]) (hB : wk.heap.size ≤ B) :
    MetS wk (w5.alloc (.cells #[.bool v.lo.num.g, .slice v.lo.num.a v.lo.num.n v.lo.num.c, .bool v.lo.den.g, .slice v.lo.den.a v.lo.den.n v.lo.den.c, .bool v.hi.num.g, .slice v.hi.num.a v.hi.num.n v.hi.num.c, .bool v.hi.den.g, .slice v.hi.den.a v.hi.den.n v.hi.den.c] t)) w5.heap.size v d := by
  have hv := VarS.start t (ho.wide hB (Nat.le_refl _))
  exact ⟨hk.size, by simp, ⟨hv.c0, hv.c1, hv.c2, hv.c3, hv.c4, hv.c5, hv.c6, hv.c7, hv.own.wide (Nat.le_refl _) (by simp)⟩, hk.alloc hk.size _⟩
theorem metS_but {w5 : World} {v : SV} {G : Nat} : But G (G + 1) w5 ((((((((w5.setCell ⟨G, 0, none⟩ (.bool v.lo.num.g)).setCell ⟨G, 1, none⟩ (.slice v.lo.num.a v.lo.num.n v.lo.num.c)).setCell ⟨G, 2, none⟩ (.bool v.lo.den.g)).setCell ⟨G, 3, none⟩ (.slice v.lo.den.a v.lo.den.n v.lo.den.c)).setCell ⟨G, 4, none⟩ (.bool v.hi.num.g)).setCell ⟨G, 5, none⟩ (.slice v.hi.num.a v.hi.num.n v.hi.num.c)).setCell ⟨G, 6, none⟩ (.bool v.hi.den.g)).setCell ⟨G, 7, none⟩ (.slice v.hi.den.a v.hi.den.n v.hi.den.c)) := (((((((((But.refl _ _ _).set (p := ⟨G, 0, none⟩) (Nat.le_refl _) (Nat.lt_succ_self _) _).set (p := ⟨G, 1, none⟩) (Nat.le_refl _) (Nat.lt_succ_self _) _).set (p := ⟨G, 2, none⟩) (Nat.le_refl _) (Nat.lt_succ_self _) _).set (p := ⟨G, 3, none⟩) (Nat.le_refl _) (Nat.lt_succ_self _) _).set (p := ⟨G, 4, none⟩) (Nat.le_refl _) (Nat.lt_succ_self _) _).set (p := ⟨G, 5, none⟩) (Nat.le_refl _) (Nat.lt_succ_self _) _).set (p := ⟨G, 6, none⟩) (Nat.le_refl _) (Nat.lt_succ_self _) _).set (p := ⟨G, 7, none⟩) (Nat.le_refl _) (Nat.lt_succ_self _) _)
theorem metS_set {wk w5 : World} {v : SV} {d : SD} {B G : Nat} {z0 : Value} {z1 : Value} {z2 : Value} {z3 : Value} {z4 : Value} {z5 : Value} {z6 : Value} {z7 : Value} (hk : Below wk.heap.size wk w5) (ho : AllOwn B w5.heap.size w5 [(v.lo.num, d.lo.num), (v.lo.den, d.lo.den), (v.hi.num, d.hi.num), (v.hi.den, d.hi.den)]) (hG : wk.heap.size ≤ G) (hGB : G < B) (e0 : w5.cell? ⟨G, 0, none⟩ = some z0) (e1 : w5.cell? ⟨G, 1, none⟩ = some z1) (e2 : w5.cell? ⟨G, 2, none⟩ = some z2) (e3 : w5.cell? ⟨G, 3, none⟩ = some z3) (e4 : w5.cell? ⟨G, 4, none⟩ = some z4) (e5 : w5.cell? ⟨G, 5, none⟩ = some z5) (e6 : w5.cell? ⟨G, 6, none⟩ = some z6) (e7 : w5.cell? ⟨G, 7, none⟩ = some z7) :
    MetS wk ((((((((w5.setCell ⟨G, 0, none⟩ (.bool v.lo.num.g)).setCell ⟨G, 1, none⟩ (.slice v.lo.num.a v.lo.num.n v.lo.num.c)).setCell ⟨G, 2, none⟩ (.bool v.lo.den.g)).setCell ⟨G, 3, none⟩ (.slice v.lo.den.a v.lo.den.n v.lo.den.c)).setCell ⟨G, 4, none⟩ (.bool v.hi.num.g)).setCell ⟨G, 5, none⟩ (.slice v.hi.num.a v.hi.num.n v.hi.num.c)).setCell ⟨G, 6, none⟩ (.bool v.hi.den.g)).setCell ⟨G, 7, none⟩ (.slice v.hi.den.a v.hi.den.n v.hi.den.c)) G v d := by
  have hb := metS_but (w5 := w5) (v := v) (G := G)
  have hlt : G < w5.heap.size := World.block_lt_of_cell? _ _ e0
  refine ⟨hG, by have := hb.size; omega, ⟨?_, ?_, ?_, ?_, ?_, ?_, ?_, ?_, ?_⟩, hb.below hk hG hk.size⟩
  · simp [go_sem, e0, e1, e2, e3, e4, e5, e6, e7]
  · simp [go_sem, e0, e1, e2, e3, e4, e5, e6, e7]
  · simp [go_sem, e0, e1, e2, e3, e4, e5, e6, e7]
  · simp [go_sem, e0, e1, e2, e3, e4, e5, e6, e7]
  · simp [go_sem, e0, e1, e2, e3, e4, e5, e6, e7]
  · simp [go_sem, e0, e1, e2, e3, e4, e5, e6, e7]
  · simp [go_sem, e0, e1, e2, e3, e4, e5, e6, e7]
  · simp [go_sem, e0, e1, e2, e3, e4, e5, e6, e7]
  · exact (ho.but hb (.inr (by omega))).wide (by omega) hb.size
end Go.Proofs.Ytikllcoekcglcaa
namespace Go.Proofs.Ytikllcoekcglcaa
open Go.RowKit
set_option linter.unusedVariables false
set_option maxRecDepth 100000
set_option linter.unusedSimpArgs false

set_option maxHeartbeats 4000000 in
theorem copyB (b : BV) (V : Int) (w : World) (h : IsB w b V) (k : Bd V 400000) : Calls Try.prog 90 #[.agg #[.bool b.g, .slice b.a b.n b.c]] w (OutN w V) := by
  obtain ⟨xs, hx, _, hl, nx, sx⟩ := h.num k (by omega)
  have HX := hide hx.arg
  have NX := hide nx
  have SX : Hid (sU b.g (V.natAbs : Int) = V) := hide (by rw [sx]; unfold sU; by_cases e : V < 0 <;> simp [e] <;> omega)
  clear h hx nx sx
  go_enter Try.func90, Try.ntmps90
  go_upto_region 1 with fail
  have hb : Below w.heap.size w ((w.alloc (.cells #[.bool b.g, .slice b.a b.n b.c] 48)).alloc (.cells #[.bool false, .slice none 0 0] 48)) := (((Below.refl _ _).alloc (by simp) _).alloc (by simp) _)
  have k0_0 : ((w.alloc (.cells #[.bool b.g, .slice b.a b.n b.c] 48)).alloc (.cells #[.bool false, .slice none 0 0] 48)).cell? ⟨w.heap.size, 0, none⟩ = some (.bool b.g) := by simp [go_sem]
  have k0_1 : ((w.alloc (.cells #[.bool b.g, .slice b.a b.n b.c] 48)).alloc (.cells #[.bool false, .slice none 0 0] 48)).cell? ⟨w.heap.size, 1, none⟩ = some (.slice b.a b.n b.c) := by simp [go_sem]
  have k1_0 : ((w.alloc (.cells #[.bool b.g, .slice b.a b.n b.c] 48)).alloc (.cells #[.bool false, .slice none 0 0] 48)).cell? ⟨w.heap.size + 1, 0, none⟩ = some (.bool false) := by simp [go_sem]
  have k1_1 : ((w.alloc (.cells #[.bool b.g, .slice b.a b.n b.c] 48)).alloc (.cells #[.bool false, .slice none 0 0] 48)).cell? ⟨w.heap.size + 1, 1, none⟩ = some (.slice none 0 0) := by simp [go_sem]
  have z1 : ∀ o, ((w.alloc (.cells #[.bool b.g, .slice b.a b.n b.c] 48)).alloc (.cells #[.bool false, .slice none 0 0] 48)).frozen? ⟨w.heap.size + 1, o, none⟩ = false := fun o => by simp [go_sem]
  have A := hide ((unhide HX).later hb)
  have szw0 : w.heap.size + 2 ≤ ((w.alloc (.cells #[.bool b.g, .slice b.a b.n b.c] 48)).alloc (.cells #[.bool false, .slice none 0 0] 48)).heap.size := by simp
  have HB := hide hb
  clear hb
  generalize ((w.alloc (.cells #[.bool b.g, .slice b.a b.n b.c] 48)).alloc (.cells #[.bool false, .slice none 0 0] 48)) = w0 at *
  have ne0_1 : w.heap.size ≠ w.heap.size + 1 := by omega
  go_region_held3 (fun w' => w'.cell? ⟨w.heap.size, 0, none⟩ = some (.bool b.g) ∧ w'.cell? ⟨w.heap.size, 1, none⟩ = some (.slice b.a b.n b.c)) (with_reducible (first | exact ⟨k0_0, k0_1⟩ | exact ⟨cd_other k0_0, cd_other k0_1⟩ | exact ⟨cs_other (cs_other (k0_0) ne0_1) ne0_1, cs_other (cs_other (k0_1) ne0_1) ne0_1⟩ | fail))
    (first
    | (go_at_call 96; refine (clone_any b.a b.n b.c xs _ ?_ (by omega)).mono ?_; exact (unhide A).later (Below.refl _ _).drew; rintro e w1 ⟨a1, c1, rfl, hb, ho, ha⟩; have hbx : Below w0.heap.size w0 w1 := below_of_drew hb; have szw1 := hbx.size; replace z1 := fun o => frozen_later hbx (World.block_lt_of_cell? _ _ k1_0) (z1 o); replace k0_0 := cell_later hbx k0_0; replace k0_1 := cell_later hbx k0_1; replace k1_0 := cell_later hbx k1_0; replace k1_1 := cell_later hbx k1_1; replace A := hide ((unhide A).later hbx); have A1 := hide (ha); have O1 := hide (ho.two); have HBr := hide hbx; clear hbx hb ho ha)
    | (go_at_call 91; refine (signI_v _ a1 b.n c1 xs _ w0.heap.size w1.heap.size (V.natAbs : Int) ?_ ?_ (unhide NX)).mono ?_; exact (unhide A1).later (Below.refl _ _); exact (unhide O1).later (Below.refl _ _); rintro e w2 ⟨x1, rfl, hb, ow, ar⟩; have hbx : Below w1.heap.size w1 w2 := hb; have szw2 := hbx.size; replace z1 := fun o => frozen_later hbx (World.block_lt_of_cell? _ _ k1_0) (z1 o); replace k0_0 := cell_later hbx k0_0; replace k0_1 := cell_later hbx k0_1; replace k1_0 := cell_later hbx k1_0; replace k1_1 := cell_later hbx k1_1; replace A := hide ((unhide A).later hbx); replace A1 := hide ((unhide A1).later hbx); replace O1 := hide ((unhide O1).later hbx); rw [unhide SX] at ow ar; have OW := hide (ow); have AR := hide (ar); have HBr := hide (below_on (unhide HBr) hbx); clear hbx hb ow ar))
  replace HB := hide (below_on (unhide HB) (unhide HBr))
  clear HBr
  go_wp2
  refine bodyPost_ret (v := .agg #[.bool x1.g, .slice x1.a x1.n x1.c]) (by simp [results, Try.results90, go_sem, k1_0, k1_1]) rfl ?_
  exact outN_fin (b := x1) (R := w.heap.size + 1) (by omega) (unhide HB) (metB_but (w5 := w2) (v := x1) (G := w.heap.size + 1)) ((unhide OW).wide (by omega) (by omega)) (unhide AR) (unhide NX)

set_option maxHeartbeats 4000000 in
theorem copyQ (q : QV) (N D : Int) (w : World) (h : IsQ w q N D) (k1 : Bd N 400000) (k2 : Bd D 400000) : Calls Try.prog 74 #[.agg #[.bool q.num.g, .slice q.num.a q.num.n q.num.c, .bool q.den.g, .slice q.den.a q.den.n q.den.c]] w (OutQ w N D) := by
  have H1 := hide h
  have K1 := hide k1
  have K2 := hide k2
  clear h k1 k2
  go_enter Try.func74, Try.ntmps74
  go_upto_region 1 with fail
  have hb : Below w.heap.size w ((w.alloc (.cells #[.bool q.num.g, .slice q.num.a q.num.n q.num.c, .bool q.den.g, .slice q.den.a q.den.n q.den.c] 50)).alloc (.cells #[.bool false, .slice none 0 0, .bool false, .slice none 0 0] 50)) := (((Below.refl _ _).alloc (by simp) _).alloc (by simp) _)
  have k0_0 : ((w.alloc (.cells #[.bool q.num.g, .slice q.num.a q.num.n q.num.c, .bool q.den.g, .slice q.den.a q.den.n q.den.c] 50)).alloc (.cells #[.bool false, .slice none 0 0, .bool false, .slice none 0 0] 50)).cell? ⟨w.heap.size, 0, none⟩ = some (.bool q.num.g) := by simp [go_sem]
  have k0_1 : ((w.alloc (.cells #[.bool q.num.g, .slice q.num.a q.num.n q.num.c, .bool q.den.g, .slice q.den.a q.den.n q.den.c] 50)).alloc (.cells #[.bool false, .slice none 0 0, .bool false, .slice none 0 0] 50)).cell? ⟨w.heap.size, 1, none⟩ = some (.slice q.num.a q.num.n q.num.c) := by simp [go_sem]
  have k0_2 : ((w.alloc (.cells #[.bool q.num.g, .slice q.num.a q.num.n q.num.c, .bool q.den.g, .slice q.den.a q.den.n q.den.c] 50)).alloc (.cells #[.bool false, .slice none 0 0, .bool false, .slice none 0 0] 50)).cell? ⟨w.heap.size, 2, none⟩ = some (.bool q.den.g) := by simp [go_sem]
  have k0_3 : ((w.alloc (.cells #[.bool q.num.g, .slice q.num.a q.num.n q.num.c, .bool q.den.g, .slice q.den.a q.den.n q.den.c] 50)).alloc (.cells #[.bool false, .slice none 0 0, .bool false, .slice none 0 0] 50)).cell? ⟨w.heap.size, 3, none⟩ = some (.slice q.den.a q.den.n q.den.c) := by simp [go_sem]
  have k1_0 : ((w.alloc (.cells #[.bool q.num.g, .slice q.num.a q.num.n q.num.c, .bool q.den.g, .slice q.den.a q.den.n q.den.c] 50)).alloc (.cells #[.bool false, .slice none 0 0, .bool false, .slice none 0 0] 50)).cell? ⟨w.heap.size + 1, 0, none⟩ = some (.bool false) := by simp [go_sem]
  have k1_1 : ((w.alloc (.cells #[.bool q.num.g, .slice q.num.a q.num.n q.num.c, .bool q.den.g, .slice q.den.a q.den.n q.den.c] 50)).alloc (.cells #[.bool false, .slice none 0 0, .bool false, .slice none 0 0] 50)).cell? ⟨w.heap.size + 1, 1, none⟩ = some (.slice none 0 0) := by simp [go_sem]
  have k1_2 : ((w.alloc (.cells #[.bool q.num.g, .slice q.num.a q.num.n q.num.c, .bool q.den.g, .slice q.den.a q.den.n q.den.c] 50)).alloc (.cells #[.bool false, .slice none 0 0, .bool false, .slice none 0 0] 50)).cell? ⟨w.heap.size + 1, 2, none⟩ = some (.bool false) := by simp [go_sem]
  have k1_3 : ((w.alloc (.cells #[.bool q.num.g, .slice q.num.a q.num.n q.num.c, .bool q.den.g, .slice q.den.a q.den.n q.den.c] 50)).alloc (.cells #[.bool false, .slice none 0 0, .bool false, .slice none 0 0] 50)).cell? ⟨w.heap.size + 1, 3, none⟩ = some (.slice none 0 0) := by simp [go_sem]
  have z1 : ∀ o, ((w.alloc (.cells #[.bool q.num.g, .slice q.num.a q.num.n q.num.c, .bool q.den.g, .slice q.den.a q.den.n q.den.c] 50)).alloc (.cells #[.bool false, .slice none 0 0, .bool false, .slice none 0 0] 50)).frozen? ⟨w.heap.size + 1, o, none⟩ = false := fun o => by simp [go_sem]
  have Q1 := hide ((unhide H1).later hb)
  have szw0 : w.heap.size + 2 ≤ ((w.alloc (.cells #[.bool q.num.g, .slice q.num.a q.num.n q.num.c, .bool q.den.g, .slice q.den.a q.den.n q.den.c] 50)).alloc (.cells #[.bool false, .slice none 0 0, .bool false, .slice none 0 0] 50)).heap.size := by simp
  have HB := hide hb
  clear hb
  generalize ((w.alloc (.cells #[.bool q.num.g, .slice q.num.a q.num.n q.num.c, .bool q.den.g, .slice q.den.a q.den.n q.den.c] 50)).alloc (.cells #[.bool false, .slice none 0 0, .bool false, .slice none 0 0] 50)) = w0 at *
  have ne0_1 : w.heap.size ≠ w.heap.size + 1 := by omega
  go_region_held3 (fun w' => w'.cell? ⟨w.heap.size, 0, none⟩ = some (.bool q.num.g) ∧ w'.cell? ⟨w.heap.size, 1, none⟩ = some (.slice q.num.a q.num.n q.num.c) ∧ w'.cell? ⟨w.heap.size, 2, none⟩ = some (.bool q.den.g) ∧ w'.cell? ⟨w.heap.size, 3, none⟩ = some (.slice q.den.a q.den.n q.den.c)) (with_reducible (first | exact ⟨k0_0, k0_1, k0_2, k0_3⟩ | exact ⟨cd_other k0_0, cd_other k0_1, cd_other k0_2, cd_other k0_3⟩ | exact ⟨cs_other (cs_other (cs_other (cs_other (k0_0) ne0_1) ne0_1) ne0_1) ne0_1, cs_other (cs_other (cs_other (cs_other (k0_1) ne0_1) ne0_1) ne0_1) ne0_1, cs_other (cs_other (cs_other (cs_other (k0_2) ne0_1) ne0_1) ne0_1) ne0_1, cs_other (cs_other (cs_other (cs_other (k0_3) ne0_1) ne0_1) ne0_1) ne0_1⟩ | fail))
    (first
    | (go_at_call_of 90 (Value.agg #[Value.bool q.num.g, Value.slice q.num.a q.num.n q.num.c]); refine (copyB q.num N _ ?_ (unhide K1)).mono ?_; exact (unhide Q1).1.later (Below.refl _ _).drew; rintro e w1 ⟨x1, l1, rfl, hb, o1, a1, n1⟩; have hbx : Below w0.heap.size w0 w1 := below_of_drew hb; have szw1 := hbx.size; replace z1 := fun o => frozen_later hbx (World.block_lt_of_cell? _ _ k1_0) (z1 o); replace k0_0 := cell_later hbx k0_0; replace k0_1 := cell_later hbx k0_1; replace k0_2 := cell_later hbx k0_2; replace k0_3 := cell_later hbx k0_3; replace k1_0 := cell_later hbx k1_0; replace k1_1 := cell_later hbx k1_1; replace k1_2 := cell_later hbx k1_2; replace k1_3 := cell_later hbx k1_3; replace Q1 := hide ((unhide Q1).later hbx); have o1x : AllOwn w0.heap.size w1.heap.size w1 [(x1, ⟨decide (N < 0), l1⟩)] := o1; have P1 := hide (outN_ow o1x a1 n1); have HBr := hide hbx; clear hbx hb o1 a1 n1 o1x)
    | (go_at_call_of 90 (Value.agg #[Value.bool q.den.g, Value.slice q.den.a q.den.n q.den.c]); refine (copyB q.den D _ ?_ (unhide K2)).mono ?_; exact (unhide Q1).2.later (Below.refl _ _); rintro e w2 ⟨x2, l2, rfl, hb, o2, a2, n2⟩; have hbx : Below w1.heap.size w1 w2 := hb; have szw2 := hbx.size; replace z1 := fun o => frozen_later hbx (World.block_lt_of_cell? _ _ k1_0) (z1 o); replace k0_0 := cell_later hbx k0_0; replace k0_1 := cell_later hbx k0_1; replace k0_2 := cell_later hbx k0_2; replace k0_3 := cell_later hbx k0_3; replace k1_0 := cell_later hbx k1_0; replace k1_1 := cell_later hbx k1_1; replace k1_2 := cell_later hbx k1_2; replace k1_3 := cell_later hbx k1_3; replace Q1 := hide ((unhide Q1).later hbx); replace P1 := hide ((unhide P1).later hbx); have P2 := hide (outN_ow o2 a2 n2); have HBr := hide (below_on (unhide HBr) hbx); clear hbx hb o2 a2 n2))
  replace HB := hide (below_on (unhide HB) (unhide HBr))
  clear HBr
  go_wp2
  refine bodyPost_ret (v := .agg #[.bool x1.g, .slice x1.a x1.n x1.c, .bool x2.g, .slice x2.a x2.n x2.c]) (by simp [results, Try.results74, go_sem, k1_0, k1_1, k1_2, k1_3]) rfl ?_
  obtain ⟨zs, us, oo, aa, m1, m2⟩ := (unhide P1).two (unhide P2) (by omega) (by omega)
  exact outQ_fin (q := ⟨x1, x2⟩) (R := w.heap.size + 1) (by omega) (unhide HB) (metQ_but (w5 := w2) (v := ⟨x1, x2⟩) (G := w.heap.size + 1)) (oo.wide (by omega) (by omega)) aa m1 m2

/-- A call answers the span from N / D to N' / D' in memory of its own. -/
def OutS (w : World) (N D N' D' : Int) (e : Ending) (w' : World) : Prop := ∃ (v : SV) (xs us ys vs : List Int), e = .returned (.agg #[.bool v.lo.num.g, .slice v.lo.num.a v.lo.num.n v.lo.num.c, .bool v.lo.den.g, .slice v.lo.den.a v.lo.den.n v.lo.den.c, .bool v.hi.num.g, .slice v.hi.num.a v.hi.num.n v.hi.num.c, .bool v.hi.den.g, .slice v.hi.den.a v.hi.den.n v.hi.den.c]) ∧ Below w.heap.size w w' ∧ AllOwn w.heap.size w'.heap.size w' [(v.lo.num, ⟨decide (N < 0), xs⟩), (v.lo.den, ⟨decide (D < 0), us⟩), (v.hi.num, ⟨decide (N' < 0), ys⟩), (v.hi.den, ⟨decide (D' < 0), vs⟩)] ∧ AllAr w' [(v.lo.num, ⟨decide (N < 0), xs⟩), (v.lo.den, ⟨decide (D < 0), us⟩), (v.hi.num, ⟨decide (N' < 0), ys⟩), (v.hi.den, ⟨decide (D' < 0), vs⟩)] ∧ Nm xs N.natAbs ∧ Nm us D.natAbs ∧ Nm ys N'.natAbs ∧ Nm vs D'.natAbs
theorem outS_fin {w wN W : World} {R : Nat} {v : SV} {xs us ys vs : List Int} {N D N' D' : Int} (hR : w.heap.size ≤ R) (hb : Below w.heap.size w wN) (bt : But R (R + 1) wN W) (ho : AllOwn (R + 1) wN.heap.size wN [(v.lo.num, ⟨decide (N < 0), xs⟩), (v.lo.den, ⟨decide (D < 0), us⟩), (v.hi.num, ⟨decide (N' < 0), ys⟩), (v.hi.den, ⟨decide (D' < 0), vs⟩)]) (ha : AllAr wN [(v.lo.num, ⟨decide (N < 0), xs⟩), (v.lo.den, ⟨decide (D < 0), us⟩), (v.hi.num, ⟨decide (N' < 0), ys⟩), (v.hi.den, ⟨decide (D' < 0), vs⟩)]) (h1 : Nm xs N.natAbs) (h2 : Nm us D.natAbs) (h3 : Nm ys N'.natAbs) (h4 : Nm vs D'.natAbs) : OutS w N D N' D' (.returned (.agg #[.bool v.lo.num.g, .slice v.lo.num.a v.lo.num.n v.lo.num.c, .bool v.lo.den.g, .slice v.lo.den.a v.lo.den.n v.lo.den.c, .bool v.hi.num.g, .slice v.hi.num.a v.hi.num.n v.hi.num.c, .bool v.hi.den.g, .slice v.hi.den.a v.hi.den.n v.hi.den.c])) W :=
  ⟨v, xs, us, ys, vs, rfl, bt.below hb hR hb.size, (own_fin bt ho (Nat.le_refl _)).wide (by omega) bt.size, ar_fin bt ho ha (Nat.le_refl _), h1, h2, h3, h4⟩
end Go.Proofs.Ytikllcoekcglcaa
namespace Go.Proofs.Ytikllcoekcglcaa
open Go.RowKit
set_option linter.unusedVariables false
set_option maxRecDepth 100000
set_option linter.unusedSimpArgs false

/-- Two variables' boxes that hold fractions. -/
structure Two4 (wk wx : World) (G1 G2 : Nat) (q1 q2 : QV) : Prop where
  lo1 : wk.heap.size ≤ G1
  lo2 : wk.heap.size ≤ G2
  ne : G1 ≠ G2
  hi1 : G1 < wx.heap.size
  hi2 : G2 < wx.heap.size
  a0 : wx.cell? ⟨G1, 0, none⟩ = some (.bool q1.num.g)
  a1 : wx.cell? ⟨G1, 1, none⟩ = some (.slice q1.num.a q1.num.n q1.num.c)
  a2 : wx.cell? ⟨G1, 2, none⟩ = some (.bool q1.den.g)
  a3 : wx.cell? ⟨G1, 3, none⟩ = some (.slice q1.den.a q1.den.n q1.den.c)
  b0 : wx.cell? ⟨G2, 0, none⟩ = some (.bool q2.num.g)
  b1 : wx.cell? ⟨G2, 1, none⟩ = some (.slice q2.num.a q2.num.n q2.num.c)
  b2 : wx.cell? ⟨G2, 2, none⟩ = some (.bool q2.den.g)
  b3 : wx.cell? ⟨G2, 3, none⟩ = some (.slice q2.den.a q2.den.n q2.den.c)
  f1 : ∀ o, wx.frozen? ⟨G1, o, none⟩ = false
  f2 : ∀ o, wx.frozen? ⟨G2, o, none⟩ = false
  bel : Below wk.heap.size wk wx

end Go.Proofs.Ytikllcoekcglcaa
namespace Go.Proofs.Ytikllcoekcglcaa
open Go.RowKit
set_option linter.unusedVariables false
set_option maxRecDepth 100000
set_option linter.unusedSimpArgs false

def RetS (w : World) (U : SD → Bool → Prop) (e : Ending) (w' : World) : Prop := ∃ (v : SV) (d : SD) (ok : Bool), e = .returned (.tuple #[.agg #[.bool v.lo.num.g, .slice v.lo.num.a v.lo.num.n v.lo.num.c, .bool v.lo.den.g, .slice v.lo.den.a v.lo.den.n v.lo.den.c, .bool v.hi.num.g, .slice v.hi.num.a v.hi.num.n v.hi.num.c, .bool v.hi.den.g, .slice v.hi.den.a v.hi.den.n v.hi.den.c], .bool ok]) ∧ Below w.heap.size w w' ∧ AllOwn w.heap.size w'.heap.size w' [(v.lo.num, d.lo.num), (v.lo.den, d.lo.den), (v.hi.num, d.hi.num), (v.hi.den, d.hi.den)] ∧ U d ok
theorem zeroS (lo hi : Nat) (w : World) : AllOwn lo hi w [((⟨⟨⟨false, none, 0, 0⟩, ⟨false, none, 0, 0⟩⟩, ⟨⟨false, none, 0, 0⟩, ⟨false, none, 0, 0⟩⟩⟩ : SV).lo.num, (⟨⟨⟨false, []⟩, ⟨false, []⟩⟩, ⟨⟨false, []⟩, ⟨false, []⟩⟩⟩ : SD).lo.num), ((⟨⟨⟨false, none, 0, 0⟩, ⟨false, none, 0, 0⟩⟩, ⟨⟨false, none, 0, 0⟩, ⟨false, none, 0, 0⟩⟩⟩ : SV).lo.den, (⟨⟨⟨false, []⟩, ⟨false, []⟩⟩, ⟨⟨false, []⟩, ⟨false, []⟩⟩⟩ : SD).lo.den), ((⟨⟨⟨false, none, 0, 0⟩, ⟨false, none, 0, 0⟩⟩, ⟨⟨false, none, 0, 0⟩, ⟨false, none, 0, 0⟩⟩⟩ : SV).hi.num, (⟨⟨⟨false, []⟩, ⟨false, []⟩⟩, ⟨⟨false, []⟩, ⟨false, []⟩⟩⟩ : SD).hi.num), ((⟨⟨⟨false, none, 0, 0⟩, ⟨false, none, 0, 0⟩⟩, ⟨⟨false, none, 0, 0⟩, ⟨false, none, 0, 0⟩⟩⟩ : SV).hi.den, (⟨⟨⟨false, []⟩, ⟨false, []⟩⟩, ⟨⟨false, []⟩, ⟨false, []⟩⟩⟩ : SD).hi.den)] := ⟨fun p hp => by
  have hp : p = ((⟨false, none, 0, 0⟩ : BV), (⟨false, []⟩ : BD)) := by simpa using hp
  subst hp
  exact ⟨rfl, .inl rfl, rfl⟩, List.pairwise_cons.2 ⟨fun p hp => .inl rfl, List.pairwise_cons.2 ⟨fun p hp => .inl rfl, List.pairwise_cons.2 ⟨fun p hp => .inl rfl, List.pairwise_singleton _ _⟩⟩⟩⟩
def AnsS (P : Bool) (N D N' D' : Int) (d : SD) (ok : Bool) : Prop :=
  (P = true ∧ ∃ xs us ys vs, Nm xs N.natAbs ∧ Nm us D.natAbs ∧ Nm ys N'.natAbs ∧ Nm vs D'.natAbs ∧ (((xs.length ≤ 40 ∧ us.length ≤ 40) ∧ (ys.length ≤ 40 ∧ vs.length ≤ 40) ∧ ok = true ∧ d = (⟨⟨⟨decide (N < 0), xs⟩, ⟨decide (D < 0), us⟩⟩, ⟨⟨decide (N' < 0), ys⟩, ⟨decide (D' < 0), vs⟩⟩⟩ : SD)) ∨ (¬ ((xs.length ≤ 40 ∧ us.length ≤ 40) ∧ (ys.length ≤ 40 ∧ vs.length ≤ 40)) ∧ ok = false ∧ d = (⟨⟨⟨false, []⟩, ⟨false, []⟩⟩, ⟨⟨false, []⟩, ⟨false, []⟩⟩⟩ : SD)))) ∨ (P = false ∧ ok = false ∧ d = (⟨⟨⟨false, []⟩, ⟨false, []⟩⟩, ⟨⟨false, []⟩, ⟨false, []⟩⟩⟩ : SD))
theorem AnsS.same {P : Bool} {N D N' D' : Int} {d d' : SD} {ok ok' : Bool} (h : AnsS P N D N' D' d ok) (k : AnsS P N D N' D' d' ok') : d = d' ∧ ok = ok' := by
  rcases h with ⟨p, xs, us, ys, vs, h1, h2, h3, h4, h5⟩ | ⟨p, h1, h2⟩ <;> rcases k with ⟨p', xs', us', ys', vs', k1, k2, k3, k4, k5⟩ | ⟨p', k1, k2⟩
  · obtain rfl := h1.same k1
    obtain rfl := h2.same k2
    obtain rfl := h3.same k3
    obtain rfl := h4.same k4
    rcases h5 with ⟨a, b, c, e⟩ | ⟨a, c, e⟩ <;> rcases k5 with ⟨a', b', c', e'⟩ | ⟨a', c', e'⟩
    · exact ⟨e.trans e'.symm, c.trans c'.symm⟩
    · exact absurd ⟨a, b⟩ a'
    · exact absurd ⟨a', b'⟩ a
    · exact ⟨e.trans e'.symm, c.trans c'.symm⟩
  · rw [p] at p'; cases p'
  · rw [p] at p'; cases p'
  · exact ⟨h2.trans k2.symm, h1.trans k1.symm⟩
theorem AnsS.lens {P : Bool} {N D N' D' : Int} {d : SD} {ok : Bool} (h : AnsS P N D N' D' d ok) : d.lo.num.xs.length ≤ 40 ∧ d.lo.den.xs.length ≤ 40 ∧ d.hi.num.xs.length ≤ 40 ∧ d.hi.den.xs.length ≤ 40 := by
  rcases h with ⟨p, xs, us, ys, vs, h1, h2, h3, h4, ⟨a, b, c, rfl⟩ | ⟨a, c, rfl⟩⟩ | ⟨p, h1, rfl⟩
  · exact ⟨a.1, a.2, b.1, b.2⟩
  · simp
  · simp
theorem ansS_none (N D N' D' : Int) : AnsS false N D N' D' (⟨⟨⟨false, []⟩, ⟨false, []⟩⟩, ⟨⟨false, []⟩, ⟨false, []⟩⟩⟩ : SD) false := .inr ⟨rfl, rfl, rfl⟩
theorem retS_fin {w wN W : World} {R : Nat} {v : SV} {d : SD} {ok : Bool} {U : SD → Bool → Prop} (hR : w.heap.size ≤ R) (hb : Below w.heap.size w wN) (bt : But R (R + 1) wN W)
    (ho : AllOwn (R + 1) wN.heap.size wN [(v.lo.num, d.lo.num), (v.lo.den, d.lo.den), (v.hi.num, d.hi.num), (v.hi.den, d.hi.den)]) (hu : U d ok) : RetS w U (.returned (.tuple #[.agg #[.bool v.lo.num.g, .slice v.lo.num.a v.lo.num.n v.lo.num.c, .bool v.lo.den.g, .slice v.lo.den.a v.lo.den.n v.lo.den.c, .bool v.hi.num.g, .slice v.hi.num.a v.hi.num.n v.hi.num.c, .bool v.hi.den.g, .slice v.hi.den.a v.hi.den.n v.hi.den.c], .bool ok])) W :=
  ⟨v, d, ok, rfl, bt.below hb hR hb.size, (own_fin bt ho (Nat.le_refl _)).wide (by omega) bt.size, hu⟩
/-- Two answers make one. -/
theorem ansS_two {N D N' D' : Int} {d d' : QD} {ok ok' : Bool} (h : AnsQ true N D d ok) (k : AnsQ true N' D' d' ok') : AnsS true N D N' D' (if ok && ok' then ⟨d, d'⟩ else (⟨⟨⟨false, []⟩, ⟨false, []⟩⟩, ⟨⟨false, []⟩, ⟨false, []⟩⟩⟩ : SD)) (ok && ok') := by
  rcases h with ⟨_, xs, us, h1, h2, h3⟩ | ⟨p, _⟩
  · rcases k with ⟨_, ys, vs, k1, k2, k3⟩ | ⟨p, _⟩
    · refine .inl ⟨rfl, xs, us, ys, vs, h1, h2, k1, k2, ?_⟩
      rcases h3 with ⟨a, b, rfl, rfl⟩ | ⟨a, rfl, rfl⟩ <;> rcases k3 with ⟨a', b', rfl, rfl⟩ | ⟨a', rfl, rfl⟩
      · exact .inl ⟨⟨a, b⟩, ⟨a', b'⟩, rfl, rfl⟩
      · exact .inr ⟨fun h => a' h.2, rfl, rfl⟩
      · exact .inr ⟨fun h => a h.1, rfl, rfl⟩
      · exact .inr ⟨fun h => a h.1, rfl, rfl⟩
    · cases p
  · cases p

set_option maxHeartbeats 4000000 in
theorem fitsSS (v : SV) (N D N' D' : Int) (w : World) (h : IsQ w v.lo N D) (h' : IsQ w v.hi N' D') (hD : 0 < D) (hD' : 0 < D') :
    Calls Try.prog 60 #[.agg #[.bool v.lo.num.g, .slice v.lo.num.a v.lo.num.n v.lo.num.c, .bool v.lo.den.g, .slice v.lo.den.a v.lo.den.n v.lo.den.c, .bool v.hi.num.g, .slice v.hi.num.a v.hi.num.n v.hi.num.c, .bool v.hi.den.g, .slice v.hi.den.a v.hi.den.n v.hi.den.c]] w (RetS w (AnsS true N D N' D')) := by
  have H1 := hide h
  have H2 := hide h'
  have HD := hide (And.intro hD hD')
  clear h h' hD hD'
  have B0 := hide (show Below w.heap.size w ((w.alloc (.cells #[.bool v.lo.num.g, .slice v.lo.num.a v.lo.num.n v.lo.num.c, .bool v.lo.den.g, .slice v.lo.den.a v.lo.den.n v.lo.den.c, .bool v.hi.num.g, .slice v.hi.num.a v.hi.num.n v.hi.num.c, .bool v.hi.den.g, .slice v.hi.den.a v.hi.den.n v.hi.den.c] 52)).alloc (.cells #[.bool false, .slice none 0 0, .bool false, .slice none 0 0, .bool false, .slice none 0 0, .bool false, .slice none 0 0] 52)) from (((Below.refl _ _).alloc (by simp) _).alloc (by simp) _))
  go_enter Try.func60, Try.ntmps60
  go_wp2_with fail
  refine (fitsQS v.lo N D _ ((unhide H1).later (unhide B0)) (unhide HD).1).mono ?_
  rintro e w1 ⟨r1, d1, o1, rfl, hb, ov1, hu1⟩
  have s1 : w.heap.size + 1 + 1 ≤ w1.heap.size := by have := hb.size; simp at this; omega
  have U1 := hide hu1
  replace ov1 := ov1.wide (lo' := w.heap.size + 1 + 1) (by simp) (Nat.le_refl _)
  have k0_4 : w1.cell? ⟨w.heap.size, 4, none⟩ = some (.bool v.hi.num.g) := cell_later hb (by simp [go_sem])
  have k0_5 : w1.cell? ⟨w.heap.size, 5, none⟩ = some (.slice v.hi.num.a v.hi.num.n v.hi.num.c) := cell_later hb (by simp [go_sem])
  have k0_6 : w1.cell? ⟨w.heap.size, 6, none⟩ = some (.bool v.hi.den.g) := cell_later hb (by simp [go_sem])
  have k0_7 : w1.cell? ⟨w.heap.size, 7, none⟩ = some (.slice v.hi.den.a v.hi.den.n v.hi.den.c) := cell_later hb (by simp [go_sem])
  have k1_0 : w1.cell? ⟨w.heap.size + 1, 0, none⟩ = some (.bool false) := cell_later hb (by simp [go_sem])
  have k1_1 : w1.cell? ⟨w.heap.size + 1, 1, none⟩ = some (.slice none 0 0) := cell_later hb (by simp [go_sem])
  have k1_2 : w1.cell? ⟨w.heap.size + 1, 2, none⟩ = some (.bool false) := cell_later hb (by simp [go_sem])
  have k1_3 : w1.cell? ⟨w.heap.size + 1, 3, none⟩ = some (.slice none 0 0) := cell_later hb (by simp [go_sem])
  have k1_4 : w1.cell? ⟨w.heap.size + 1, 4, none⟩ = some (.bool false) := cell_later hb (by simp [go_sem])
  have k1_5 : w1.cell? ⟨w.heap.size + 1, 5, none⟩ = some (.slice none 0 0) := cell_later hb (by simp [go_sem])
  have k1_6 : w1.cell? ⟨w.heap.size + 1, 6, none⟩ = some (.bool false) := cell_later hb (by simp [go_sem])
  have k1_7 : w1.cell? ⟨w.heap.size + 1, 7, none⟩ = some (.slice none 0 0) := cell_later hb (by simp [go_sem])
  have z1 : ∀ o, w1.frozen? ⟨w.heap.size + 1, o, none⟩ = false := fun o => frozen_later hb (by simp) (by simp [go_sem])
  have OV1 := hide (ov1)
  have HB := hide (below_on (unhide B0) hb)
  clear hb
  clear ov1 hu1
  have k0_4u : (w1.alloc (.cells #[.bool r1.num.g, .slice r1.num.a r1.num.n r1.num.c, .bool r1.den.g, .slice r1.den.a r1.den.n r1.den.c] 50)).cell? ⟨w.heap.size, 4, none⟩ = some (.bool v.hi.num.g) := (ca_other k0_4)
  have k0_5u : (w1.alloc (.cells #[.bool r1.num.g, .slice r1.num.a r1.num.n r1.num.c, .bool r1.den.g, .slice r1.den.a r1.den.n r1.den.c] 50)).cell? ⟨w.heap.size, 5, none⟩ = some (.slice v.hi.num.a v.hi.num.n v.hi.num.c) := (ca_other k0_5)
  have k0_6u : (w1.alloc (.cells #[.bool r1.num.g, .slice r1.num.a r1.num.n r1.num.c, .bool r1.den.g, .slice r1.den.a r1.den.n r1.den.c] 50)).cell? ⟨w.heap.size, 6, none⟩ = some (.bool v.hi.den.g) := (ca_other k0_6)
  have k0_7u : (w1.alloc (.cells #[.bool r1.num.g, .slice r1.num.a r1.num.n r1.num.c, .bool r1.den.g, .slice r1.den.a r1.den.n r1.den.c] 50)).cell? ⟨w.heap.size, 7, none⟩ = some (.slice v.hi.den.a v.hi.den.n v.hi.den.c) := (ca_other k0_7)
  have k1_0u : (w1.alloc (.cells #[.bool r1.num.g, .slice r1.num.a r1.num.n r1.num.c, .bool r1.den.g, .slice r1.den.a r1.den.n r1.den.c] 50)).cell? ⟨w.heap.size + 1, 0, none⟩ = some (.bool false) := (ca_other k1_0)
  have k1_1u : (w1.alloc (.cells #[.bool r1.num.g, .slice r1.num.a r1.num.n r1.num.c, .bool r1.den.g, .slice r1.den.a r1.den.n r1.den.c] 50)).cell? ⟨w.heap.size + 1, 1, none⟩ = some (.slice none 0 0) := (ca_other k1_1)
  have k1_2u : (w1.alloc (.cells #[.bool r1.num.g, .slice r1.num.a r1.num.n r1.num.c, .bool r1.den.g, .slice r1.den.a r1.den.n r1.den.c] 50)).cell? ⟨w.heap.size + 1, 2, none⟩ = some (.bool false) := (ca_other k1_2)
  have k1_3u : (w1.alloc (.cells #[.bool r1.num.g, .slice r1.num.a r1.num.n r1.num.c, .bool r1.den.g, .slice r1.den.a r1.den.n r1.den.c] 50)).cell? ⟨w.heap.size + 1, 3, none⟩ = some (.slice none 0 0) := (ca_other k1_3)
  have k1_4u : (w1.alloc (.cells #[.bool r1.num.g, .slice r1.num.a r1.num.n r1.num.c, .bool r1.den.g, .slice r1.den.a r1.den.n r1.den.c] 50)).cell? ⟨w.heap.size + 1, 4, none⟩ = some (.bool false) := (ca_other k1_4)
  have k1_5u : (w1.alloc (.cells #[.bool r1.num.g, .slice r1.num.a r1.num.n r1.num.c, .bool r1.den.g, .slice r1.den.a r1.den.n r1.den.c] 50)).cell? ⟨w.heap.size + 1, 5, none⟩ = some (.slice none 0 0) := (ca_other k1_5)
  have k1_6u : (w1.alloc (.cells #[.bool r1.num.g, .slice r1.num.a r1.num.n r1.num.c, .bool r1.den.g, .slice r1.den.a r1.den.n r1.den.c] 50)).cell? ⟨w.heap.size + 1, 6, none⟩ = some (.bool false) := (ca_other k1_6)
  have k1_7u : (w1.alloc (.cells #[.bool r1.num.g, .slice r1.num.a r1.num.n r1.num.c, .bool r1.den.g, .slice r1.den.a r1.den.n r1.den.c] 50)).cell? ⟨w.heap.size + 1, 7, none⟩ = some (.slice none 0 0) := (ca_other k1_7)
  go_wp2_with fail
  refine (fitsQS v.hi N' D' _ ((unhide H2).later (below_on (unhide HB) ((Below.refl _ _).alloc (by simp) _))) (unhide HD).2).mono ?_
  rintro e w2 ⟨r2, d2, o2, rfl, hb, ov2, hu2⟩
  clear k0_4u k0_5u k0_6u k0_7u k1_0u k1_1u k1_2u k1_3u k1_4u k1_5u k1_6u k1_7u
  have s2 : w1.heap.size ≤ w2.heap.size := by have := hb.size; simp at this; omega
  have U2 := hide hu2
  replace ov2 := ov2.wide (lo' := w1.heap.size) (by simp) (Nat.le_refl _)
  have hbx := ba (hb)
  replace z1 := fun o => frozen_later hbx (World.block_lt_of_cell? _ _ k1_0) (z1 o)
  replace k1_0 := cell_later hbx k1_0
  replace k1_1 := cell_later hbx k1_1
  replace k1_2 := cell_later hbx k1_2
  replace k1_3 := cell_later hbx k1_3
  replace k1_4 := cell_later hbx k1_4
  replace k1_5 := cell_later hbx k1_5
  replace k1_6 := cell_later hbx k1_6
  replace k1_7 := cell_later hbx k1_7
  have k2_0 : w2.cell? ⟨w1.heap.size, 0, none⟩ = some (.bool r1.num.g) := cell_later hb (by simp [go_sem])
  have k2_1 : w2.cell? ⟨w1.heap.size, 1, none⟩ = some (.slice r1.num.a r1.num.n r1.num.c) := cell_later hb (by simp [go_sem])
  have k2_2 : w2.cell? ⟨w1.heap.size, 2, none⟩ = some (.bool r1.den.g) := cell_later hb (by simp [go_sem])
  have k2_3 : w2.cell? ⟨w1.heap.size, 3, none⟩ = some (.slice r1.den.a r1.den.n r1.den.c) := cell_later hb (by simp [go_sem])
  clear k0_4 k0_5 k0_6 k0_7
  replace OV1 := hide ((unhide OV1).later hbx)
  have OV2 := hide (ov2)
  replace HB := hide (below_on (unhide HB) hbx)
  clear hbx hb
  clear ov2 hu2
  cases o1
  · cases o2
    · go_upto_region 4 with fail
      have hb : Below w2.heap.size w2 (w2.alloc (.cells #[.bool r2.num.g, .slice r2.num.a r2.num.n r2.num.c, .bool r2.den.g, .slice r2.den.a r2.den.n r2.den.c] 50)) := ((Below.refl _ _).alloc (by simp) _)
      replace k1_0 : (w2.alloc (.cells #[.bool r2.num.g, .slice r2.num.a r2.num.n r2.num.c, .bool r2.den.g, .slice r2.den.a r2.den.n r2.den.c] 50)).cell? ⟨w.heap.size + 1, 0, none⟩ = some (.bool false) := (ca_other k1_0)
      replace k1_1 : (w2.alloc (.cells #[.bool r2.num.g, .slice r2.num.a r2.num.n r2.num.c, .bool r2.den.g, .slice r2.den.a r2.den.n r2.den.c] 50)).cell? ⟨w.heap.size + 1, 1, none⟩ = some (.slice none 0 0) := (ca_other k1_1)
      replace k1_2 : (w2.alloc (.cells #[.bool r2.num.g, .slice r2.num.a r2.num.n r2.num.c, .bool r2.den.g, .slice r2.den.a r2.den.n r2.den.c] 50)).cell? ⟨w.heap.size + 1, 2, none⟩ = some (.bool false) := (ca_other k1_2)
      replace k1_3 : (w2.alloc (.cells #[.bool r2.num.g, .slice r2.num.a r2.num.n r2.num.c, .bool r2.den.g, .slice r2.den.a r2.den.n r2.den.c] 50)).cell? ⟨w.heap.size + 1, 3, none⟩ = some (.slice none 0 0) := (ca_other k1_3)
      replace k1_4 : (w2.alloc (.cells #[.bool r2.num.g, .slice r2.num.a r2.num.n r2.num.c, .bool r2.den.g, .slice r2.den.a r2.den.n r2.den.c] 50)).cell? ⟨w.heap.size + 1, 4, none⟩ = some (.bool false) := (ca_other k1_4)
      replace k1_5 : (w2.alloc (.cells #[.bool r2.num.g, .slice r2.num.a r2.num.n r2.num.c, .bool r2.den.g, .slice r2.den.a r2.den.n r2.den.c] 50)).cell? ⟨w.heap.size + 1, 5, none⟩ = some (.slice none 0 0) := (ca_other k1_5)
      replace k1_6 : (w2.alloc (.cells #[.bool r2.num.g, .slice r2.num.a r2.num.n r2.num.c, .bool r2.den.g, .slice r2.den.a r2.den.n r2.den.c] 50)).cell? ⟨w.heap.size + 1, 6, none⟩ = some (.bool false) := (ca_other k1_6)
      replace k1_7 : (w2.alloc (.cells #[.bool r2.num.g, .slice r2.num.a r2.num.n r2.num.c, .bool r2.den.g, .slice r2.den.a r2.den.n r2.den.c] 50)).cell? ⟨w.heap.size + 1, 7, none⟩ = some (.slice none 0 0) := (ca_other k1_7)
      replace z1 : ∀ o, (w2.alloc (.cells #[.bool r2.num.g, .slice r2.num.a r2.num.n r2.num.c, .bool r2.den.g, .slice r2.den.a r2.den.n r2.den.c] 50)).frozen? ⟨w.heap.size + 1, o, none⟩ = false := fun o => frozen_later hb (by omega) (z1 o)
      clear k2_0 k2_1 k2_2 k2_3
      replace OV1 := hide ((unhide OV1).later hb)
      replace OV2 := hide ((unhide OV2).later hb)
      replace HB := hide (below_on (unhide HB) hb)
      have szw3 := hb.size
      clear hb
      generalize (w2.alloc (.cells #[.bool r2.num.g, .slice r2.num.a r2.num.n r2.num.c, .bool r2.den.g, .slice r2.den.a r2.den.n r2.den.c] 50)) = w3 at *
      have UU := hide (ansS_two (unhide U1) (unhide U2))
      go_wp2
      refine bodyPost_ret (v := .tuple #[.agg #[.bool false, .slice none 0 0, .bool false, .slice none 0 0, .bool false, .slice none 0 0, .bool false, .slice none 0 0], .bool false]) (by simp [results, Try.results60, go_sem, k1_0, k1_1, k1_2, k1_3, k1_4, k1_5, k1_6, k1_7]) rfl ?_
      exact retS_fin (v := (⟨⟨⟨false, none, 0, 0⟩, ⟨false, none, 0, 0⟩⟩, ⟨⟨false, none, 0, 0⟩, ⟨false, none, 0, 0⟩⟩⟩ : SV)) (d := (⟨⟨⟨false, []⟩, ⟨false, []⟩⟩, ⟨⟨false, []⟩, ⟨false, []⟩⟩⟩ : SD)) (R := w.heap.size + 1) (by omega) (unhide HB) (metS_but (w5 := w3) (v := (⟨⟨⟨false, none, 0, 0⟩, ⟨false, none, 0, 0⟩⟩, ⟨⟨false, none, 0, 0⟩, ⟨false, none, 0, 0⟩⟩⟩ : SV)) (G := w.heap.size + 1)) (zeroS _ _ _) (unhide UU)
    · go_upto_region 4 with fail
      have hb : Below w2.heap.size w2 (w2.alloc (.cells #[.bool r2.num.g, .slice r2.num.a r2.num.n r2.num.c, .bool r2.den.g, .slice r2.den.a r2.den.n r2.den.c] 50)) := ((Below.refl _ _).alloc (by simp) _)
      replace k1_0 : (w2.alloc (.cells #[.bool r2.num.g, .slice r2.num.a r2.num.n r2.num.c, .bool r2.den.g, .slice r2.den.a r2.den.n r2.den.c] 50)).cell? ⟨w.heap.size + 1, 0, none⟩ = some (.bool false) := (ca_other k1_0)
      replace k1_1 : (w2.alloc (.cells #[.bool r2.num.g, .slice r2.num.a r2.num.n r2.num.c, .bool r2.den.g, .slice r2.den.a r2.den.n r2.den.c] 50)).cell? ⟨w.heap.size + 1, 1, none⟩ = some (.slice none 0 0) := (ca_other k1_1)
      replace k1_2 : (w2.alloc (.cells #[.bool r2.num.g, .slice r2.num.a r2.num.n r2.num.c, .bool r2.den.g, .slice r2.den.a r2.den.n r2.den.c] 50)).cell? ⟨w.heap.size + 1, 2, none⟩ = some (.bool false) := (ca_other k1_2)
      replace k1_3 : (w2.alloc (.cells #[.bool r2.num.g, .slice r2.num.a r2.num.n r2.num.c, .bool r2.den.g, .slice r2.den.a r2.den.n r2.den.c] 50)).cell? ⟨w.heap.size + 1, 3, none⟩ = some (.slice none 0 0) := (ca_other k1_3)
      replace k1_4 : (w2.alloc (.cells #[.bool r2.num.g, .slice r2.num.a r2.num.n r2.num.c, .bool r2.den.g, .slice r2.den.a r2.den.n r2.den.c] 50)).cell? ⟨w.heap.size + 1, 4, none⟩ = some (.bool false) := (ca_other k1_4)
      replace k1_5 : (w2.alloc (.cells #[.bool r2.num.g, .slice r2.num.a r2.num.n r2.num.c, .bool r2.den.g, .slice r2.den.a r2.den.n r2.den.c] 50)).cell? ⟨w.heap.size + 1, 5, none⟩ = some (.slice none 0 0) := (ca_other k1_5)
      replace k1_6 : (w2.alloc (.cells #[.bool r2.num.g, .slice r2.num.a r2.num.n r2.num.c, .bool r2.den.g, .slice r2.den.a r2.den.n r2.den.c] 50)).cell? ⟨w.heap.size + 1, 6, none⟩ = some (.bool false) := (ca_other k1_6)
      replace k1_7 : (w2.alloc (.cells #[.bool r2.num.g, .slice r2.num.a r2.num.n r2.num.c, .bool r2.den.g, .slice r2.den.a r2.den.n r2.den.c] 50)).cell? ⟨w.heap.size + 1, 7, none⟩ = some (.slice none 0 0) := (ca_other k1_7)
      replace z1 : ∀ o, (w2.alloc (.cells #[.bool r2.num.g, .slice r2.num.a r2.num.n r2.num.c, .bool r2.den.g, .slice r2.den.a r2.den.n r2.den.c] 50)).frozen? ⟨w.heap.size + 1, o, none⟩ = false := fun o => frozen_later hb (by omega) (z1 o)
      clear k2_0 k2_1 k2_2 k2_3
      replace OV1 := hide ((unhide OV1).later hb)
      replace OV2 := hide ((unhide OV2).later hb)
      replace HB := hide (below_on (unhide HB) hb)
      have szw3 := hb.size
      clear hb
      generalize (w2.alloc (.cells #[.bool r2.num.g, .slice r2.num.a r2.num.n r2.num.c, .bool r2.den.g, .slice r2.den.a r2.den.n r2.den.c] 50)) = w3 at *
      have UU := hide (ansS_two (unhide U1) (unhide U2))
      go_wp2
      refine bodyPost_ret (v := .tuple #[.agg #[.bool false, .slice none 0 0, .bool false, .slice none 0 0, .bool false, .slice none 0 0, .bool false, .slice none 0 0], .bool false]) (by simp [results, Try.results60, go_sem, k1_0, k1_1, k1_2, k1_3, k1_4, k1_5, k1_6, k1_7]) rfl ?_
      exact retS_fin (v := (⟨⟨⟨false, none, 0, 0⟩, ⟨false, none, 0, 0⟩⟩, ⟨⟨false, none, 0, 0⟩, ⟨false, none, 0, 0⟩⟩⟩ : SV)) (d := (⟨⟨⟨false, []⟩, ⟨false, []⟩⟩, ⟨⟨false, []⟩, ⟨false, []⟩⟩⟩ : SD)) (R := w.heap.size + 1) (by omega) (unhide HB) (metS_but (w5 := w3) (v := (⟨⟨⟨false, none, 0, 0⟩, ⟨false, none, 0, 0⟩⟩, ⟨⟨false, none, 0, 0⟩, ⟨false, none, 0, 0⟩⟩⟩ : SV)) (G := w.heap.size + 1)) (zeroS _ _ _) (unhide UU)
  · cases o2
    · go_upto_region 4 with fail
      have hb : Below w2.heap.size w2 (w2.alloc (.cells #[.bool r2.num.g, .slice r2.num.a r2.num.n r2.num.c, .bool r2.den.g, .slice r2.den.a r2.den.n r2.den.c] 50)) := ((Below.refl _ _).alloc (by simp) _)
      replace k1_0 : (w2.alloc (.cells #[.bool r2.num.g, .slice r2.num.a r2.num.n r2.num.c, .bool r2.den.g, .slice r2.den.a r2.den.n r2.den.c] 50)).cell? ⟨w.heap.size + 1, 0, none⟩ = some (.bool false) := (ca_other k1_0)
      replace k1_1 : (w2.alloc (.cells #[.bool r2.num.g, .slice r2.num.a r2.num.n r2.num.c, .bool r2.den.g, .slice r2.den.a r2.den.n r2.den.c] 50)).cell? ⟨w.heap.size + 1, 1, none⟩ = some (.slice none 0 0) := (ca_other k1_1)
      replace k1_2 : (w2.alloc (.cells #[.bool r2.num.g, .slice r2.num.a r2.num.n r2.num.c, .bool r2.den.g, .slice r2.den.a r2.den.n r2.den.c] 50)).cell? ⟨w.heap.size + 1, 2, none⟩ = some (.bool false) := (ca_other k1_2)
      replace k1_3 : (w2.alloc (.cells #[.bool r2.num.g, .slice r2.num.a r2.num.n r2.num.c, .bool r2.den.g, .slice r2.den.a r2.den.n r2.den.c] 50)).cell? ⟨w.heap.size + 1, 3, none⟩ = some (.slice none 0 0) := (ca_other k1_3)
      replace k1_4 : (w2.alloc (.cells #[.bool r2.num.g, .slice r2.num.a r2.num.n r2.num.c, .bool r2.den.g, .slice r2.den.a r2.den.n r2.den.c] 50)).cell? ⟨w.heap.size + 1, 4, none⟩ = some (.bool false) := (ca_other k1_4)
      replace k1_5 : (w2.alloc (.cells #[.bool r2.num.g, .slice r2.num.a r2.num.n r2.num.c, .bool r2.den.g, .slice r2.den.a r2.den.n r2.den.c] 50)).cell? ⟨w.heap.size + 1, 5, none⟩ = some (.slice none 0 0) := (ca_other k1_5)
      replace k1_6 : (w2.alloc (.cells #[.bool r2.num.g, .slice r2.num.a r2.num.n r2.num.c, .bool r2.den.g, .slice r2.den.a r2.den.n r2.den.c] 50)).cell? ⟨w.heap.size + 1, 6, none⟩ = some (.bool false) := (ca_other k1_6)
      replace k1_7 : (w2.alloc (.cells #[.bool r2.num.g, .slice r2.num.a r2.num.n r2.num.c, .bool r2.den.g, .slice r2.den.a r2.den.n r2.den.c] 50)).cell? ⟨w.heap.size + 1, 7, none⟩ = some (.slice none 0 0) := (ca_other k1_7)
      replace z1 : ∀ o, (w2.alloc (.cells #[.bool r2.num.g, .slice r2.num.a r2.num.n r2.num.c, .bool r2.den.g, .slice r2.den.a r2.den.n r2.den.c] 50)).frozen? ⟨w.heap.size + 1, o, none⟩ = false := fun o => frozen_later hb (by omega) (z1 o)
      clear k2_0 k2_1 k2_2 k2_3
      replace OV1 := hide ((unhide OV1).later hb)
      replace OV2 := hide ((unhide OV2).later hb)
      replace HB := hide (below_on (unhide HB) hb)
      have szw3 := hb.size
      clear hb
      generalize (w2.alloc (.cells #[.bool r2.num.g, .slice r2.num.a r2.num.n r2.num.c, .bool r2.den.g, .slice r2.den.a r2.den.n r2.den.c] 50)) = w3 at *
      have UU := hide (ansS_two (unhide U1) (unhide U2))
      go_wp2
      refine bodyPost_ret (v := .tuple #[.agg #[.bool false, .slice none 0 0, .bool false, .slice none 0 0, .bool false, .slice none 0 0, .bool false, .slice none 0 0], .bool false]) (by simp [results, Try.results60, go_sem, k1_0, k1_1, k1_2, k1_3, k1_4, k1_5, k1_6, k1_7]) rfl ?_
      exact retS_fin (v := (⟨⟨⟨false, none, 0, 0⟩, ⟨false, none, 0, 0⟩⟩, ⟨⟨false, none, 0, 0⟩, ⟨false, none, 0, 0⟩⟩⟩ : SV)) (d := (⟨⟨⟨false, []⟩, ⟨false, []⟩⟩, ⟨⟨false, []⟩, ⟨false, []⟩⟩⟩ : SD)) (R := w.heap.size + 1) (by omega) (unhide HB) (metS_but (w5 := w3) (v := (⟨⟨⟨false, none, 0, 0⟩, ⟨false, none, 0, 0⟩⟩, ⟨⟨false, none, 0, 0⟩, ⟨false, none, 0, 0⟩⟩⟩ : SV)) (G := w.heap.size + 1)) (zeroS _ _ _) (unhide UU)
    · go_upto_region 5 with fail
      have hb : Below w2.heap.size w2 (w2.alloc (.cells #[.bool r2.num.g, .slice r2.num.a r2.num.n r2.num.c, .bool r2.den.g, .slice r2.den.a r2.den.n r2.den.c] 50)) := ((Below.refl _ _).alloc (by simp) _)
      replace k2_0 : (w2.alloc (.cells #[.bool r2.num.g, .slice r2.num.a r2.num.n r2.num.c, .bool r2.den.g, .slice r2.den.a r2.den.n r2.den.c] 50)).cell? ⟨w1.heap.size, 0, none⟩ = some (.bool r1.num.g) := (ca_other k2_0)
      replace k2_1 : (w2.alloc (.cells #[.bool r2.num.g, .slice r2.num.a r2.num.n r2.num.c, .bool r2.den.g, .slice r2.den.a r2.den.n r2.den.c] 50)).cell? ⟨w1.heap.size, 1, none⟩ = some (.slice r1.num.a r1.num.n r1.num.c) := (ca_other k2_1)
      replace k2_2 : (w2.alloc (.cells #[.bool r2.num.g, .slice r2.num.a r2.num.n r2.num.c, .bool r2.den.g, .slice r2.den.a r2.den.n r2.den.c] 50)).cell? ⟨w1.heap.size, 2, none⟩ = some (.bool r1.den.g) := (ca_other k2_2)
      replace k2_3 : (w2.alloc (.cells #[.bool r2.num.g, .slice r2.num.a r2.num.n r2.num.c, .bool r2.den.g, .slice r2.den.a r2.den.n r2.den.c] 50)).cell? ⟨w1.heap.size, 3, none⟩ = some (.slice r1.den.a r1.den.n r1.den.c) := (ca_other k2_3)
      have k3_0 : (w2.alloc (.cells #[.bool r2.num.g, .slice r2.num.a r2.num.n r2.num.c, .bool r2.den.g, .slice r2.den.a r2.den.n r2.den.c] 50)).cell? ⟨w2.heap.size, 0, none⟩ = some (.bool r2.num.g) := by simp [go_sem]
      have k3_1 : (w2.alloc (.cells #[.bool r2.num.g, .slice r2.num.a r2.num.n r2.num.c, .bool r2.den.g, .slice r2.den.a r2.den.n r2.den.c] 50)).cell? ⟨w2.heap.size, 1, none⟩ = some (.slice r2.num.a r2.num.n r2.num.c) := by simp [go_sem]
      have k3_2 : (w2.alloc (.cells #[.bool r2.num.g, .slice r2.num.a r2.num.n r2.num.c, .bool r2.den.g, .slice r2.den.a r2.den.n r2.den.c] 50)).cell? ⟨w2.heap.size, 2, none⟩ = some (.bool r2.den.g) := by simp [go_sem]
      have k3_3 : (w2.alloc (.cells #[.bool r2.num.g, .slice r2.num.a r2.num.n r2.num.c, .bool r2.den.g, .slice r2.den.a r2.den.n r2.den.c] 50)).cell? ⟨w2.heap.size, 3, none⟩ = some (.slice r2.den.a r2.den.n r2.den.c) := by simp [go_sem]
      replace k1_0 : (w2.alloc (.cells #[.bool r2.num.g, .slice r2.num.a r2.num.n r2.num.c, .bool r2.den.g, .slice r2.den.a r2.den.n r2.den.c] 50)).cell? ⟨w.heap.size + 1, 0, none⟩ = some (.bool false) := (ca_other k1_0)
      replace k1_1 : (w2.alloc (.cells #[.bool r2.num.g, .slice r2.num.a r2.num.n r2.num.c, .bool r2.den.g, .slice r2.den.a r2.den.n r2.den.c] 50)).cell? ⟨w.heap.size + 1, 1, none⟩ = some (.slice none 0 0) := (ca_other k1_1)
      replace k1_2 : (w2.alloc (.cells #[.bool r2.num.g, .slice r2.num.a r2.num.n r2.num.c, .bool r2.den.g, .slice r2.den.a r2.den.n r2.den.c] 50)).cell? ⟨w.heap.size + 1, 2, none⟩ = some (.bool false) := (ca_other k1_2)
      replace k1_3 : (w2.alloc (.cells #[.bool r2.num.g, .slice r2.num.a r2.num.n r2.num.c, .bool r2.den.g, .slice r2.den.a r2.den.n r2.den.c] 50)).cell? ⟨w.heap.size + 1, 3, none⟩ = some (.slice none 0 0) := (ca_other k1_3)
      replace k1_4 : (w2.alloc (.cells #[.bool r2.num.g, .slice r2.num.a r2.num.n r2.num.c, .bool r2.den.g, .slice r2.den.a r2.den.n r2.den.c] 50)).cell? ⟨w.heap.size + 1, 4, none⟩ = some (.bool false) := (ca_other k1_4)
      replace k1_5 : (w2.alloc (.cells #[.bool r2.num.g, .slice r2.num.a r2.num.n r2.num.c, .bool r2.den.g, .slice r2.den.a r2.den.n r2.den.c] 50)).cell? ⟨w.heap.size + 1, 5, none⟩ = some (.slice none 0 0) := (ca_other k1_5)
      replace k1_6 : (w2.alloc (.cells #[.bool r2.num.g, .slice r2.num.a r2.num.n r2.num.c, .bool r2.den.g, .slice r2.den.a r2.den.n r2.den.c] 50)).cell? ⟨w.heap.size + 1, 6, none⟩ = some (.bool false) := (ca_other k1_6)
      replace k1_7 : (w2.alloc (.cells #[.bool r2.num.g, .slice r2.num.a r2.num.n r2.num.c, .bool r2.den.g, .slice r2.den.a r2.den.n r2.den.c] 50)).cell? ⟨w.heap.size + 1, 7, none⟩ = some (.slice none 0 0) := (ca_other k1_7)
      replace z1 : ∀ o, (w2.alloc (.cells #[.bool r2.num.g, .slice r2.num.a r2.num.n r2.num.c, .bool r2.den.g, .slice r2.den.a r2.den.n r2.den.c] 50)).frozen? ⟨w.heap.size + 1, o, none⟩ = false := fun o => frozen_later hb (by omega) (z1 o)
      replace OV1 := hide ((unhide OV1).later hb)
      replace OV2 := hide ((unhide OV2).later hb)
      replace HB := hide (below_on (unhide HB) hb)
      have szw3 := hb.size
      clear hb
      generalize (w2.alloc (.cells #[.bool r2.num.g, .slice r2.num.a r2.num.n r2.num.c, .bool r2.den.g, .slice r2.den.a r2.den.n r2.den.c] 50)) = w3 at *
      have OO := hide (((unhide OV1).join (unhide OV2) s1 s2).wide (Nat.le_refl _) (hi' := w3.heap.size) (by omega))
      have UU := hide (ansS_two (unhide U1) (unhide U2))
      go_wp2
      refine bodyPost_ret (v := .tuple #[.agg #[.bool r1.num.g, .slice r1.num.a r1.num.n r1.num.c, .bool r1.den.g, .slice r1.den.a r1.den.n r1.den.c, .bool r2.num.g, .slice r2.num.a r2.num.n r2.num.c, .bool r2.den.g, .slice r2.den.a r2.den.n r2.den.c], .bool true]) (by simp [results, Try.results60, go_sem, k1_0, k1_1, k1_2, k1_3, k1_4, k1_5, k1_6, k1_7]) rfl ?_
      exact retS_fin (v := ⟨r1, r2⟩) (d := ⟨d1, d2⟩) (R := w.heap.size + 1) (by omega) (unhide HB) (metS_but (w5 := w3) (v := ⟨r1, r2⟩) (G := w.heap.size + 1)) (unhide OO) (unhide UU)

end Go.Proofs.Ytikllcoekcglcaa
namespace Go.Proofs.Ytikllcoekcglcaa
open Go.RowKit
set_option linter.unusedVariables false
set_option maxRecDepth 100000
set_option linter.unusedSimpArgs false

def inQ (d : SD) (e : QD) : Bool := decide (nQ d.lo * dQ e ≤ nQ e * dQ d.lo) && decide (nQ e * dQ d.hi ≤ nQ d.hi * dQ e)
def inS (d : SD) (e : QD) : Bool := (gS d && gQ e) && inQ d e

end Go.Proofs.Ytikllcoekcglcaa
namespace Go.Proofs.Ytikllcoekcglcaa
open Go.RowKit
set_option linter.unusedVariables false
set_option maxRecDepth 100000
set_option linter.unusedSimpArgs false

/-- A fraction's value and what it reads as. -/
structure RQ where
  q : QV
  N : Int
  D : Int
structure RQ.Is (w : World) (x : RQ) : Prop where
  is : IsQ w x.q x.N x.D
  kn : Bd x.N 200000
  kd : Bd x.D 200000
theorem cmpZ_lt1 {A B : Int} (h : A < B) : decide (cmpZ A B < 0) = true := by unfold cmpZ; rw [if_pos h]; rfl
theorem cmpZ_lt0 {A B : Int} (h : ¬ A < B) : decide (cmpZ A B < 0) = false := by unfold cmpZ; rw [if_neg h]; split <;> rfl
theorem cmpZ_gt1 {A B : Int} (h : B < A) : decide (0 < cmpZ A B) = true := by unfold cmpZ; rw [if_neg (by omega), if_pos h]; rfl
theorem cmpZ_gt0 {A B : Int} (h : ¬ B < A) : decide (0 < cmpZ A B) = false := by unfold cmpZ; rw [if_neg h]; split <;> rfl
def stLo (s a : RQ) : RQ := if a.N * s.D < s.N * a.D then a else s
def stHi (s a : RQ) : RQ := if s.N * a.D < a.N * s.D then a else s
/-- A slice of fractions. -/
structure Rats (w : World) (b off : Nat) (l : List RQ) : Prop where
  at_ : ∀ i (h : i < l.length), w.cell? ⟨b, off + i * 4 + 0, none⟩ = some (.bool l[i].q.num.g) ∧ w.cell? ⟨b, off + i * 4 + 1, none⟩ = some (.slice l[i].q.num.a l[i].q.num.n l[i].q.num.c) ∧ w.cell? ⟨b, off + i * 4 + 2, none⟩ = some (.bool l[i].q.den.g) ∧ w.cell? ⟨b, off + i * 4 + 3, none⟩ = some (.slice l[i].q.den.a l[i].q.den.n l[i].q.den.c)
  is : ∀ i (h : i < l.length), RQ.Is w l[i]
  lt : b < w.heap.size
/-- The boxes of the least and the greatest so far. -/
structure Lst (w wr : World) (G1 G2 : Nat) (q1 q2 : QV) : Prop where
  a0 : wr.cell? ⟨G1, 0, none⟩ = some (.bool q1.num.g)
  a1 : wr.cell? ⟨G1, 1, none⟩ = some (.slice q1.num.a q1.num.n q1.num.c)
  a2 : wr.cell? ⟨G1, 2, none⟩ = some (.bool q1.den.g)
  a3 : wr.cell? ⟨G1, 3, none⟩ = some (.slice q1.den.a q1.den.n q1.den.c)
  b0 : wr.cell? ⟨G2, 0, none⟩ = some (.bool q2.num.g)
  b1 : wr.cell? ⟨G2, 1, none⟩ = some (.slice q2.num.a q2.num.n q2.num.c)
  b2 : wr.cell? ⟨G2, 2, none⟩ = some (.bool q2.den.g)
  b3 : wr.cell? ⟨G2, 3, none⟩ = some (.slice q2.den.a q2.den.n q2.den.c)
  f1 : ∀ o, wr.frozen? ⟨G1, o, none⟩ = false
  f2 : ∀ o, wr.frozen? ⟨G2, o, none⟩ = false
  r0 : wr.cell? ⟨w.heap.size + 1, 0, none⟩ = some (.bool false)
  r1 : wr.cell? ⟨w.heap.size + 1, 1, none⟩ = some (.slice none 0 0)
  r2 : wr.cell? ⟨w.heap.size + 1, 2, none⟩ = some (.bool false)
  r3 : wr.cell? ⟨w.heap.size + 1, 3, none⟩ = some (.slice none 0 0)
  r4 : wr.cell? ⟨w.heap.size + 1, 4, none⟩ = some (.bool false)
  r5 : wr.cell? ⟨w.heap.size + 1, 5, none⟩ = some (.slice none 0 0)
  r6 : wr.cell? ⟨w.heap.size + 1, 6, none⟩ = some (.bool false)
  r7 : wr.cell? ⟨w.heap.size + 1, 7, none⟩ = some (.slice none 0 0)
  fr : ∀ o, wr.frozen? ⟨w.heap.size + 1, o, none⟩ = false
  bel : Below w.heap.size w wr
theorem Lst.later {w wr wy : World} {G1 G2 : Nat} {q1 q2 : QV} (h : Lst w wr G1 G2 q1 q2) (hb : Below wr.heap.size wr wy) : Lst w wy G1 G2 q1 q2 :=
  ⟨cell_later hb h.a0, cell_later hb h.a1, cell_later hb h.a2, cell_later hb h.a3, cell_later hb h.b0, cell_later hb h.b1, cell_later hb h.b2, cell_later hb h.b3, fun o => frozen_later hb (World.block_lt_of_cell? _ _ h.a0) (h.f1 o), fun o => frozen_later hb (World.block_lt_of_cell? _ _ h.b0) (h.f2 o), cell_later hb h.r0, cell_later hb h.r1, cell_later hb h.r2, cell_later hb h.r3, cell_later hb h.r4, cell_later hb h.r5, cell_later hb h.r6, cell_later hb h.r7, fun o => frozen_later hb (World.block_lt_of_cell? _ _ h.r0) (h.fr o), below_on h.bel hb⟩
theorem Lst.set1 {w wr : World} {G1 G2 : Nat} {q1 q2 q : QV} (h : Lst w wr G1 G2 q1 q2) (hne : G1 ≠ G2) (g1 : w.heap.size + 1 < G1) (g2 : w.heap.size + 1 < G2) : Lst w ((((wr.setCell ⟨G1, 0, none⟩ (.bool q.num.g)).setCell ⟨G1, 1, none⟩ (.slice q.num.a q.num.n q.num.c)).setCell ⟨G1, 2, none⟩ (.bool q.den.g)).setCell ⟨G1, 3, none⟩ (.slice q.den.a q.den.n q.den.c)) G1 G2 q q2 :=
  ⟨by simp [go_sem, h.a0, h.a1, h.a2, h.a3], by simp [go_sem, h.a0, h.a1, h.a2, h.a3], by simp [go_sem, h.a0, h.a1, h.a2, h.a3], by simp [go_sem, h.a0, h.a1, h.a2, h.a3], cs_other (cs_other (cs_other (cs_other h.b0 (fun e => hne e.symm)) (fun e => hne e.symm)) (fun e => hne e.symm)) (fun e => hne e.symm), cs_other (cs_other (cs_other (cs_other h.b1 (fun e => hne e.symm)) (fun e => hne e.symm)) (fun e => hne e.symm)) (fun e => hne e.symm), cs_other (cs_other (cs_other (cs_other h.b2 (fun e => hne e.symm)) (fun e => hne e.symm)) (fun e => hne e.symm)) (fun e => hne e.symm), cs_other (cs_other (cs_other (cs_other h.b3 (fun e => hne e.symm)) (fun e => hne e.symm)) (fun e => hne e.symm)) (fun e => hne e.symm), fun o => by simp [go_sem, h.f1 o], fun o => by simp [go_sem, h.f2 o], cs_other (cs_other (cs_other (cs_other h.r0 (by omega)) (by omega)) (by omega)) (by omega), cs_other (cs_other (cs_other (cs_other h.r1 (by omega)) (by omega)) (by omega)) (by omega), cs_other (cs_other (cs_other (cs_other h.r2 (by omega)) (by omega)) (by omega)) (by omega), cs_other (cs_other (cs_other (cs_other h.r3 (by omega)) (by omega)) (by omega)) (by omega), cs_other (cs_other (cs_other (cs_other h.r4 (by omega)) (by omega)) (by omega)) (by omega), cs_other (cs_other (cs_other (cs_other h.r5 (by omega)) (by omega)) (by omega)) (by omega), cs_other (cs_other (cs_other (cs_other h.r6 (by omega)) (by omega)) (by omega)) (by omega), cs_other (cs_other (cs_other (cs_other h.r7 (by omega)) (by omega)) (by omega)) (by omega), fun o => by simp [go_sem, h.fr o], ((((h.bel.setCell (by show w.heap.size ≤ G1; omega) _).setCell (by show w.heap.size ≤ G1; omega) _).setCell (by show w.heap.size ≤ G1; omega) _).setCell (by show w.heap.size ≤ G1; omega) _)⟩
theorem Lst.set2 {w wr : World} {G1 G2 : Nat} {q1 q2 q : QV} (h : Lst w wr G1 G2 q1 q2) (hne : G1 ≠ G2) (g1 : w.heap.size + 1 < G1) (g2 : w.heap.size + 1 < G2) : Lst w ((((wr.setCell ⟨G2, 0, none⟩ (.bool q.num.g)).setCell ⟨G2, 1, none⟩ (.slice q.num.a q.num.n q.num.c)).setCell ⟨G2, 2, none⟩ (.bool q.den.g)).setCell ⟨G2, 3, none⟩ (.slice q.den.a q.den.n q.den.c)) G1 G2 q1 q :=
  ⟨cs_other (cs_other (cs_other (cs_other h.a0 (fun e => hne e)) (fun e => hne e)) (fun e => hne e)) (fun e => hne e), cs_other (cs_other (cs_other (cs_other h.a1 (fun e => hne e)) (fun e => hne e)) (fun e => hne e)) (fun e => hne e), cs_other (cs_other (cs_other (cs_other h.a2 (fun e => hne e)) (fun e => hne e)) (fun e => hne e)) (fun e => hne e), cs_other (cs_other (cs_other (cs_other h.a3 (fun e => hne e)) (fun e => hne e)) (fun e => hne e)) (fun e => hne e), by simp [go_sem, h.b0, h.b1, h.b2, h.b3], by simp [go_sem, h.b0, h.b1, h.b2, h.b3], by simp [go_sem, h.b0, h.b1, h.b2, h.b3], by simp [go_sem, h.b0, h.b1, h.b2, h.b3], fun o => by simp [go_sem, h.f1 o], fun o => by simp [go_sem, h.f2 o], cs_other (cs_other (cs_other (cs_other h.r0 (by omega)) (by omega)) (by omega)) (by omega), cs_other (cs_other (cs_other (cs_other h.r1 (by omega)) (by omega)) (by omega)) (by omega), cs_other (cs_other (cs_other (cs_other h.r2 (by omega)) (by omega)) (by omega)) (by omega), cs_other (cs_other (cs_other (cs_other h.r3 (by omega)) (by omega)) (by omega)) (by omega), cs_other (cs_other (cs_other (cs_other h.r4 (by omega)) (by omega)) (by omega)) (by omega), cs_other (cs_other (cs_other (cs_other h.r5 (by omega)) (by omega)) (by omega)) (by omega), cs_other (cs_other (cs_other (cs_other h.r6 (by omega)) (by omega)) (by omega)) (by omega), cs_other (cs_other (cs_other (cs_other h.r7 (by omega)) (by omega)) (by omega)) (by omega), fun o => by simp [go_sem, h.fr o], ((((h.bel.setCell (by show w.heap.size ≤ G2; omega) _).setCell (by show w.heap.size ≤ G2; omega) _).setCell (by show w.heap.size ≤ G2; omega) _).setCell (by show w.heap.size ≤ G2; omega) _)⟩

end Go.Proofs.Ytikllcoekcglcaa
namespace Go.Proofs.Ytikllcoekcglcaa
open Go.RowKit
set_option linter.unusedVariables false
set_option maxRecDepth 100000
set_option linter.unusedSimpArgs false

/-- In lowest terms, the denominator above 0. -/
structure Low (N D : Int) : Prop where
  pos : 0 < D
  co : Nat.gcd N.natAbs D.natAbs = 1
theorem Low.same {N D N' D' : Int} (h : Low N D) (k : Low N' D') (e : N * D' = N' * D) : N = N' ∧ D = D' := by
  have h1 : D.natAbs ∣ D'.natAbs := by
    have : D.natAbs ∣ N.natAbs * D'.natAbs := by rw [← Int.natAbs_mul, e, Int.natAbs_mul]; exact Nat.dvd_mul_left _ _
    exact Nat.Coprime.dvd_of_dvd_mul_left (by rw [Nat.Coprime, Nat.gcd_comm]; exact h.co) this
  have h2 : D'.natAbs ∣ D.natAbs := by
    have : D'.natAbs ∣ N'.natAbs * D.natAbs := by rw [← Int.natAbs_mul, ← e, Int.natAbs_mul]; exact Nat.dvd_mul_left _ _
    exact Nat.Coprime.dvd_of_dvd_mul_left (by rw [Nat.Coprime, Nat.gcd_comm]; exact k.co) this
  have h3 : D.natAbs = D'.natAbs := Nat.dvd_antisymm h1 h2
  have hp := h.pos
  have kp := k.pos
  have h4 : D = D' := by omega
  subst h4
  exact ⟨Int.eq_of_mul_eq_mul_right (by omega) e, rfl⟩
theorem low_low {N D : Int} (h : D ≠ 0) : Low (lowN N D) (lowD N D) := by
  refine ⟨lowD_pos h, ?_⟩
  have hg := gcd_pos_right (N := N) h
  have e1 : (lowN N D).natAbs = N.natAbs / Nat.gcd N.natAbs D.natAbs := by
    have h1 := lowN_abs N D
    unfold lowU at h1
    rw [← Int.natCast_ediv] at h1
    exact_mod_cast h1
  have e2 : (lowD N D).natAbs = D.natAbs / Nat.gcd N.natAbs D.natAbs := by
    have h1 := lowD_abs N D
    unfold lowD at h1 ⊢
    rw [← Int.natCast_ediv, Int.natAbs_natCast]
  rw [e1, e2]
  exact Nat.gcd_div_gcd_div_gcd_of_pos_right (by omega)
theorem low_cross {N D : Int} (h : 0 < D) : lowN N D * D = N * lowD N D := by
  have hg := gcd_pos_right (N := N) (show D ≠ 0 by omega)
  have d1 : ((Nat.gcd N.natAbs D.natAbs : Nat) : Int) ∣ (N.natAbs : Int) := by exact_mod_cast Nat.gcd_dvd_left _ _
  have d2 : ((Nat.gcd N.natAbs D.natAbs : Nat) : Int) ∣ (D.natAbs : Int) := by exact_mod_cast Nat.gcd_dvd_right _ _
  have m1 := Int.ediv_mul_cancel d1
  have m2 := Int.ediv_mul_cancel d2
  unfold lowN lowD lowU sU
  generalize (N.natAbs : Int) / ((Nat.gcd N.natAbs D.natAbs : Nat) : Int) = a at *
  generalize (D.natAbs : Int) / ((Nat.gcd N.natAbs D.natAbs : Nat) : Int) = b at *
  generalize ((Nat.gcd N.natAbs D.natAbs : Nat) : Int) = g at *
  rw [decide_eq_false (show ¬ D < 0 by omega)]
  have hD : D = b * g := by omega
  by_cases c : N < 0
  · have hN : N = -(a * g) := by omega
    rw [decide_eq_true c, if_pos (by rfl), hN, hD]
    simp only [Int.neg_mul, Int.mul_neg, Int.mul_comm, Int.mul_left_comm]
  · have hN : N = a * g := by omega
    rw [decide_eq_false c, if_neg (by simp), hN, hD]
    simp only [Int.mul_comm, Int.mul_left_comm]
theorem low_le {N D N' D' : Int} (h : 0 < D) (h' : 0 < D') (k : N * D' ≤ N' * D) : lowN N D * lowD N' D' ≤ lowN N' D' * lowD N D := by
  have c1 := low_cross (N := N) h
  have c2 := low_cross (N := N') h'
  have p1 := lowD_pos (N := N) (show D ≠ 0 by omega)
  have p2 := lowD_pos (N := N') (show D' ≠ 0 by omega)
  generalize lowN N D = n1 at *
  generalize lowN N' D' = n2 at *
  generalize lowD N D = d1 at *
  generalize lowD N' D' = d2 at *
  have hp : 0 < D * D' := Int.mul_pos h h'
  refine Int.le_of_mul_le_mul_right (a := D * D') ?_ hp
  have e1 : n1 * d2 * (D * D') = (N * D') * (d1 * d2) := by
    have : n1 * d2 * (D * D') = (n1 * D) * (d2 * D') := by simp only [Int.mul_comm, Int.mul_left_comm, Int.mul_assoc]
    rw [this, c1]; simp only [Int.mul_comm, Int.mul_left_comm, Int.mul_assoc]
  have e2 : n2 * d1 * (D * D') = (N' * D) * (d1 * d2) := by
    have : n2 * d1 * (D * D') = (n2 * D') * (d1 * D) := by simp only [Int.mul_comm, Int.mul_left_comm, Int.mul_assoc]
    rw [this, c2]; simp only [Int.mul_comm, Int.mul_left_comm, Int.mul_assoc]
  rw [e1, e2]
  exact Int.mul_le_mul_of_nonneg_right k (Int.le_of_lt (Int.mul_pos p1 p2))
theorem least_two {x y : RQ} (hx : Low x.N x.D) (hy : Low y.N y.D) (h : x.N * y.D ≤ y.N * x.D) : ((stLo x y).N = x.N ∧ (stLo x y).D = x.D) ∧ ((stHi x y).N = y.N ∧ (stHi x y).D = y.D) := by
  unfold stLo stHi
  rw [if_neg (by omega)]
  refine ⟨⟨rfl, rfl⟩, ?_⟩
  by_cases c : x.N * y.D < y.N * x.D
  · rw [if_pos c]; exact ⟨rfl, rfl⟩
  · rw [if_neg c]; exact hx.same hy (by omega)
theorem add_le {a b c d e f g k : Int} (h1 : a * d ≤ c * b) (h2 : e * k ≤ g * f) (hb : 0 < b) (hd : 0 < d) (hf : 0 < f) (hk : 0 < k) : (a * f + e * b) * (d * k) ≤ (c * k + g * d) * (b * f) := by
  have m1 := Int.mul_le_mul_of_nonneg_right h1 (Int.le_of_lt (Int.mul_pos hf hk))
  have m2 := Int.mul_le_mul_of_nonneg_right h2 (Int.le_of_lt (Int.mul_pos hb hd))
  have e1 : (a * f + e * b) * (d * k) = a * d * (f * k) + e * k * (b * d) := by simp only [Int.add_mul, Int.mul_add, Int.mul_comm, Int.mul_left_comm, Int.mul_assoc]
  have e2 : (c * k + g * d) * (b * f) = c * b * (f * k) + g * f * (b * d) := by simp only [Int.add_mul, Int.mul_add, Int.mul_comm, Int.mul_left_comm, Int.mul_assoc]
  rw [e1, e2]
  omega
theorem sub_le {a b c d e f g k : Int} (h1 : a * d ≤ c * b) (h2 : e * k ≤ g * f) (hb : 0 < b) (hd : 0 < d) (hf : 0 < f) (hk : 0 < k) : (a * k - g * b) * (d * f) ≤ (c * f - e * d) * (b * k) := by
  have m1 := Int.mul_le_mul_of_nonneg_right h1 (Int.le_of_lt (Int.mul_pos hf hk))
  have m2 := Int.mul_le_mul_of_nonneg_right h2 (Int.le_of_lt (Int.mul_pos hb hd))
  have e1 : (a * k - g * b) * (d * f) = a * d * (f * k) - g * f * (b * d) := by simp only [Int.sub_mul, Int.mul_sub, Int.mul_comm, Int.mul_left_comm, Int.mul_assoc]
  have e2 : (c * f - e * d) * (b * k) = c * b * (f * k) - e * k * (b * d) := by simp only [Int.sub_mul, Int.mul_sub, Int.mul_comm, Int.mul_left_comm, Int.mul_assoc]
  rw [e1, e2]
  omega
/-- A slice of one fraction that the program has just made. -/
theorem rats_one {w : World} {r : RQ} {t : TypeId} (h : RQ.Is w r) : Rats (w.alloc (.cells #[.bool r.q.num.g, .slice r.q.num.a r.q.num.n r.q.num.c, .bool r.q.den.g, .slice r.q.den.a r.q.den.n r.q.den.c] t)) w.heap.size 0 [r] := by
  refine ⟨fun i hi => ?_, fun i hi => ?_, by simp⟩
  · obtain rfl : i = 0 := by simp at hi; omega
    simp [go_sem]
  · obtain rfl : i = 0 := by simp at hi; omega
    exact ⟨h.is.later ((Below.refl _ _).alloc (Nat.le_refl _) _), h.kn, h.kd⟩
end Go.Proofs.Ytikllcoekcglcaa
namespace Go.Proofs.Ytikllcoekcglcaa
open Go.RowKit
set_option linter.unusedVariables false
set_option maxRecDepth 100000
set_option linter.unusedSimpArgs false

set_option maxHeartbeats 4000000 in
theorem wholeI (n : Int) (w : World) (h0 : -9223372036854775808 ≤ n) (h1 : n ≤ 9223372036854775807) : Calls Try.prog 65 #[.int .i64 n] w (OutQ w n 1) := by
  have B0 := hide (show Below w.heap.size w (w.alloc (.cells #[.bool false, .slice none 0 0, .bool false, .slice none 0 0] 50)) from ((Below.refl _ _).alloc (by simp) _))
  go_enter Try.func65, Try.ntmps65
  go_wp2_with fail
  refine (ofI_v n _ h0 h1).mono ?_
  rintro e w1 ⟨x1, l1, rfl, hb, o1, a1, n1⟩
  have s1 : w.heap.size + 1 ≤ w1.heap.size := by have := hb.size; simp at this; omega
  replace o1 := o1.wide (lo' := w.heap.size + 1) (by simp) (Nat.le_refl _)
  have k0_0 : w1.cell? ⟨w.heap.size, 0, none⟩ = some (.bool false) := cell_later hb (by simp [go_sem])
  have k0_1 : w1.cell? ⟨w.heap.size, 1, none⟩ = some (.slice none 0 0) := cell_later hb (by simp [go_sem])
  have k0_2 : w1.cell? ⟨w.heap.size, 2, none⟩ = some (.bool false) := cell_later hb (by simp [go_sem])
  have k0_3 : w1.cell? ⟨w.heap.size, 3, none⟩ = some (.slice none 0 0) := cell_later hb (by simp [go_sem])
  have z0 : ∀ o, w1.frozen? ⟨w.heap.size, o, none⟩ = false := fun o => frozen_later hb (by simp) (by simp [go_sem])
  have P1 := hide (outN_ow o1 a1 n1)
  have HB := hide (below_on (unhide B0) hb)
  clear hb
  clear o1 a1 n1
  go_wp2_with fail
  refine (ofI_v 1 _ (by omega) (by omega)).mono ?_
  rintro e w2 ⟨x2, l2, rfl, hb, o2, a2, n2⟩
  have s2 := hb.size
  replace z0 := fun o => frozen_later hb (World.block_lt_of_cell? _ _ k0_0) (z0 o)
  replace k0_0 := cell_later hb k0_0
  replace k0_1 := cell_later hb k0_1
  replace k0_2 := cell_later hb k0_2
  replace k0_3 := cell_later hb k0_3
  replace P1 := hide ((unhide P1).later hb)
  have P2 := hide (outN_ow o2 a2 n2)
  replace HB := hide (below_on (unhide HB) hb)
  clear hb
  clear o2 a2 n2
  go_wp2
  refine bodyPost_ret (v := .agg #[.bool x1.g, .slice x1.a x1.n x1.c, .bool x2.g, .slice x2.a x2.n x2.c]) (by simp [results, Try.results65, go_sem, k0_0, k0_1, k0_2, k0_3]) rfl ?_
  obtain ⟨zs, us, oo, aa, m1, m2⟩ := (unhide P1).two (unhide P2) s1 s2
  exact outQ_fin (q := ⟨x1, x2⟩) (R := w.heap.size) (Nat.le_refl _) (unhide HB) (metQ_but (w5 := w2) (v := ⟨x1, x2⟩) (G := w.heap.size)) oo aa m1 m2

set_option maxHeartbeats 4000000 in
theorem wholeS (n : Int) (w : World) (h0 : -9223372036854775808 ≤ n) (h1 : n ≤ 9223372036854775807) : Calls Try.prog 63 #[.int .i64 n] w (OutQ w n 1) := by
  have B0 := hide (show Below w.heap.size w (w.alloc (.cells #[.bool false, .slice none 0 0, .bool false, .slice none 0 0] 50)) from ((Below.refl _ _).alloc (by simp) _))
  go_enter Try.func63, Try.ntmps63
  go_wp2_with fail
  refine (ofS_v n _ h0 h1).mono ?_
  rintro e w1 ⟨x1, l1, rfl, hb, o1, a1, n1⟩
  have s1 : w.heap.size + 1 ≤ w1.heap.size := by have := hb.size; simp at this; omega
  replace o1 := o1.wide (lo' := w.heap.size + 1) (by simp) (Nat.le_refl _)
  have k0_0 : w1.cell? ⟨w.heap.size, 0, none⟩ = some (.bool false) := cell_later hb (by simp [go_sem])
  have k0_1 : w1.cell? ⟨w.heap.size, 1, none⟩ = some (.slice none 0 0) := cell_later hb (by simp [go_sem])
  have k0_2 : w1.cell? ⟨w.heap.size, 2, none⟩ = some (.bool false) := cell_later hb (by simp [go_sem])
  have k0_3 : w1.cell? ⟨w.heap.size, 3, none⟩ = some (.slice none 0 0) := cell_later hb (by simp [go_sem])
  have z0 : ∀ o, w1.frozen? ⟨w.heap.size, o, none⟩ = false := fun o => frozen_later hb (by simp) (by simp [go_sem])
  have P1 := hide (outN_ow o1 a1 n1)
  have HB := hide (below_on (unhide B0) hb)
  clear hb
  clear o1 a1 n1
  go_wp2_with fail
  refine (ofS_v 1 _ (by omega) (by omega)).mono ?_
  rintro e w2 ⟨x2, l2, rfl, hb, o2, a2, n2⟩
  have s2 := hb.size
  replace z0 := fun o => frozen_later hb (World.block_lt_of_cell? _ _ k0_0) (z0 o)
  replace k0_0 := cell_later hb k0_0
  replace k0_1 := cell_later hb k0_1
  replace k0_2 := cell_later hb k0_2
  replace k0_3 := cell_later hb k0_3
  replace P1 := hide ((unhide P1).later hb)
  have P2 := hide (outN_ow o2 a2 n2)
  replace HB := hide (below_on (unhide HB) hb)
  clear hb
  clear o2 a2 n2
  go_wp2
  refine bodyPost_ret (v := .agg #[.bool x1.g, .slice x1.a x1.n x1.c, .bool x2.g, .slice x2.a x2.n x2.c]) (by simp [results, Try.results63, go_sem, k0_0, k0_1, k0_2, k0_3]) rfl ?_
  obtain ⟨zs, us, oo, aa, m1, m2⟩ := (unhide P1).two (unhide P2) s1 s2
  exact outQ_fin (q := ⟨x1, x2⟩) (R := w.heap.size) (Nat.le_refl _) (unhide HB) (metQ_but (w5 := w2) (v := ⟨x1, x2⟩) (G := w.heap.size)) oo aa m1 m2

/-- Whether a span has 0 within, as the program asks. -/
def hN (d : SD) : Bool := (d.lo.num.g || decide (d.lo.num.xs.length = 0)) && !d.hi.num.g
def zQD : QD := ⟨⟨false, []⟩, ⟨false, [1]⟩⟩
theorem zQD_n : nQ zQD = 0 := by decide
theorem zQD_d : dQ zQD = 1 := by decide
theorem isGood_zero {w : World} {q : QV} (h : IsQ w q 0 1) : IsGood w q zQD := by
  refine ⟨by rw [zQD_n, zQD_d]; exact h, ?_, ?_, by rw [zQD_d]; omega, by rw [zQD_n, zQD_d]; rfl⟩
  · rw [zQD_n]; exact ⟨by decide⟩
  · rw [zQD_d]; exact ⟨by decide⟩
/-- A good number is below 0 where its sign says so, 0 without limbs. -/
theorem goodB_neg {g : Bool} {xs : List Int} (h : goodB g xs = true) : (sv g xs < 0 ↔ g = true) ∧ (sv g xs = 0 ↔ xs.length = 0) := by
  obtain ⟨h1, h2, h3, h4⟩ := good_parts h
  have hv := val_nonneg h1
  have hz := val_zero_iff h1 h2
  have hl : xs = [] ↔ xs.length = 0 := List.length_eq_zero_iff.symm
  unfold sv
  cases g
  · rw [if_neg (by simp)]
    exact ⟨⟨fun e => by omega, fun e => by cases e⟩, hz.trans hl⟩
  · rw [if_pos rfl]
    have h5 : xs ≠ [] := fun e => by cases h4 e
    have h6 : val xs ≠ 0 := fun e => h5 (hz.1 e)
    exact ⟨⟨fun _ => rfl, fun _ => by omega⟩, ⟨fun e => by omega, fun e => absurd (hl.2 e) h5⟩⟩
theorem goodS_nums {d : SD} (hg : gS d = true) : goodB d.lo.num.g d.lo.num.xs = true ∧ goodB d.hi.num.g d.hi.num.xs = true := by
  unfold gS at hg
  simp only [Bool.and_eq_true, decide_eq_true_eq] at hg
  exact ⟨(goodR_parts hg.1.1).1, (goodR_parts hg.1.2).1⟩
theorem hN_iff {d : SD} (hg : gS d = true) : hN d = true ↔ (nQ d.lo ≤ 0 ∧ 0 ≤ nQ d.hi) := by
  obtain ⟨g1, g2⟩ := goodS_nums hg
  have a := goodB_neg g1
  have b := goodB_neg g2
  unfold hN nQ
  generalize sv d.lo.num.g d.lo.num.xs = x at *
  generalize sv d.hi.num.g d.hi.num.xs = y at *
  rw [Bool.and_eq_true, Bool.or_eq_true, decide_eq_true_eq, ← a.1, ← a.2]
  refine and_congr (by omega) ?_
  cases hh : d.hi.num.g
  · refine ⟨fun _ => ?_, fun _ => rfl⟩
    have : ¬ y < 0 := fun e => by have := b.1.1 e; rw [hh] at this; cases this
    omega
  · refine ⟨fun e => (by cases e), fun e => ?_⟩
    have := b.1.2 hh
    omega
theorem inQ_zero {d : SD} (hg : gS d = true) : inQ d zQD = hN d := by
  have h := hN_iff hg
  have e : inQ d zQD = true ↔ (nQ d.lo ≤ 0 ∧ 0 ≤ nQ d.hi) := by
    unfold inQ
    rw [zQD_n, zQD_d, Bool.and_eq_true, decide_eq_true_eq, decide_eq_true_eq, Int.mul_one, Int.mul_one, Int.zero_mul, Int.zero_mul]
  exact Bool.eq_iff_iff.2 (e.trans h.symm)
end Go.Proofs.Ytikllcoekcglcaa
namespace Go.Proofs.Ytikllcoekcglcaa
open Go.RowKit
set_option linter.unusedVariables false
set_option maxRecDepth 100000
set_option linter.unusedSimpArgs false


end Go.Proofs.Ytikllcoekcglcaa
namespace Go.Proofs.Ytikllcoekcglcaa
open Go.RowKit
set_option linter.unusedVariables false
set_option maxRecDepth 100000
set_option linter.unusedSimpArgs false

/-- A rational number's numerator and denominator. -/
def nR (x : Rat) : Int := x.num
def dR (x : Rat) : Int := (x.den : Int)
theorem dR_pos (x : Rat) : 0 < dR x := by have := x.den_nz; show (0 : Int) < (x.den : Int); omega
theorem dR_ne (x : Rat) : dR x ≠ 0 := Int.ne_of_gt (dR_pos x)
theorem nR_low (x : Rat) : Low (nR x) (dR x) := ⟨dR_pos x, by show Nat.gcd x.num.natAbs ((x.den : Int)).natAbs = 1; rw [Int.natAbs_natCast]; exact x.reduced⟩
theorem nR_self (x : Rat) : Rat.divInt (nR x) (dR x) = x := Rat.num_divInt_den x
theorem low_x2 {N D : Int} (h : D ≠ 0) : lowN N D * D = N * lowD N D := by
  rcases Int.lt_or_gt_of_ne h with h0 | h0
  · have e1 := low_neg (N := N) h0
    have e2 := low_cross (N := -N) (D := -D) (by omega)
    have e3 : lowN (-N) (-D) = lowN N D ∧ lowD (-N) (-D) = lowD N D := by
      have l1 := low_low (N := N) h
      have l2 := low_low (N := -N) (D := -D) (by omega)
      have u1 : lowU (-N) (-D) = lowU N D := by unfold lowU; simp
      constructor
      · have a1 := low_pos (N := -N) (D := -D) (by omega)
        have a2 := low_neg (N := N) h0
        rw [← a1.1, ← a2.1, u1]
        unfold sU
        by_cases c : N < 0
        · rw [decide_eq_true c, decide_eq_false (show ¬ (-N < 0) by omega)]; simp
        · by_cases c0 : N = 0
          · subst c0
            have : lowU 0 D = 0 := by unfold lowU; simp
            rw [this]
            simp
          · rw [decide_eq_false c, decide_eq_true (show -N < 0 by omega)]; simp
      · have a1 := low_pos (N := -N) (D := -D) (by omega)
        have a2 := low_neg (N := N) h0
        have v1 : lowD (-N) (-D) = lowD N D := by unfold lowD; simp
        exact v1
    rw [e3.1, e3.2] at e2
    generalize lowN N D = a at *
    generalize lowD N D = b at *
    grind
  · exact low_cross h0
theorem lowR {N D : Int} (h : D ≠ 0) : lowN N D = nR (Rat.divInt N D) ∧ lowD N D = dR (Rat.divInt N D) := by
  have h1 := nR_self (Rat.divInt N D)
  have h2 := (Rat.divInt_eq_divInt_iff (dR_ne _) h).1 h1
  have h3 := low_x2 (N := N) h
  exact (low_low (N := N) h).same (nR_low (Rat.divInt N D)) (by
    generalize nR (Rat.divInt N D) = a at *
    generalize dR (Rat.divInt N D) = b at *
    refine Int.eq_of_mul_eq_mul_right h ?_
    grind)
theorem lowR_is {N D : Int} (h : Low N D) : N = nR (Rat.divInt N D) ∧ D = dR (Rat.divInt N D) := by
  have h1 := lowR (N := N) (Int.ne_of_gt h.pos)
  have h2 := (low_low (N := N) (Int.ne_of_gt h.pos)).same h (low_cross h.pos)
  rw [← h1.1, ← h1.2, h2.1, h2.2]
  exact ⟨rfl, rfl⟩
theorem addR (x y : Rat) : lowN (nR x * dR y + nR y * dR x) (dR x * dR y) = nR (x + y) ∧ lowD (nR x * dR y + nR y * dR x) (dR x * dR y) = dR (x + y) := by
  have h := lowR (N := nR x * dR y + nR y * dR x) (Int.mul_ne_zero (dR_ne x) (dR_ne y))
  rw [← Rat.divInt_add_divInt _ _ (dR_ne x) (dR_ne y), nR_self, nR_self] at h
  exact h
theorem subR (x y : Rat) : lowN (nR x * dR y - nR y * dR x) (dR x * dR y) = nR (x - y) ∧ lowD (nR x * dR y - nR y * dR x) (dR x * dR y) = dR (x - y) := by
  have h := lowR (N := nR x * dR y - nR y * dR x) (Int.mul_ne_zero (dR_ne x) (dR_ne y))
  rw [← Rat.divInt_sub_divInt _ _ (dR_ne x) (dR_ne y), nR_self, nR_self] at h
  exact h
theorem mulR (x y : Rat) : lowN (nR x * nR y) (dR x * dR y) = nR (x * y) ∧ lowD (nR x * nR y) (dR x * dR y) = dR (x * y) := by
  have h := lowR (N := nR x * nR y) (Int.mul_ne_zero (dR_ne x) (dR_ne y))
  rw [← Rat.divInt_mul_divInt, nR_self, nR_self] at h
  exact h
theorem intR (n : Int) : nR (n : Rat) = n ∧ dR (n : Rat) = 1 := ⟨rfl, rfl⟩
/-- A rational number of few limbs. -/
structure BdR (x : Rat) (L : Nat) : Prop where
  n : Bd (nR x) L
  d : Bd (dR x) L
theorem BdR.mono {x : Rat} {L L' : Nat} (h : BdR x L) (k : L ≤ L') : BdR x L' := ⟨h.n.mono k, h.d.mono k⟩
theorem BdR.add {x y : Rat} {L K : Nat} (h : BdR x L) (k : BdR y K) : BdR (x + y) (L + K + 1) := by
  have e := addR x y
  constructor
  · rw [← e.1]
    exact lowN_bd ((((h.n.mul k.d).mono (Nat.le_refl _)).add ((k.n.mul h.d).mono (by omega))))
  · rw [← e.2]
    exact lowD_bd ((h.d.mul k.d).mono (by omega))
theorem BdR.sub {x y : Rat} {L K : Nat} (h : BdR x L) (k : BdR y K) : BdR (x - y) (L + K + 1) := by
  have e := subR x y
  constructor
  · rw [← e.1]
    refine lowN_bd ?_
    rw [Int.sub_eq_add_neg]
    exact ((h.n.mul k.d).mono (Nat.le_refl _)).add (((k.n.mul h.d).neg).mono (by omega))
  · rw [← e.2]
    exact lowD_bd ((h.d.mul k.d).mono (by omega))
theorem BdR.mul {x y : Rat} {L K : Nat} (h : BdR x L) (k : BdR y K) : BdR (x * y) (L + K) := by
  have e := mulR x y
  constructor
  · rw [← e.1]
    exact lowN_bd (h.n.mul k.n)
  · rw [← e.2]
    exact lowD_bd (h.d.mul k.d)
theorem bdR_int {n : Int} (h0 : -1000 ≤ n) (h1 : n ≤ 1000) : BdR (n : Rat) 1 := ⟨⟨by rw [(intR n).1]; omega⟩, ⟨by rw [(intR n).2]; decide⟩⟩
theorem bdR_div {a b : Int} (h0 : -1000 ≤ a) (h1 : a ≤ 1000) (h2 : b ≠ 0) (h3 : -1000 ≤ b) (h4 : b ≤ 1000) : BdR (Rat.divInt a b) 1 := by
  have e := lowR (N := a) h2
  constructor
  · rw [← e.1]; exact lowN_bd ⟨by omega⟩
  · rw [← e.2]; exact lowD_bd ⟨by omega⟩
/-- What is read is this rational number. -/
def IsR (w : World) (q : QV) (x : Rat) : Prop := IsQ w q (nR x) (dR x)
theorem IsR.later {w w' : World} {q : QV} {x : Rat} (h : IsR w q x) (hb : Below w.heap.size w w') : IsR w' q x := IsQ.later h hb
def OuR (w : World) (x : Rat) (e : Ending) (w' : World) : Prop := OutQ w (nR x) (dR x) e w'
def OuRv (w : World) (x : Rat) (e : Ending) (w' : World) : Prop := OutQv w (nR x) (dR x) e w'
theorem wholeRI (n : Int) (w : World) (h0 : -9223372036854775808 ≤ n) (h1 : n ≤ 9223372036854775807) : Calls Try.prog 65 #[.int .i64 n] w (OuR w (n : Rat)) := wholeI n w h0 h1
theorem wholeRS (n : Int) (w : World) (h0 : -9223372036854775808 ≤ n) (h1 : n ≤ 9223372036854775807) : Calls Try.prog 63 #[.int .i64 n] w (OuR w (n : Rat)) := wholeS n w h0 h1
theorem copyRI (q : QV) (x : Rat) (w : World) (h : IsR w q x) (k : BdR x 50000) : Calls Try.prog 74 #[.agg #[.bool q.num.g, .slice q.num.a q.num.n q.num.c, .bool q.den.g, .slice q.den.a q.den.n q.den.c]] w (OuR w x) := copyQ q _ _ w h (k.n.mono (by omega)) (k.d.mono (by omega))
theorem isR_of {w : World} {q : QV} {x : Rat} {xs us : List Int} (h : AllAr w [(q.num, ⟨decide (nR x < 0), xs⟩), (q.den, ⟨decide (dR x < 0), us⟩)]) (h1 : Nm xs (nR x).natAbs) (h2 : Nm us (dR x).natAbs) : IsR w q x := isQ_of h h1 h2
/-- A point of fractions by value. -/
structure IsPt (w : World) (v : SV) (p : Rat × Rat) : Prop where
  x : IsR w v.lo p.1
  y : IsR w v.hi p.2
theorem IsPt.later {w w' : World} {v : SV} {p : Rat × Rat} (h : IsPt w v p) (hb : Below w.heap.size w w') : IsPt w' v p := ⟨h.x.later hb, h.y.later hb⟩
structure BdP (p : Rat × Rat) (L : Nat) : Prop where
  x : BdR p.1 L
  y : BdR p.2 L
theorem BdP.mono {p : Rat × Rat} {L L' : Nat} (h : BdP p L) (k : L ≤ L') : BdP p L' := ⟨h.x.mono k, h.y.mono k⟩
def OutPt (w : World) (p : Rat × Rat) (e : Ending) (w' : World) : Prop := OutS w (nR p.1) (dR p.1) (nR p.2) (dR p.2) e w'
/-- A good fraction's value. -/
def vQ (d : QD) : Rat := Rat.divInt (nQ d) (dQ d)
theorem vQ_good {w : World} {q : QV} {d : QD} (j : IsGood w q d) : nQ d = nR (vQ d) ∧ dQ d = dR (vQ d) := lowR_is ⟨j.pos, j.low⟩
theorem isR_good {w : World} {q : QV} {d : QD} (j : IsGood w q d) : IsR w q (vQ d) := by
  have h := vQ_good j
  have := j.is
  rw [h.1, h.2] at this
  exact this
end Go.Proofs.Ytikllcoekcglcaa
namespace Go.Proofs.Ytikllcoekcglcaa
open Go.RowKit
set_option linter.unusedVariables false
set_option maxRecDepth 100000
set_option linter.unusedSimpArgs false

/-- q is the rational number x, in memory at blocks from lo to below hi, numerator and denominator apart. -/
def OwR (lo hi : Nat) (w : World) (q : QV) (x : Rat) : Prop := ∃ xs us, AllOwn lo hi w [(q.num, ⟨decide (nR x < 0), xs⟩), (q.den, ⟨decide (dR x < 0), us⟩)] ∧ AllAr w [(q.num, ⟨decide (nR x < 0), xs⟩), (q.den, ⟨decide (dR x < 0), us⟩)] ∧ Nm xs (nR x).natAbs ∧ Nm us (dR x).natAbs
theorem OwR.later {lo hi : Nat} {w w' : World} {q : QV} {x : Rat} (h : OwR lo hi w q x) (hb : Below w.heap.size w w') : OwR lo hi w' q x := by
  obtain ⟨xs, us, h1, h2, h3, h4⟩ := h
  exact ⟨xs, us, h1.later hb, h2.later hb, h3, h4⟩
theorem OwR.is {lo hi : Nat} {w : World} {q : QV} {x : Rat} (h : OwR lo hi w q x) : IsR w q x := by
  obtain ⟨xs, us, h1, h2, h3, h4⟩ := h
  exact isR_of h2 h3 h4
theorem OwR.wide {lo hi lo' hi' : Nat} {w : World} {q : QV} {x : Rat} (h : OwR lo hi w q x) (h1 : lo' ≤ lo) (h2 : hi ≤ hi') : OwR lo' hi' w q x := by
  obtain ⟨xs, us, k1, k2, k3, k4⟩ := h
  exact ⟨xs, us, k1.wide h1 h2, k2, k3, k4⟩
theorem owR_of {lo hi : Nat} {w : World} {q : QV} {x : Rat} {xs us : List Int} (ho : AllOwn lo hi w [(q.num, ⟨decide (nR x < 0), xs⟩), (q.den, ⟨decide (dR x < 0), us⟩)]) (ha : AllAr w [(q.num, ⟨decide (nR x < 0), xs⟩), (q.den, ⟨decide (dR x < 0), us⟩)]) (h1 : Nm xs (nR x).natAbs) (h2 : Nm us (dR x).natAbs) : OwR lo hi w q x := ⟨xs, us, ho, ha, h1, h2⟩
theorem outR_fin {w wN W : World} {R lo hi : Nat} {q : QV} {x : Rat} (hR : w.heap.size ≤ R) (hb : Below w.heap.size w wN) (bt : But R (R + 1) wN W) (h : OwR lo hi wN q x) (h1 : R + 1 ≤ lo) (h2 : hi ≤ wN.heap.size) :
    OuR w x (.returned (.agg #[.bool q.num.g, .slice q.num.a q.num.n q.num.c, .bool q.den.g, .slice q.den.a q.den.n q.den.c])) W := by
  obtain ⟨xs, us, k1, k2, k3, k4⟩ := h
  exact outQ_fin hR hb bt (k1.wide h1 h2) k2 k3 k4
/-- .. where numerator and denominator may share memory. -/
structure OwV (lo hi : Nat) (w : World) (q : QV) (x : Rat) : Prop where
  n : Ow lo hi w q.num (nR x)
  d : Ow lo hi w q.den (dR x)
theorem OwV.later {lo hi : Nat} {w w' : World} {q : QV} {x : Rat} (h : OwV lo hi w q x) (hb : Below w.heap.size w w') : OwV lo hi w' q x := ⟨h.n.later hb, h.d.later hb⟩
theorem OwV.is {lo hi : Nat} {w : World} {q : QV} {x : Rat} (h : OwV lo hi w q x) : IsR w q x := ⟨h.n.is, h.d.is⟩
theorem OwV.wide {lo hi lo' hi' : Nat} {w : World} {q : QV} {x : Rat} (h : OwV lo hi w q x) (h1 : lo' ≤ lo) (h2 : hi ≤ hi') : OwV lo' hi' w q x := ⟨h.n.wide h1 h2, h.d.wide h1 h2⟩
theorem OwV.but {lo hi lo' hi' : Nat} {w w' : World} {q : QV} {x : Rat} (h : OwV lo hi w q x) (bt : But lo' hi' w w') (hd : hi ≤ lo' ∨ hi' ≤ lo) : OwV lo hi w' q x := ⟨h.n.but bt hd, h.d.but bt hd⟩
theorem outRv_fin {w wN W : World} {R lo hi : Nat} {q : QV} {x : Rat} (hR : w.heap.size ≤ R) (hb : Below w.heap.size w wN) (bt : But R (R + 1) wN W) (h : OwV lo hi wN q x) (h1 : R + 1 ≤ lo) (h2 : hi ≤ wN.heap.size) :
    OuRv w x (.returned (.agg #[.bool q.num.g, .slice q.num.a q.num.n q.num.c, .bool q.den.g, .slice q.den.a q.den.n q.den.c])) W := outQv_fin hR hb bt (h.n.wide h1 h2) (h.d.wide h1 h2)
theorem OwR.v {lo hi : Nat} {w : World} {q : QV} {x : Rat} (h : OwR lo hi w q x) : OwV lo hi w q x := by
  obtain ⟨xs, us, ho, ha, h1, h2⟩ := h
  exact ⟨⟨xs, ⟨fun p hp => ho.own p (by simp at hp ⊢; exact .inl hp), List.pairwise_singleton _ _⟩, fun p hp => ha p (by simp at hp ⊢; exact .inl hp), h1⟩, ⟨us, ⟨fun p hp => ho.own p (by simp at hp ⊢; exact .inr hp), List.pairwise_singleton _ _⟩, fun p hp => ha p (by simp at hp ⊢; exact .inr hp), h2⟩⟩
/-- A call answers what reads as the point p, in memory of its own, parts of which may be shared. -/
def OutPv (w : World) (p : Rat × Rat) (e : Ending) (w' : World) : Prop := ∃ v : SV, e = .returned (.agg #[.bool v.lo.num.g, .slice v.lo.num.a v.lo.num.n v.lo.num.c, .bool v.lo.den.g, .slice v.lo.den.a v.lo.den.n v.lo.den.c, .bool v.hi.num.g, .slice v.hi.num.a v.hi.num.n v.hi.num.c, .bool v.hi.den.g, .slice v.hi.den.a v.hi.den.n v.hi.den.c]) ∧ Below w.heap.size w w' ∧ OwV w.heap.size w'.heap.size w' v.lo p.1 ∧ OwV w.heap.size w'.heap.size w' v.hi p.2
theorem outPv_fin {w wN W : World} {R lo hi lo' hi' : Nat} {v : SV} {x y : Rat} (hR : w.heap.size ≤ R) (hb : Below w.heap.size w wN) (bt : But R (R + 1) wN W) (h : OwV lo hi wN v.lo x) (k : OwV lo' hi' wN v.hi y) (h1 : R + 1 ≤ lo) (h2 : hi ≤ wN.heap.size) (h3 : R + 1 ≤ lo') (h4 : hi' ≤ wN.heap.size) :
    OutPv w (x, y) (.returned (.agg #[.bool v.lo.num.g, .slice v.lo.num.a v.lo.num.n v.lo.num.c, .bool v.lo.den.g, .slice v.lo.den.a v.lo.den.n v.lo.den.c, .bool v.hi.num.g, .slice v.hi.num.a v.hi.num.n v.hi.num.c, .bool v.hi.den.g, .slice v.hi.den.a v.hi.den.n v.hi.den.c])) W :=
  ⟨v, rfl, bt.below hb hR hb.size, (h.but bt (.inr h1)).wide (by omega) (Nat.le_trans h2 bt.size), (k.but bt (.inr h3)).wide (by omega) (Nat.le_trans h4 bt.size)⟩
theorem outPt_fin {w wN W : World} {R lo mid hi : Nat} {v : SV} {x y : Rat} (hR : w.heap.size ≤ R) (hb : Below w.heap.size w wN) (bt : But R (R + 1) wN W) (h : OwR lo mid wN v.lo x) (k : OwR mid hi wN v.hi y) (h1 : R + 1 ≤ lo) (h2 : lo ≤ mid) (h3 : mid ≤ hi) (h4 : hi ≤ wN.heap.size) :
    OutPt w (x, y) (.returned (.agg #[.bool v.lo.num.g, .slice v.lo.num.a v.lo.num.n v.lo.num.c, .bool v.lo.den.g, .slice v.lo.den.a v.lo.den.n v.lo.den.c, .bool v.hi.num.g, .slice v.hi.num.a v.hi.num.n v.hi.num.c, .bool v.hi.den.g, .slice v.hi.den.a v.hi.den.n v.hi.den.c])) W := by
  obtain ⟨xs, us, a1, a2, a3, a4⟩ := h
  obtain ⟨ys, vs, b1, b2, b3, b4⟩ := k
  exact outS_fin hR hb bt ((a1.join b1 h2 h3).wide h1 h4) (a2.append b2) a3 a4 b3 b4
/-- A point that is a call's own. -/
def OwP2 (lo hi : Nat) (w : World) (v : SV) (p : Rat × Rat) : Prop := ∃ d : SD, AllOwn lo hi w [(v.lo.num, d.lo.num), (v.lo.den, d.lo.den), (v.hi.num, d.hi.num), (v.hi.den, d.hi.den)] ∧ AllAr w [(v.lo.num, d.lo.num), (v.lo.den, d.lo.den), (v.hi.num, d.hi.num), (v.hi.den, d.hi.den)] ∧ (d.lo.num.g = decide (nR p.1 < 0) ∧ Nm d.lo.num.xs (nR p.1).natAbs) ∧ (d.lo.den.g = decide (dR p.1 < 0) ∧ Nm d.lo.den.xs (dR p.1).natAbs) ∧ (d.hi.num.g = decide (nR p.2 < 0) ∧ Nm d.hi.num.xs (nR p.2).natAbs) ∧ (d.hi.den.g = decide (dR p.2 < 0) ∧ Nm d.hi.den.xs (dR p.2).natAbs)
end Go.Proofs.Ytikllcoekcglcaa
namespace Go.Proofs.Ytikllcoekcglcaa
open Go.RowKit
set_option linter.unusedVariables false
set_option maxRecDepth 100000
set_option linter.unusedSimpArgs false


set_option maxHeartbeats 8000000 in
theorem cpyP (v : SV) (p : Rat × Rat) (w : World) (hv : IsPt w v p) (kv : BdP p 50000) :
    Calls Try.prog 61 #[.agg #[.bool v.lo.num.g, .slice v.lo.num.a v.lo.num.n v.lo.num.c, .bool v.lo.den.g, .slice v.lo.den.a v.lo.den.n v.lo.den.c, .bool v.hi.num.g, .slice v.hi.num.a v.hi.num.n v.hi.num.c, .bool v.hi.den.g, .slice v.hi.den.a v.hi.den.n v.hi.den.c]] w (OutPt w (p.1, p.2)) := by
  have Hv := hide hv
  have Kv := hide kv
  clear hv kv
  go_enter Try.func61, Try.ntmps61
  go_upto_region 1 with fail
  have hb : Below w.heap.size w ((w.alloc (.cells #[.bool v.lo.num.g, .slice v.lo.num.a v.lo.num.n v.lo.num.c, .bool v.lo.den.g, .slice v.lo.den.a v.lo.den.n v.lo.den.c, .bool v.hi.num.g, .slice v.hi.num.a v.hi.num.n v.hi.num.c, .bool v.hi.den.g, .slice v.hi.den.a v.hi.den.n v.hi.den.c] 52)).alloc (.cells #[.bool false, .slice none 0 0, .bool false, .slice none 0 0, .bool false, .slice none 0 0, .bool false, .slice none 0 0] 52)) := (((Below.refl _ _).alloc (by simp) _).alloc (by simp) _)
  have k0_0 : ((w.alloc (.cells #[.bool v.lo.num.g, .slice v.lo.num.a v.lo.num.n v.lo.num.c, .bool v.lo.den.g, .slice v.lo.den.a v.lo.den.n v.lo.den.c, .bool v.hi.num.g, .slice v.hi.num.a v.hi.num.n v.hi.num.c, .bool v.hi.den.g, .slice v.hi.den.a v.hi.den.n v.hi.den.c] 52)).alloc (.cells #[.bool false, .slice none 0 0, .bool false, .slice none 0 0, .bool false, .slice none 0 0, .bool false, .slice none 0 0] 52)).cell? ⟨w.heap.size, 0, none⟩ = some (.bool v.lo.num.g) := by simp [go_sem]
  have k0_1 : ((w.alloc (.cells #[.bool v.lo.num.g, .slice v.lo.num.a v.lo.num.n v.lo.num.c, .bool v.lo.den.g, .slice v.lo.den.a v.lo.den.n v.lo.den.c, .bool v.hi.num.g, .slice v.hi.num.a v.hi.num.n v.hi.num.c, .bool v.hi.den.g, .slice v.hi.den.a v.hi.den.n v.hi.den.c] 52)).alloc (.cells #[.bool false, .slice none 0 0, .bool false, .slice none 0 0, .bool false, .slice none 0 0, .bool false, .slice none 0 0] 52)).cell? ⟨w.heap.size, 1, none⟩ = some (.slice v.lo.num.a v.lo.num.n v.lo.num.c) := by simp [go_sem]
  have k0_2 : ((w.alloc (.cells #[.bool v.lo.num.g, .slice v.lo.num.a v.lo.num.n v.lo.num.c, .bool v.lo.den.g, .slice v.lo.den.a v.lo.den.n v.lo.den.c, .bool v.hi.num.g, .slice v.hi.num.a v.hi.num.n v.hi.num.c, .bool v.hi.den.g, .slice v.hi.den.a v.hi.den.n v.hi.den.c] 52)).alloc (.cells #[.bool false, .slice none 0 0, .bool false, .slice none 0 0, .bool false, .slice none 0 0, .bool false, .slice none 0 0] 52)).cell? ⟨w.heap.size, 2, none⟩ = some (.bool v.lo.den.g) := by simp [go_sem]
  have k0_3 : ((w.alloc (.cells #[.bool v.lo.num.g, .slice v.lo.num.a v.lo.num.n v.lo.num.c, .bool v.lo.den.g, .slice v.lo.den.a v.lo.den.n v.lo.den.c, .bool v.hi.num.g, .slice v.hi.num.a v.hi.num.n v.hi.num.c, .bool v.hi.den.g, .slice v.hi.den.a v.hi.den.n v.hi.den.c] 52)).alloc (.cells #[.bool false, .slice none 0 0, .bool false, .slice none 0 0, .bool false, .slice none 0 0, .bool false, .slice none 0 0] 52)).cell? ⟨w.heap.size, 3, none⟩ = some (.slice v.lo.den.a v.lo.den.n v.lo.den.c) := by simp [go_sem]
  have k0_4 : ((w.alloc (.cells #[.bool v.lo.num.g, .slice v.lo.num.a v.lo.num.n v.lo.num.c, .bool v.lo.den.g, .slice v.lo.den.a v.lo.den.n v.lo.den.c, .bool v.hi.num.g, .slice v.hi.num.a v.hi.num.n v.hi.num.c, .bool v.hi.den.g, .slice v.hi.den.a v.hi.den.n v.hi.den.c] 52)).alloc (.cells #[.bool false, .slice none 0 0, .bool false, .slice none 0 0, .bool false, .slice none 0 0, .bool false, .slice none 0 0] 52)).cell? ⟨w.heap.size, 4, none⟩ = some (.bool v.hi.num.g) := by simp [go_sem]
  have k0_5 : ((w.alloc (.cells #[.bool v.lo.num.g, .slice v.lo.num.a v.lo.num.n v.lo.num.c, .bool v.lo.den.g, .slice v.lo.den.a v.lo.den.n v.lo.den.c, .bool v.hi.num.g, .slice v.hi.num.a v.hi.num.n v.hi.num.c, .bool v.hi.den.g, .slice v.hi.den.a v.hi.den.n v.hi.den.c] 52)).alloc (.cells #[.bool false, .slice none 0 0, .bool false, .slice none 0 0, .bool false, .slice none 0 0, .bool false, .slice none 0 0] 52)).cell? ⟨w.heap.size, 5, none⟩ = some (.slice v.hi.num.a v.hi.num.n v.hi.num.c) := by simp [go_sem]
  have k0_6 : ((w.alloc (.cells #[.bool v.lo.num.g, .slice v.lo.num.a v.lo.num.n v.lo.num.c, .bool v.lo.den.g, .slice v.lo.den.a v.lo.den.n v.lo.den.c, .bool v.hi.num.g, .slice v.hi.num.a v.hi.num.n v.hi.num.c, .bool v.hi.den.g, .slice v.hi.den.a v.hi.den.n v.hi.den.c] 52)).alloc (.cells #[.bool false, .slice none 0 0, .bool false, .slice none 0 0, .bool false, .slice none 0 0, .bool false, .slice none 0 0] 52)).cell? ⟨w.heap.size, 6, none⟩ = some (.bool v.hi.den.g) := by simp [go_sem]
  have k0_7 : ((w.alloc (.cells #[.bool v.lo.num.g, .slice v.lo.num.a v.lo.num.n v.lo.num.c, .bool v.lo.den.g, .slice v.lo.den.a v.lo.den.n v.lo.den.c, .bool v.hi.num.g, .slice v.hi.num.a v.hi.num.n v.hi.num.c, .bool v.hi.den.g, .slice v.hi.den.a v.hi.den.n v.hi.den.c] 52)).alloc (.cells #[.bool false, .slice none 0 0, .bool false, .slice none 0 0, .bool false, .slice none 0 0, .bool false, .slice none 0 0] 52)).cell? ⟨w.heap.size, 7, none⟩ = some (.slice v.hi.den.a v.hi.den.n v.hi.den.c) := by simp [go_sem]
  have k1_0 : ((w.alloc (.cells #[.bool v.lo.num.g, .slice v.lo.num.a v.lo.num.n v.lo.num.c, .bool v.lo.den.g, .slice v.lo.den.a v.lo.den.n v.lo.den.c, .bool v.hi.num.g, .slice v.hi.num.a v.hi.num.n v.hi.num.c, .bool v.hi.den.g, .slice v.hi.den.a v.hi.den.n v.hi.den.c] 52)).alloc (.cells #[.bool false, .slice none 0 0, .bool false, .slice none 0 0, .bool false, .slice none 0 0, .bool false, .slice none 0 0] 52)).cell? ⟨w.heap.size + 1, 0, none⟩ = some (.bool false) := by simp [go_sem]
  have k1_1 : ((w.alloc (.cells #[.bool v.lo.num.g, .slice v.lo.num.a v.lo.num.n v.lo.num.c, .bool v.lo.den.g, .slice v.lo.den.a v.lo.den.n v.lo.den.c, .bool v.hi.num.g, .slice v.hi.num.a v.hi.num.n v.hi.num.c, .bool v.hi.den.g, .slice v.hi.den.a v.hi.den.n v.hi.den.c] 52)).alloc (.cells #[.bool false, .slice none 0 0, .bool false, .slice none 0 0, .bool false, .slice none 0 0, .bool false, .slice none 0 0] 52)).cell? ⟨w.heap.size + 1, 1, none⟩ = some (.slice none 0 0) := by simp [go_sem]
  have k1_2 : ((w.alloc (.cells #[.bool v.lo.num.g, .slice v.lo.num.a v.lo.num.n v.lo.num.c, .bool v.lo.den.g, .slice v.lo.den.a v.lo.den.n v.lo.den.c, .bool v.hi.num.g, .slice v.hi.num.a v.hi.num.n v.hi.num.c, .bool v.hi.den.g, .slice v.hi.den.a v.hi.den.n v.hi.den.c] 52)).alloc (.cells #[.bool false, .slice none 0 0, .bool false, .slice none 0 0, .bool false, .slice none 0 0, .bool false, .slice none 0 0] 52)).cell? ⟨w.heap.size + 1, 2, none⟩ = some (.bool false) := by simp [go_sem]
  have k1_3 : ((w.alloc (.cells #[.bool v.lo.num.g, .slice v.lo.num.a v.lo.num.n v.lo.num.c, .bool v.lo.den.g, .slice v.lo.den.a v.lo.den.n v.lo.den.c, .bool v.hi.num.g, .slice v.hi.num.a v.hi.num.n v.hi.num.c, .bool v.hi.den.g, .slice v.hi.den.a v.hi.den.n v.hi.den.c] 52)).alloc (.cells #[.bool false, .slice none 0 0, .bool false, .slice none 0 0, .bool false, .slice none 0 0, .bool false, .slice none 0 0] 52)).cell? ⟨w.heap.size + 1, 3, none⟩ = some (.slice none 0 0) := by simp [go_sem]
  have k1_4 : ((w.alloc (.cells #[.bool v.lo.num.g, .slice v.lo.num.a v.lo.num.n v.lo.num.c, .bool v.lo.den.g, .slice v.lo.den.a v.lo.den.n v.lo.den.c, .bool v.hi.num.g, .slice v.hi.num.a v.hi.num.n v.hi.num.c, .bool v.hi.den.g, .slice v.hi.den.a v.hi.den.n v.hi.den.c] 52)).alloc (.cells #[.bool false, .slice none 0 0, .bool false, .slice none 0 0, .bool false, .slice none 0 0, .bool false, .slice none 0 0] 52)).cell? ⟨w.heap.size + 1, 4, none⟩ = some (.bool false) := by simp [go_sem]
  have k1_5 : ((w.alloc (.cells #[.bool v.lo.num.g, .slice v.lo.num.a v.lo.num.n v.lo.num.c, .bool v.lo.den.g, .slice v.lo.den.a v.lo.den.n v.lo.den.c, .bool v.hi.num.g, .slice v.hi.num.a v.hi.num.n v.hi.num.c, .bool v.hi.den.g, .slice v.hi.den.a v.hi.den.n v.hi.den.c] 52)).alloc (.cells #[.bool false, .slice none 0 0, .bool false, .slice none 0 0, .bool false, .slice none 0 0, .bool false, .slice none 0 0] 52)).cell? ⟨w.heap.size + 1, 5, none⟩ = some (.slice none 0 0) := by simp [go_sem]
  have k1_6 : ((w.alloc (.cells #[.bool v.lo.num.g, .slice v.lo.num.a v.lo.num.n v.lo.num.c, .bool v.lo.den.g, .slice v.lo.den.a v.lo.den.n v.lo.den.c, .bool v.hi.num.g, .slice v.hi.num.a v.hi.num.n v.hi.num.c, .bool v.hi.den.g, .slice v.hi.den.a v.hi.den.n v.hi.den.c] 52)).alloc (.cells #[.bool false, .slice none 0 0, .bool false, .slice none 0 0, .bool false, .slice none 0 0, .bool false, .slice none 0 0] 52)).cell? ⟨w.heap.size + 1, 6, none⟩ = some (.bool false) := by simp [go_sem]
  have k1_7 : ((w.alloc (.cells #[.bool v.lo.num.g, .slice v.lo.num.a v.lo.num.n v.lo.num.c, .bool v.lo.den.g, .slice v.lo.den.a v.lo.den.n v.lo.den.c, .bool v.hi.num.g, .slice v.hi.num.a v.hi.num.n v.hi.num.c, .bool v.hi.den.g, .slice v.hi.den.a v.hi.den.n v.hi.den.c] 52)).alloc (.cells #[.bool false, .slice none 0 0, .bool false, .slice none 0 0, .bool false, .slice none 0 0, .bool false, .slice none 0 0] 52)).cell? ⟨w.heap.size + 1, 7, none⟩ = some (.slice none 0 0) := by simp [go_sem]
  have z1 : ∀ o, ((w.alloc (.cells #[.bool v.lo.num.g, .slice v.lo.num.a v.lo.num.n v.lo.num.c, .bool v.lo.den.g, .slice v.lo.den.a v.lo.den.n v.lo.den.c, .bool v.hi.num.g, .slice v.hi.num.a v.hi.num.n v.hi.num.c, .bool v.hi.den.g, .slice v.hi.den.a v.hi.den.n v.hi.den.c] 52)).alloc (.cells #[.bool false, .slice none 0 0, .bool false, .slice none 0 0, .bool false, .slice none 0 0, .bool false, .slice none 0 0] 52)).frozen? ⟨w.heap.size + 1, o, none⟩ = false := fun o => by simp [go_sem]
  have Qv := hide ((unhide Hv).later hb)
  have szw0 : w.heap.size + 2 ≤ ((w.alloc (.cells #[.bool v.lo.num.g, .slice v.lo.num.a v.lo.num.n v.lo.num.c, .bool v.lo.den.g, .slice v.lo.den.a v.lo.den.n v.lo.den.c, .bool v.hi.num.g, .slice v.hi.num.a v.hi.num.n v.hi.num.c, .bool v.hi.den.g, .slice v.hi.den.a v.hi.den.n v.hi.den.c] 52)).alloc (.cells #[.bool false, .slice none 0 0, .bool false, .slice none 0 0, .bool false, .slice none 0 0, .bool false, .slice none 0 0] 52)).heap.size := by simp
  have HB := hide hb
  clear hb
  generalize ((w.alloc (.cells #[.bool v.lo.num.g, .slice v.lo.num.a v.lo.num.n v.lo.num.c, .bool v.lo.den.g, .slice v.lo.den.a v.lo.den.n v.lo.den.c, .bool v.hi.num.g, .slice v.hi.num.a v.hi.num.n v.hi.num.c, .bool v.hi.den.g, .slice v.hi.den.a v.hi.den.n v.hi.den.c] 52)).alloc (.cells #[.bool false, .slice none 0 0, .bool false, .slice none 0 0, .bool false, .slice none 0 0, .bool false, .slice none 0 0] 52)) = w0 at *
  have ne0_1 : w.heap.size ≠ w.heap.size + 1 := by omega
  go_region_held3 (fun w' => w'.cell? ⟨w.heap.size, 0, none⟩ = some (.bool v.lo.num.g) ∧ w'.cell? ⟨w.heap.size, 1, none⟩ = some (.slice v.lo.num.a v.lo.num.n v.lo.num.c) ∧ w'.cell? ⟨w.heap.size, 2, none⟩ = some (.bool v.lo.den.g) ∧ w'.cell? ⟨w.heap.size, 3, none⟩ = some (.slice v.lo.den.a v.lo.den.n v.lo.den.c) ∧ w'.cell? ⟨w.heap.size, 4, none⟩ = some (.bool v.hi.num.g) ∧ w'.cell? ⟨w.heap.size, 5, none⟩ = some (.slice v.hi.num.a v.hi.num.n v.hi.num.c) ∧ w'.cell? ⟨w.heap.size, 6, none⟩ = some (.bool v.hi.den.g) ∧ w'.cell? ⟨w.heap.size, 7, none⟩ = some (.slice v.hi.den.a v.hi.den.n v.hi.den.c)) (with_reducible (first | exact ⟨k0_0, k0_1, k0_2, k0_3, k0_4, k0_5, k0_6, k0_7⟩ | exact ⟨cd_other k0_0, cd_other k0_1, cd_other k0_2, cd_other k0_3, cd_other k0_4, cd_other k0_5, cd_other k0_6, cd_other k0_7⟩ | exact ⟨cs_other (cs_other (cs_other (cs_other (cs_other (cs_other (cs_other (cs_other (k0_0) ne0_1) ne0_1) ne0_1) ne0_1) ne0_1) ne0_1) ne0_1) ne0_1, cs_other (cs_other (cs_other (cs_other (cs_other (cs_other (cs_other (cs_other (k0_1) ne0_1) ne0_1) ne0_1) ne0_1) ne0_1) ne0_1) ne0_1) ne0_1, cs_other (cs_other (cs_other (cs_other (cs_other (cs_other (cs_other (cs_other (k0_2) ne0_1) ne0_1) ne0_1) ne0_1) ne0_1) ne0_1) ne0_1) ne0_1, cs_other (cs_other (cs_other (cs_other (cs_other (cs_other (cs_other (cs_other (k0_3) ne0_1) ne0_1) ne0_1) ne0_1) ne0_1) ne0_1) ne0_1) ne0_1, cs_other (cs_other (cs_other (cs_other (cs_other (cs_other (cs_other (cs_other (k0_4) ne0_1) ne0_1) ne0_1) ne0_1) ne0_1) ne0_1) ne0_1) ne0_1, cs_other (cs_other (cs_other (cs_other (cs_other (cs_other (cs_other (cs_other (k0_5) ne0_1) ne0_1) ne0_1) ne0_1) ne0_1) ne0_1) ne0_1) ne0_1, cs_other (cs_other (cs_other (cs_other (cs_other (cs_other (cs_other (cs_other (k0_6) ne0_1) ne0_1) ne0_1) ne0_1) ne0_1) ne0_1) ne0_1) ne0_1, cs_other (cs_other (cs_other (cs_other (cs_other (cs_other (cs_other (cs_other (k0_7) ne0_1) ne0_1) ne0_1) ne0_1) ne0_1) ne0_1) ne0_1) ne0_1⟩ | fail))
    (first
    | (go_at_call_of 74 (Value.agg #[Value.bool v.lo.num.g, Value.slice v.lo.num.a v.lo.num.n v.lo.num.c, Value.bool v.lo.den.g, Value.slice v.lo.den.a v.lo.den.n v.lo.den.c]); refine (copyRI v.lo (p.1) _ ?_ ((unhide Kv).x.mono (by omega))).mono ?_; exact (unhide Qv).x.later (Below.refl _ _).drew; rintro e w1 ⟨x1, la1, lb1, rfl, hb, o1, a1, m1, n1⟩; have hbx : Below w0.heap.size w0 w1 := below_of_drew hb; have szw1 := hbx.size; replace z1 := fun o => frozen_later hbx (World.block_lt_of_cell? _ _ k1_0) (z1 o); replace k0_0 := cell_later hbx k0_0; replace k0_1 := cell_later hbx k0_1; replace k0_2 := cell_later hbx k0_2; replace k0_3 := cell_later hbx k0_3; replace k0_4 := cell_later hbx k0_4; replace k0_5 := cell_later hbx k0_5; replace k0_6 := cell_later hbx k0_6; replace k0_7 := cell_later hbx k0_7; replace k1_0 := cell_later hbx k1_0; replace k1_1 := cell_later hbx k1_1; replace k1_2 := cell_later hbx k1_2; replace k1_3 := cell_later hbx k1_3; replace k1_4 := cell_later hbx k1_4; replace k1_5 := cell_later hbx k1_5; replace k1_6 := cell_later hbx k1_6; replace k1_7 := cell_later hbx k1_7; replace Qv := hide ((unhide Qv).later hbx); have Px1 := hide (owR_of (lo := w0.heap.size) (x := p.1) o1 a1 m1 n1); have HBr := hide hbx; clear hbx hb o1 a1 m1 n1)
    | (go_at_call_of 74 (Value.agg #[Value.bool v.hi.num.g, Value.slice v.hi.num.a v.hi.num.n v.hi.num.c, Value.bool v.hi.den.g, Value.slice v.hi.den.a v.hi.den.n v.hi.den.c]); refine (copyRI v.hi (p.2) _ ?_ ((unhide Kv).y.mono (by omega))).mono ?_; exact (unhide Qv).y.later (Below.refl _ _); rintro e w2 ⟨x2, la2, lb2, rfl, hb, o2, a2, m2, n2⟩; have hbx : Below w1.heap.size w1 w2 := hb; have szw2 := hbx.size; replace z1 := fun o => frozen_later hbx (World.block_lt_of_cell? _ _ k1_0) (z1 o); replace k0_0 := cell_later hbx k0_0; replace k0_1 := cell_later hbx k0_1; replace k0_2 := cell_later hbx k0_2; replace k0_3 := cell_later hbx k0_3; replace k0_4 := cell_later hbx k0_4; replace k0_5 := cell_later hbx k0_5; replace k0_6 := cell_later hbx k0_6; replace k0_7 := cell_later hbx k0_7; replace k1_0 := cell_later hbx k1_0; replace k1_1 := cell_later hbx k1_1; replace k1_2 := cell_later hbx k1_2; replace k1_3 := cell_later hbx k1_3; replace k1_4 := cell_later hbx k1_4; replace k1_5 := cell_later hbx k1_5; replace k1_6 := cell_later hbx k1_6; replace k1_7 := cell_later hbx k1_7; replace Qv := hide ((unhide Qv).later hbx); replace Px1 := hide ((unhide Px1).later hbx); have Px2 := hide (owR_of (lo := w1.heap.size) (x := p.2) o2 a2 m2 n2); have HBr := hide (below_on (unhide HBr) hbx); clear hbx hb o2 a2 m2 n2))
  replace HB := hide (below_on (unhide HB) (unhide HBr))
  clear HBr
  go_wp2
  refine bodyPost_ret (v := .agg #[.bool x1.num.g, .slice x1.num.a x1.num.n x1.num.c, .bool x1.den.g, .slice x1.den.a x1.den.n x1.den.c, .bool x2.num.g, .slice x2.num.a x2.num.n x2.num.c, .bool x2.den.g, .slice x2.den.a x2.den.n x2.den.c]) (by simp [results, Try.results61, go_sem, k1_0, k1_1, k1_2, k1_3, k1_4, k1_5, k1_6, k1_7]) rfl ?_
  exact outPt_fin (v := (⟨x1, x2⟩ : SV)) (R := w.heap.size + 1) (by omega) (unhide HB) (metS_but (w5 := w2) (v := (⟨x1, x2⟩ : SV)) (G := w.heap.size + 1)) ((unhide Px1).wide (hi' := w1.heap.size) (Nat.le_refl _) (by omega)) ((unhide Px2).wide (lo' := w1.heap.size) (by omega) (Nat.le_refl _)) (by omega) (by omega) (by omega) (by omega)

end Go.Proofs.Ytikllcoekcglcaa
namespace Go.Proofs.Ytikllcoekcglcaa
open Go.RowKit
set_option linter.unusedVariables false
set_option maxRecDepth 100000
set_option linter.unusedSimpArgs false

/-- The cells of some values in a row. -/
def PAtS (w : World) (a : Option Addr) (l : List (SV × SD)) : Prop := l = [] ∨ ∃ b off, a = some ⟨b, off, none⟩ ∧ b < w.heap.size ∧ ∀ i (h : i < l.length), w.cell? ⟨b, off + i * 8, none⟩ = some (.bool l[i].1.lo.num.g) ∧ w.cell? ⟨b, off + i * 8 + 1, none⟩ = some (.slice l[i].1.lo.num.a l[i].1.lo.num.n l[i].1.lo.num.c) ∧ w.cell? ⟨b, off + i * 8 + 2, none⟩ = some (.bool l[i].1.lo.den.g) ∧ w.cell? ⟨b, off + i * 8 + 3, none⟩ = some (.slice l[i].1.lo.den.a l[i].1.lo.den.n l[i].1.lo.den.c) ∧ w.cell? ⟨b, off + i * 8 + 4, none⟩ = some (.bool l[i].1.hi.num.g) ∧ w.cell? ⟨b, off + i * 8 + 5, none⟩ = some (.slice l[i].1.hi.num.a l[i].1.hi.num.n l[i].1.hi.num.c) ∧ w.cell? ⟨b, off + i * 8 + 6, none⟩ = some (.bool l[i].1.hi.den.g) ∧ w.cell? ⟨b, off + i * 8 + 7, none⟩ = some (.slice l[i].1.hi.den.a l[i].1.hi.den.n l[i].1.hi.den.c)
theorem PAtS.later {w w' : World} {a : Option Addr} {l : List (SV × SD)} (h : PAtS w a l) (hb : Below w.heap.size w w') : PAtS w' a l := by
  rcases h with h | ⟨b, off, rfl, h1, h2⟩
  · exact .inl h
  · exact .inr ⟨b, off, rfl, Nat.lt_of_lt_of_le h1 hb.size, fun i hi => ⟨cell_later hb ((h2 i hi).1), cell_later hb ((h2 i hi).2.1), cell_later hb ((h2 i hi).2.2.1), cell_later hb ((h2 i hi).2.2.2.1), cell_later hb ((h2 i hi).2.2.2.2.1), cell_later hb ((h2 i hi).2.2.2.2.2.1), cell_later hb ((h2 i hi).2.2.2.2.2.2.1), cell_later hb ((h2 i hi).2.2.2.2.2.2.2)⟩⟩
structure PSlS (w : World) (a : Option Addr) (l : List (SV × SD)) : Prop where
  at_ : PAtS w a l
  rd : ∀ p ∈ l, AllSl w [(p.1.lo.num, p.2.lo.num), (p.1.lo.den, p.2.lo.den), (p.1.hi.num, p.2.hi.num), (p.1.hi.den, p.2.hi.den)]
theorem PSlS.later {w w' : World} {a : Option Addr} {l : List (SV × SD)} (h : PSlS w a l) (hb : Below w.heap.size w w') : PSlS w' a l := ⟨h.at_.later hb, fun p hp => (h.rd p hp).later hb⟩
/-- .. as an argument. -/
structure PArS (w : World) (a : Option Addr) (n c : Nat) (l : List (SV × SD)) : Prop where
  at_ : PAtS w a l
  rd : ∀ p ∈ l, AllAr w [(p.1.lo.num, p.2.lo.num), (p.1.lo.den, p.2.lo.den), (p.1.hi.num, p.2.hi.num), (p.1.hi.den, p.2.hi.den)]
  len : l.length = n
  cap : n ≤ c
  top : c ≤ maxLen
theorem PArS.later {w w' : World} {a : Option Addr} {n c : Nat} {l : List (SV × SD)} (h : PArS w a n c l) (hb : Below w.heap.size w w') : PArS w' a n c l := ⟨h.at_.later hb, fun p hp => (h.rd p hp).later hb, h.len, h.cap, h.top⟩
theorem PArS.sl {w : World} {a : Option Addr} {n c : Nat} {l : List (SV × SD)} (h : PArS w a n c l) : PSlS w a l := ⟨h.at_, fun p hp => (h.rd p hp).sl⟩
def lenS (p : SV × SD) : Nat := p.1.lo.num.n + p.1.lo.den.n + p.1.hi.num.n + p.1.hi.den.n
def lenPS : List (SV × SD) → Nat
  | [] => 0
  | p :: l => lenS p + lenPS l
theorem lenPS_append (l l' : List (SV × SD)) : lenPS (l ++ l') = lenPS l + lenPS l' := by
  induction l with
  | nil => simp [lenPS]
  | cons p l ih => simp only [List.cons_append, lenPS, ih]; omega
theorem lenPS_mem {l : List (SV × SD)} {p : SV × SD} (h : p ∈ l) : lenS p ≤ lenPS l := by
  induction l with
  | nil => cases h
  | cons q l ih =>
    unfold lenPS
    rcases List.mem_cons.1 h with rfl | h
    · omega
    · have := ih h; omega
/-- The numbers in some values. -/
def zipPS (l : List (SV × SD)) : List (BV × BD) := l.flatMap (fun p => [(p.1.lo.num, p.2.lo.num), (p.1.lo.den, p.2.lo.den), (p.1.hi.num, p.2.hi.num), (p.1.hi.den, p.2.hi.den)])
theorem zipPS_append (l l' : List (SV × SD)) : zipPS (l ++ l') = zipPS l ++ zipPS l' := by simp [zipPS]
theorem zipPS_one (p : SV × SD) : zipPS [p] = [(p.1.lo.num, p.2.lo.num), (p.1.lo.den, p.2.lo.den), (p.1.hi.num, p.2.hi.num), (p.1.hi.den, p.2.hi.den)] := by simp [zipPS]
theorem zipPS_mem {l : List (SV × SD)} {p : SV × SD} (h : p ∈ l) {x : BV × BD} (hx : x ∈ [(p.1.lo.num, p.2.lo.num), (p.1.lo.den, p.2.lo.den), (p.1.hi.num, p.2.hi.num), (p.1.hi.den, p.2.hi.den)]) : x ∈ zipPS l := List.mem_flatMap.2 ⟨p, h, hx⟩
theorem take_succS {l : List (SV × SD)} {i : Nat} (h : i < l.length) : l.take (i + 1) = l.take i ++ [l[i]] := (List.take_append_getElem h).symm

set_option maxHeartbeats 2000000 in
theorem szPS (a : Option Addr) (n c : Nat) (l : List (SV × SD)) (left : Int) (w : World) (h : PSlS w a l) (hn : l.length = n) (hm : n ≤ maxLen) (ml : ∀ p ∈ l, p.1.lo.num.n ≤ maxLen ∧ p.1.lo.den.n ≤ maxLen ∧ p.1.hi.num.n ≤ maxLen ∧ p.1.hi.den.n ≤ maxLen) (h0 : 0 ≤ left) (h1 : left ≤ 1048576) :
    Calls Try.prog 9 #[.slice a n c, .int .i64 left] w fun e w' => ∃ r : Int, e = .returned (.int .i64 r) ∧ Below w.heap.size w w' ∧ (r = -1 ∨ (0 ≤ r ∧ r = left - (n : Int) - (lenPS l : Int))) := by
  have HS := hide h
  have HN := hide hn
  have ML := hide ml
  clear h hn ml
  unfold maxLen at hm
  by_cases c0 : left - (n : Int) < 0
  · go_enter Try.func9, Try.ntmps9
    go_wp2
    go_ret
    exact ⟨_, rfl, Below.refl _ _, .inl rfl⟩
  · go_enter Try.func9, Try.ntmps9
    go_wp2
    go_loopw [1, 5] (fun lv iv wr => ∃ (i : Nat) (r : Int), i ≤ n ∧ iv = .int .i64 i ∧ lv = .int .i64 r ∧ 0 ≤ r ∧ r ≤ 1048576 ∧ Hid (r = left - (n : Int) - (lenPS (l.take i) : Int)) ∧ Hid (Below w.heap.size w wr)) (fun _ iv _ => n - (intOf iv).toNat)
    case atStart => exact ⟨0, _, Nat.zero_le _, rfl, rfl, by omega, by omega, hide (by simp [lenPS]), hide (Below.refl _ _)⟩
    case round =>
      obtain ⟨i, r, hi, rfl, rfl, r0, r1, ER, HB⟩ := hrel
      by_cases hlt : i < n
      · have hlt' : (i : Int) < (n : Int) := by omega
        rcases (unhide HS).at_ with e | ⟨b, off, rfl, hb, hc⟩
        · exact absurd (unhide HN) (by rw [e]; simp; omega)
        have e0 := hc i (by rw [unhide HN]; exact hlt)
        obtain ⟨y, hy⟩ : ∃ y, y = l[i]'(by rw [unhide HN]; exact hlt) := ⟨_, rfl⟩
        rw [← hy] at e0
        have MY : Hid (y ∈ l) := hide (by rw [hy]; exact List.getElem_mem _)
        have EY := hide hy
        clear hy
        have E0 : wr.cell? ⟨b, off + i * 8, none⟩ = some (.bool y.1.lo.num.g) := ((unhide HB).cell (p := ⟨b, off + i * 8, none⟩) hb).trans (e0.1)
        have E1 : wr.cell? ⟨b, off + i * 8 + 1, none⟩ = some (.slice y.1.lo.num.a y.1.lo.num.n y.1.lo.num.c) := ((unhide HB).cell (p := ⟨b, off + i * 8 + 1, none⟩) hb).trans (e0.2.1)
        have E2 : wr.cell? ⟨b, off + i * 8 + 2, none⟩ = some (.bool y.1.lo.den.g) := ((unhide HB).cell (p := ⟨b, off + i * 8 + 2, none⟩) hb).trans (e0.2.2.1)
        have E3 : wr.cell? ⟨b, off + i * 8 + 3, none⟩ = some (.slice y.1.lo.den.a y.1.lo.den.n y.1.lo.den.c) := ((unhide HB).cell (p := ⟨b, off + i * 8 + 3, none⟩) hb).trans (e0.2.2.2.1)
        have E4 : wr.cell? ⟨b, off + i * 8 + 4, none⟩ = some (.bool y.1.hi.num.g) := ((unhide HB).cell (p := ⟨b, off + i * 8 + 4, none⟩) hb).trans (e0.2.2.2.2.1)
        have E5 : wr.cell? ⟨b, off + i * 8 + 5, none⟩ = some (.slice y.1.hi.num.a y.1.hi.num.n y.1.hi.num.c) := ((unhide HB).cell (p := ⟨b, off + i * 8 + 5, none⟩) hb).trans (e0.2.2.2.2.2.1)
        have E6 : wr.cell? ⟨b, off + i * 8 + 6, none⟩ = some (.bool y.1.hi.den.g) := ((unhide HB).cell (p := ⟨b, off + i * 8 + 6, none⟩) hb).trans (e0.2.2.2.2.2.2.1)
        have E7 : wr.cell? ⟨b, off + i * 8 + 7, none⟩ = some (.slice y.1.hi.den.a y.1.hi.den.n y.1.hi.den.c) := ((unhide HB).cell (p := ⟨b, off + i * 8 + 7, none⟩) hb).trans (e0.2.2.2.2.2.2.2)
        clear e0
        have TK : Hid (l.take (i + 1) = l.take i ++ [y]) := hide (by have h := take_succS (l := l) (i := i) (by rw [unhide HN]; exact hlt); rw [← unhide EY] at h; exact h)
        have j0 := (unhide ML) y (unhide MY)
        have lo : lenS y = y.1.lo.num.n + y.1.lo.den.n + y.1.hi.num.n + y.1.hi.den.n := rfl
        have TL : Hid ((lenPS (l.take (i + 1)) : Int) = (lenPS (l.take i) : Int) + ((y.1.lo.num.n : Int) + (y.1.lo.den.n : Int) + (y.1.hi.num.n : Int) + (y.1.hi.den.n : Int))) := hide (by rw [unhide TK, lenPS_append]; show ((_ + (lenS y + 0) : Nat) : Int) = _; omega)
        clear hc lo
        by_cases c1 : (y.1.lo.num.n : Int) + (y.1.lo.den.n : Int) + (y.1.hi.num.n : Int) + (y.1.hi.den.n : Int) ≤ r
        · have c2 : ¬ (r - (y.1.lo.num.n : Int) - (y.1.lo.den.n : Int) - (y.1.hi.num.n : Int) - (y.1.hi.den.n : Int) < 0) := by omega
          go_wp2_with fail
          refine (szS_in y.1 r _ r0 r1 c1).mono ?_
          rintro e w1 ⟨rfl, hb1⟩
          have HB1 := hide (below_on (unhide HB) hb1)
          clear hb1 E0 E1 E2 E3 E4 E5 E6 E7
          go_wp2
          go_roundw
          case rel => exact ⟨i + 1, _, by omega, by go_num, rfl, by omega, by omega, hide (by rw [unhide TL]; have := unhide ER; omega), HB1⟩
          case measure => simp [intOf]; omega
        · go_wp2_with fail
          refine (szS_out y.1 r _ r0 r1 j0.1 j0.2.1 j0.2.2.1 j0.2.2.2 (by omega)).mono ?_
          rintro e w1 ⟨rfl, hb1⟩
          have HB1 := hide (below_on (unhide HB) hb1)
          clear hb1 E0 E1 E2 E3 E4 E5 E6 E7
          go_wp2
          go_ret
          exact ⟨_, rfl, unhide HB1, .inl rfl⟩
      · obtain rfl : i = n := by omega
        have EL := hide (show r = left - (i : Int) - (lenPS l : Int) from by have := unhide ER; rw [← unhide HN, List.take_length, unhide HN] at this; exact this)
        go_wp2
        go_ret
        exact ⟨_, rfl, unhide HB, .inr ⟨r0, unhide EL⟩⟩

theorem get_sndS {l l' : List (SV × SD)} (h : l.map Prod.snd = l'.map Prod.snd) {i : Nat} (hi : i < l.length) (hi' : i < l'.length) : l[i].2 = l'[i].2 := by
  have := congrArg (fun x => x[i]?) h
  simpa [hi, hi'] using this
set_option maxHeartbeats 4000000 in
theorem eqPS (a a' : Option Addr) (n c c' : Nat) (l l' : List (SV × SD)) (w : World) (h : PSlS w a l) (h' : PSlS w a' l') (hn : l.length = n) (he : l.map Prod.snd = l'.map Prod.snd) (hm : n ≤ maxLen) (ml : ∀ p ∈ l, p.1.lo.num.n ≤ maxLen ∧ p.1.lo.den.n ≤ maxLen ∧ p.1.hi.num.n ≤ maxLen ∧ p.1.hi.den.n ≤ maxLen) :
    Calls Try.prog 13 #[.slice a n c, .slice a' n c'] w fun e w' => e = .returned (.bool true) ∧ Below w.heap.size w w' := by
  have hn' : l'.length = n := by have := congrArg List.length he; simp at this; omega
  have HS := hide h
  have HS' := hide h'
  have HN := hide hn
  have HN' := hide hn'
  have HE := hide he
  have ML := hide ml
  clear h hn ml he hn' h'
  unfold maxLen at hm
  go_enter Try.func13, Try.ntmps13
  go_wp2
  go_loopw [5] (fun iv wr => ∃ (i : Nat), i ≤ n ∧ iv = .int .i64 i ∧ Hid (Below w.heap.size w wr)) (fun iv _ => n - (intOf iv).toNat)
  case atStart => exact ⟨0, Nat.zero_le _, rfl, hide (Below.refl _ _)⟩
  case round =>
    obtain ⟨i, hi, rfl, HB⟩ := hrel
    by_cases hlt : i < n
    · have hlt' : (i : Int) < (n : Int) := by omega
      rcases (unhide HS).at_ with e | ⟨b, off, rfl, hb, hc⟩
      · exact absurd (unhide HN) (by rw [e]; simp; omega)
      have e0 := hc i (by rw [unhide HN]; exact hlt)
      obtain ⟨y, hy⟩ : ∃ y, y = l[i]'(by rw [unhide HN]; exact hlt) := ⟨_, rfl⟩
      rw [← hy] at e0
      have MY : Hid (y ∈ l) := hide (by rw [hy]; exact List.getElem_mem _)
      have EY := hide hy
      clear hy
      have E0 : wr.cell? ⟨b, off + i * 8, none⟩ = some (.bool y.1.lo.num.g) := ((unhide HB).cell (p := ⟨b, off + i * 8, none⟩) hb).trans (e0.1)
      have E1 : wr.cell? ⟨b, off + i * 8 + 1, none⟩ = some (.slice y.1.lo.num.a y.1.lo.num.n y.1.lo.num.c) := ((unhide HB).cell (p := ⟨b, off + i * 8 + 1, none⟩) hb).trans (e0.2.1)
      have E2 : wr.cell? ⟨b, off + i * 8 + 2, none⟩ = some (.bool y.1.lo.den.g) := ((unhide HB).cell (p := ⟨b, off + i * 8 + 2, none⟩) hb).trans (e0.2.2.1)
      have E3 : wr.cell? ⟨b, off + i * 8 + 3, none⟩ = some (.slice y.1.lo.den.a y.1.lo.den.n y.1.lo.den.c) := ((unhide HB).cell (p := ⟨b, off + i * 8 + 3, none⟩) hb).trans (e0.2.2.2.1)
      have E4 : wr.cell? ⟨b, off + i * 8 + 4, none⟩ = some (.bool y.1.hi.num.g) := ((unhide HB).cell (p := ⟨b, off + i * 8 + 4, none⟩) hb).trans (e0.2.2.2.2.1)
      have E5 : wr.cell? ⟨b, off + i * 8 + 5, none⟩ = some (.slice y.1.hi.num.a y.1.hi.num.n y.1.hi.num.c) := ((unhide HB).cell (p := ⟨b, off + i * 8 + 5, none⟩) hb).trans (e0.2.2.2.2.2.1)
      have E6 : wr.cell? ⟨b, off + i * 8 + 6, none⟩ = some (.bool y.1.hi.den.g) := ((unhide HB).cell (p := ⟨b, off + i * 8 + 6, none⟩) hb).trans (e0.2.2.2.2.2.2.1)
      have E7 : wr.cell? ⟨b, off + i * 8 + 7, none⟩ = some (.slice y.1.hi.den.a y.1.hi.den.n y.1.hi.den.c) := ((unhide HB).cell (p := ⟨b, off + i * 8 + 7, none⟩) hb).trans (e0.2.2.2.2.2.2.2)
      clear e0
      clear hc
      rcases (unhide HS').at_ with e | ⟨b', off', rfl, hb', hc'⟩
      · exact absurd (unhide HN') (by rw [e]; simp; omega)
      have e0 := hc' i (by rw [unhide HN']; exact hlt)
      obtain ⟨y', hy'⟩ : ∃ y, y = l'[i]'(by rw [unhide HN']; exact hlt) := ⟨_, rfl⟩
      rw [← hy'] at e0
      have MY' : Hid (y' ∈ l') := hide (by rw [hy']; exact List.getElem_mem _)
      have ED : Hid (y.2 = y'.2) := hide (by rw [unhide EY, hy']; exact get_sndS (unhide HE) _ _)
      clear hy'
      have F0 : wr.cell? ⟨b', off' + i * 8, none⟩ = some (.bool y'.1.lo.num.g) := ((unhide HB).cell (p := ⟨b', off' + i * 8, none⟩) hb').trans (e0.1)
      have F1 : wr.cell? ⟨b', off' + i * 8 + 1, none⟩ = some (.slice y'.1.lo.num.a y'.1.lo.num.n y'.1.lo.num.c) := ((unhide HB).cell (p := ⟨b', off' + i * 8 + 1, none⟩) hb').trans (e0.2.1)
      have F2 : wr.cell? ⟨b', off' + i * 8 + 2, none⟩ = some (.bool y'.1.lo.den.g) := ((unhide HB).cell (p := ⟨b', off' + i * 8 + 2, none⟩) hb').trans (e0.2.2.1)
      have F3 : wr.cell? ⟨b', off' + i * 8 + 3, none⟩ = some (.slice y'.1.lo.den.a y'.1.lo.den.n y'.1.lo.den.c) := ((unhide HB).cell (p := ⟨b', off' + i * 8 + 3, none⟩) hb').trans (e0.2.2.2.1)
      have F4 : wr.cell? ⟨b', off' + i * 8 + 4, none⟩ = some (.bool y'.1.hi.num.g) := ((unhide HB).cell (p := ⟨b', off' + i * 8 + 4, none⟩) hb').trans (e0.2.2.2.2.1)
      have F5 : wr.cell? ⟨b', off' + i * 8 + 5, none⟩ = some (.slice y'.1.hi.num.a y'.1.hi.num.n y'.1.hi.num.c) := ((unhide HB).cell (p := ⟨b', off' + i * 8 + 5, none⟩) hb').trans (e0.2.2.2.2.2.1)
      have F6 : wr.cell? ⟨b', off' + i * 8 + 6, none⟩ = some (.bool y'.1.hi.den.g) := ((unhide HB).cell (p := ⟨b', off' + i * 8 + 6, none⟩) hb').trans (e0.2.2.2.2.2.2.1)
      have F7 : wr.cell? ⟨b', off' + i * 8 + 7, none⟩ = some (.slice y'.1.hi.den.a y'.1.hi.den.n y'.1.hi.den.c) := ((unhide HB).cell (p := ⟨b', off' + i * 8 + 7, none⟩) hb').trans (e0.2.2.2.2.2.2.2)
      clear e0 hc'
      have j0 := (unhide ML) y (unhide MY)
      have R1 := hide (((unhide HS).rd y (unhide MY)).later (unhide HB))
      have R2 := hide (((unhide HS').rd y' (unhide MY')).later (unhide HB))
      go_upto_region 6 with fail
      go_region_held3 (fun w' => w'.cell? ⟨b, off + i * 8, none⟩ = some (.bool y.1.lo.num.g) ∧ w'.cell? ⟨b, off + i * 8 + 1, none⟩ = some (.slice y.1.lo.num.a y.1.lo.num.n y.1.lo.num.c) ∧ w'.cell? ⟨b, off + i * 8 + 2, none⟩ = some (.bool y.1.lo.den.g) ∧ w'.cell? ⟨b, off + i * 8 + 3, none⟩ = some (.slice y.1.lo.den.a y.1.lo.den.n y.1.lo.den.c) ∧ w'.cell? ⟨b, off + i * 8 + 4, none⟩ = some (.bool y.1.hi.num.g) ∧ w'.cell? ⟨b, off + i * 8 + 5, none⟩ = some (.slice y.1.hi.num.a y.1.hi.num.n y.1.hi.num.c) ∧ w'.cell? ⟨b, off + i * 8 + 6, none⟩ = some (.bool y.1.hi.den.g) ∧ w'.cell? ⟨b, off + i * 8 + 7, none⟩ = some (.slice y.1.hi.den.a y.1.hi.den.n y.1.hi.den.c) ∧ w'.cell? ⟨b', off' + i * 8, none⟩ = some (.bool y'.1.lo.num.g) ∧ w'.cell? ⟨b', off' + i * 8 + 1, none⟩ = some (.slice y'.1.lo.num.a y'.1.lo.num.n y'.1.lo.num.c) ∧ w'.cell? ⟨b', off' + i * 8 + 2, none⟩ = some (.bool y'.1.lo.den.g) ∧ w'.cell? ⟨b', off' + i * 8 + 3, none⟩ = some (.slice y'.1.lo.den.a y'.1.lo.den.n y'.1.lo.den.c) ∧ w'.cell? ⟨b', off' + i * 8 + 4, none⟩ = some (.bool y'.1.hi.num.g) ∧ w'.cell? ⟨b', off' + i * 8 + 5, none⟩ = some (.slice y'.1.hi.num.a y'.1.hi.num.n y'.1.hi.num.c) ∧ w'.cell? ⟨b', off' + i * 8 + 6, none⟩ = some (.bool y'.1.hi.den.g) ∧ w'.cell? ⟨b', off' + i * 8 + 7, none⟩ = some (.slice y'.1.hi.den.a y'.1.hi.den.n y'.1.hi.den.c))
        (with_reducible (first | exact ⟨E0, E1, E2, E3, E4, E5, E6, E7, F0, F1, F2, F3, F4, F5, F6, F7⟩ | exact ⟨cd_other E0, cd_other E1, cd_other E2, cd_other E3, cd_other E4, cd_other E5, cd_other E6, cd_other E7, cd_other F0, cd_other F1, cd_other F2, cd_other F3, cd_other F4, cd_other F5, cd_other F6, cd_other F7⟩ | fail))
        (first
        | (go_at_call 37; refine (eqS_at y.1 y'.1 y.2 _ ?_ ?_ j0.1 j0.2.1 j0.2.2.1 j0.2.2.2).mono ?_; exact (unhide R1).drew; (rw [unhide ED]; exact (unhide R2).drew); rintro e w1 ⟨rfl, hb1⟩; have HB1 := hide (below_on (unhide HB) (below_of_drew hb1)); have hbx := below_of_drew hb1; replace E0 := cell_later hbx E0; replace E1 := cell_later hbx E1; replace E2 := cell_later hbx E2; replace E3 := cell_later hbx E3; replace E4 := cell_later hbx E4; replace E5 := cell_later hbx E5; replace E6 := cell_later hbx E6; replace E7 := cell_later hbx E7; replace F0 := cell_later hbx F0; replace F1 := cell_later hbx F1; replace F2 := cell_later hbx F2; replace F3 := cell_later hbx F3; replace F4 := cell_later hbx F4; replace F5 := cell_later hbx F5; replace F6 := cell_later hbx F6; replace F7 := cell_later hbx F7; clear hb1 hbx))
      clear E0 F0 E1 F1 E2 F2 E3 F3 E4 F4 E5 F5 E6 F6 E7 F7
      go_wp2
      go_roundw
      case rel => exact ⟨i + 1, by omega, by go_num, HB1⟩
      case measure => simp [intOf]; omega
    · obtain rfl : i = n := by omega
      go_wp2
      go_ret
      exact ⟨rfl, unhide HB⟩

theorem but_rowS {w : World} {G k : Nat} {u : SV} : But G (G + 1) w ((((((((w.setCell ⟨G, k * 8, none⟩ (.bool u.lo.num.g)).setCell ⟨G, k * 8 + 1, none⟩ (.slice u.lo.num.a u.lo.num.n u.lo.num.c)).setCell ⟨G, k * 8 + 2, none⟩ (.bool u.lo.den.g)).setCell ⟨G, k * 8 + 3, none⟩ (.slice u.lo.den.a u.lo.den.n u.lo.den.c)).setCell ⟨G, k * 8 + 4, none⟩ (.bool u.hi.num.g)).setCell ⟨G, k * 8 + 5, none⟩ (.slice u.hi.num.a u.hi.num.n u.hi.num.c)).setCell ⟨G, k * 8 + 6, none⟩ (.bool u.hi.den.g)).setCell ⟨G, k * 8 + 7, none⟩ (.slice u.hi.den.a u.hi.den.n u.hi.den.c)) := (((((((((But.refl _ _ _).set (p := ⟨G, k * 8, none⟩) (Nat.le_refl G) (Nat.lt_succ_self G) (.bool u.lo.num.g)).set (p := ⟨G, k * 8 + 1, none⟩) (Nat.le_refl G) (Nat.lt_succ_self G) (.slice u.lo.num.a u.lo.num.n u.lo.num.c)).set (p := ⟨G, k * 8 + 2, none⟩) (Nat.le_refl G) (Nat.lt_succ_self G) (.bool u.lo.den.g)).set (p := ⟨G, k * 8 + 3, none⟩) (Nat.le_refl G) (Nat.lt_succ_self G) (.slice u.lo.den.a u.lo.den.n u.lo.den.c)).set (p := ⟨G, k * 8 + 4, none⟩) (Nat.le_refl G) (Nat.lt_succ_self G) (.bool u.hi.num.g)).set (p := ⟨G, k * 8 + 5, none⟩) (Nat.le_refl G) (Nat.lt_succ_self G) (.slice u.hi.num.a u.hi.num.n u.hi.num.c)).set (p := ⟨G, k * 8 + 6, none⟩) (Nat.le_refl G) (Nat.lt_succ_self G) (.bool u.hi.den.g)).set (p := ⟨G, k * 8 + 7, none⟩) (Nat.le_refl G) (Nat.lt_succ_self G) (.slice u.hi.den.a u.hi.den.n u.hi.den.c))

/-- Some values in a row that is the law's own, at block G; their numbers in blocks from lo to below hi. -/
structure POwS (lo hi : Nat) (w : World) (G n c : Nat) (l : List (SV × SD)) : Prop where
  row : ∃ M, w.ownsRow G 52 8 (.slice (some ⟨G, 0, none⟩) n c) n M ∧ ∀ i (h : i < l.length), M[i * 8]? = some (.bool l[i].1.lo.num.g) ∧ M[i * 8 + 1]? = some (.slice l[i].1.lo.num.a l[i].1.lo.num.n l[i].1.lo.num.c) ∧ M[i * 8 + 2]? = some (.bool l[i].1.lo.den.g) ∧ M[i * 8 + 3]? = some (.slice l[i].1.lo.den.a l[i].1.lo.den.n l[i].1.lo.den.c) ∧ M[i * 8 + 4]? = some (.bool l[i].1.hi.num.g) ∧ M[i * 8 + 5]? = some (.slice l[i].1.hi.num.a l[i].1.hi.num.n l[i].1.hi.num.c) ∧ M[i * 8 + 6]? = some (.bool l[i].1.hi.den.g) ∧ M[i * 8 + 7]? = some (.slice l[i].1.hi.den.a l[i].1.hi.den.n l[i].1.hi.den.c)
  own : AllOwn lo hi w (zipPS l)
  ar : ∀ p ∈ l, AllAr w [(p.1.lo.num, p.2.lo.num), (p.1.lo.den, p.2.lo.den), (p.1.hi.num, p.2.hi.num), (p.1.hi.den, p.2.hi.den)]
  len : l.length = n
theorem ownsRow_laterS {w w' : World} {G g n c size : Nat} {e : TypeId} {M : List Value} (h : w.ownsRow G e size (.slice (some ⟨g, 0, none⟩) n c) n M) (hb : Below w.heap.size w w') : w'.ownsRow G e size (.slice (some ⟨g, 0, none⟩) n c) n M := by
  refine ⟨h.1, ?_⟩
  rcases h.2 with ⟨h', _⟩ | ⟨g', cap, cur, hv, h1, hg, r⟩
  · simp at h'
  · refine .inr ⟨g', cap, cur, hv, h1, ?_, r⟩
    rw [hb.block g' (Array.getElem?_eq_some_iff.1 hg).1]
    exact hg
theorem POwS.later {lo hi : Nat} {w w' : World} {G n c : Nat} {l : List (SV × SD)} (h : POwS lo hi w G n c l) (hb : Below w.heap.size w w') : POwS lo hi w' G n c l := by
  obtain ⟨M, hr, hM⟩ := h.row
  exact ⟨⟨M, ownsRow_laterS hr hb, hM⟩, h.own.later hb, fun p hp => (h.ar p hp).later hb, h.len⟩
theorem POwS.arg {lo hi : Nat} {w : World} {G n c : Nat} {l : List (SV × SD)} (h : POwS lo hi w G n c l) : PArS w (some ⟨G, 0, none⟩) n c l := by
  obtain ⟨M, hr, hM⟩ := h.row
  have hl := h.len
  have h2 := hr.2
  rcases h2 with ⟨h', _⟩ | ⟨g', cap, cur, hv, h1, hg, r1, r2, r3⟩
  · simp at h'
  simp only [Value.slice.injEq, Option.some.injEq, Addr.mk.injEq, and_true, true_and] at hv
  obtain ⟨rfl, rfl⟩ := hv
  refine ⟨.inr ⟨G, 0, rfl, (Array.getElem?_eq_some_iff.1 hg).1, fun i hi => ?_⟩, h.ar, hl, r1, r2⟩
  have hc := hM i hi
  refine ⟨?_, ?_, ?_, ?_, ?_, ?_, ?_, ?_⟩ <;> rw [Nat.zero_add, hr.cellAt _ (by omega)]
  · exact hc.1
  · exact hc.2.1
  · exact hc.2.2.1
  · exact hc.2.2.2.1
  · exact hc.2.2.2.2.1
  · exact hc.2.2.2.2.2.1
  · exact hc.2.2.2.2.2.2.1
  · exact hc.2.2.2.2.2.2.2
theorem Try.info52 : (Try.prog.info? 52).map (fun i => (i.zero, i.size, i.bytes)) = some (some (.agg #[.bool false, .slice none 0 0, .bool false, .slice none 0 0, .bool false, .slice none 0 0, .bool false, .slice none 0 0]), 8, 128) := by kernel_rfl
theorem set_rowS {M : List Value} {us : List (SV × SD)} {n k : Nat} {u : SV} {d : SD} (hM : M.length = n * 8) (hk : k < n) (hu : us.length = k) (h : ∀ i (h : i < us.length), M[i * 8]? = some (.bool us[i].1.lo.num.g) ∧ M[i * 8 + 1]? = some (.slice us[i].1.lo.num.a us[i].1.lo.num.n us[i].1.lo.num.c) ∧ M[i * 8 + 2]? = some (.bool us[i].1.lo.den.g) ∧ M[i * 8 + 3]? = some (.slice us[i].1.lo.den.a us[i].1.lo.den.n us[i].1.lo.den.c) ∧ M[i * 8 + 4]? = some (.bool us[i].1.hi.num.g) ∧ M[i * 8 + 5]? = some (.slice us[i].1.hi.num.a us[i].1.hi.num.n us[i].1.hi.num.c) ∧ M[i * 8 + 6]? = some (.bool us[i].1.hi.den.g) ∧ M[i * 8 + 7]? = some (.slice us[i].1.hi.den.a us[i].1.hi.den.n us[i].1.hi.den.c)) :
    ∀ i (h : i < (us ++ [(u, d)]).length), ((((((((M.set (k * 8) (.bool u.lo.num.g)).set (k * 8 + 1) (.slice u.lo.num.a u.lo.num.n u.lo.num.c)).set (k * 8 + 2) (.bool u.lo.den.g)).set (k * 8 + 3) (.slice u.lo.den.a u.lo.den.n u.lo.den.c)).set (k * 8 + 4) (.bool u.hi.num.g)).set (k * 8 + 5) (.slice u.hi.num.a u.hi.num.n u.hi.num.c)).set (k * 8 + 6) (.bool u.hi.den.g)).set (k * 8 + 7) (.slice u.hi.den.a u.hi.den.n u.hi.den.c))[i * 8]? = some (.bool (us ++ [(u, d)])[i].1.lo.num.g) ∧ ((((((((M.set (k * 8) (.bool u.lo.num.g)).set (k * 8 + 1) (.slice u.lo.num.a u.lo.num.n u.lo.num.c)).set (k * 8 + 2) (.bool u.lo.den.g)).set (k * 8 + 3) (.slice u.lo.den.a u.lo.den.n u.lo.den.c)).set (k * 8 + 4) (.bool u.hi.num.g)).set (k * 8 + 5) (.slice u.hi.num.a u.hi.num.n u.hi.num.c)).set (k * 8 + 6) (.bool u.hi.den.g)).set (k * 8 + 7) (.slice u.hi.den.a u.hi.den.n u.hi.den.c))[i * 8 + 1]? = some (.slice (us ++ [(u, d)])[i].1.lo.num.a (us ++ [(u, d)])[i].1.lo.num.n (us ++ [(u, d)])[i].1.lo.num.c) ∧ ((((((((M.set (k * 8) (.bool u.lo.num.g)).set (k * 8 + 1) (.slice u.lo.num.a u.lo.num.n u.lo.num.c)).set (k * 8 + 2) (.bool u.lo.den.g)).set (k * 8 + 3) (.slice u.lo.den.a u.lo.den.n u.lo.den.c)).set (k * 8 + 4) (.bool u.hi.num.g)).set (k * 8 + 5) (.slice u.hi.num.a u.hi.num.n u.hi.num.c)).set (k * 8 + 6) (.bool u.hi.den.g)).set (k * 8 + 7) (.slice u.hi.den.a u.hi.den.n u.hi.den.c))[i * 8 + 2]? = some (.bool (us ++ [(u, d)])[i].1.lo.den.g) ∧ ((((((((M.set (k * 8) (.bool u.lo.num.g)).set (k * 8 + 1) (.slice u.lo.num.a u.lo.num.n u.lo.num.c)).set (k * 8 + 2) (.bool u.lo.den.g)).set (k * 8 + 3) (.slice u.lo.den.a u.lo.den.n u.lo.den.c)).set (k * 8 + 4) (.bool u.hi.num.g)).set (k * 8 + 5) (.slice u.hi.num.a u.hi.num.n u.hi.num.c)).set (k * 8 + 6) (.bool u.hi.den.g)).set (k * 8 + 7) (.slice u.hi.den.a u.hi.den.n u.hi.den.c))[i * 8 + 3]? = some (.slice (us ++ [(u, d)])[i].1.lo.den.a (us ++ [(u, d)])[i].1.lo.den.n (us ++ [(u, d)])[i].1.lo.den.c) ∧ ((((((((M.set (k * 8) (.bool u.lo.num.g)).set (k * 8 + 1) (.slice u.lo.num.a u.lo.num.n u.lo.num.c)).set (k * 8 + 2) (.bool u.lo.den.g)).set (k * 8 + 3) (.slice u.lo.den.a u.lo.den.n u.lo.den.c)).set (k * 8 + 4) (.bool u.hi.num.g)).set (k * 8 + 5) (.slice u.hi.num.a u.hi.num.n u.hi.num.c)).set (k * 8 + 6) (.bool u.hi.den.g)).set (k * 8 + 7) (.slice u.hi.den.a u.hi.den.n u.hi.den.c))[i * 8 + 4]? = some (.bool (us ++ [(u, d)])[i].1.hi.num.g) ∧ ((((((((M.set (k * 8) (.bool u.lo.num.g)).set (k * 8 + 1) (.slice u.lo.num.a u.lo.num.n u.lo.num.c)).set (k * 8 + 2) (.bool u.lo.den.g)).set (k * 8 + 3) (.slice u.lo.den.a u.lo.den.n u.lo.den.c)).set (k * 8 + 4) (.bool u.hi.num.g)).set (k * 8 + 5) (.slice u.hi.num.a u.hi.num.n u.hi.num.c)).set (k * 8 + 6) (.bool u.hi.den.g)).set (k * 8 + 7) (.slice u.hi.den.a u.hi.den.n u.hi.den.c))[i * 8 + 5]? = some (.slice (us ++ [(u, d)])[i].1.hi.num.a (us ++ [(u, d)])[i].1.hi.num.n (us ++ [(u, d)])[i].1.hi.num.c) ∧ ((((((((M.set (k * 8) (.bool u.lo.num.g)).set (k * 8 + 1) (.slice u.lo.num.a u.lo.num.n u.lo.num.c)).set (k * 8 + 2) (.bool u.lo.den.g)).set (k * 8 + 3) (.slice u.lo.den.a u.lo.den.n u.lo.den.c)).set (k * 8 + 4) (.bool u.hi.num.g)).set (k * 8 + 5) (.slice u.hi.num.a u.hi.num.n u.hi.num.c)).set (k * 8 + 6) (.bool u.hi.den.g)).set (k * 8 + 7) (.slice u.hi.den.a u.hi.den.n u.hi.den.c))[i * 8 + 6]? = some (.bool (us ++ [(u, d)])[i].1.hi.den.g) ∧ ((((((((M.set (k * 8) (.bool u.lo.num.g)).set (k * 8 + 1) (.slice u.lo.num.a u.lo.num.n u.lo.num.c)).set (k * 8 + 2) (.bool u.lo.den.g)).set (k * 8 + 3) (.slice u.lo.den.a u.lo.den.n u.lo.den.c)).set (k * 8 + 4) (.bool u.hi.num.g)).set (k * 8 + 5) (.slice u.hi.num.a u.hi.num.n u.hi.num.c)).set (k * 8 + 6) (.bool u.hi.den.g)).set (k * 8 + 7) (.slice u.hi.den.a u.hi.den.n u.hi.den.c))[i * 8 + 7]? = some (.slice (us ++ [(u, d)])[i].1.hi.den.a (us ++ [(u, d)])[i].1.hi.den.n (us ++ [(u, d)])[i].1.hi.den.c) := by
  intro i hi
  by_cases e : i < k
  · have hi' : i < us.length := by omega
    have h1 := h i hi'
    rw [List.getElem_append_left hi']
    simp only [List.getElem?_set]
    refine ⟨?_, ?_, ?_, ?_, ?_, ?_, ?_, ?_⟩
    · rw [if_neg (by omega), if_neg (by omega), if_neg (by omega), if_neg (by omega), if_neg (by omega), if_neg (by omega), if_neg (by omega), if_neg (by omega)]; exact h1.1
    · rw [if_neg (by omega), if_neg (by omega), if_neg (by omega), if_neg (by omega), if_neg (by omega), if_neg (by omega), if_neg (by omega), if_neg (by omega)]; exact h1.2.1
    · rw [if_neg (by omega), if_neg (by omega), if_neg (by omega), if_neg (by omega), if_neg (by omega), if_neg (by omega), if_neg (by omega), if_neg (by omega)]; exact h1.2.2.1
    · rw [if_neg (by omega), if_neg (by omega), if_neg (by omega), if_neg (by omega), if_neg (by omega), if_neg (by omega), if_neg (by omega), if_neg (by omega)]; exact h1.2.2.2.1
    · rw [if_neg (by omega), if_neg (by omega), if_neg (by omega), if_neg (by omega), if_neg (by omega), if_neg (by omega), if_neg (by omega), if_neg (by omega)]; exact h1.2.2.2.2.1
    · rw [if_neg (by omega), if_neg (by omega), if_neg (by omega), if_neg (by omega), if_neg (by omega), if_neg (by omega), if_neg (by omega), if_neg (by omega)]; exact h1.2.2.2.2.2.1
    · rw [if_neg (by omega), if_neg (by omega), if_neg (by omega), if_neg (by omega), if_neg (by omega), if_neg (by omega), if_neg (by omega), if_neg (by omega)]; exact h1.2.2.2.2.2.2.1
    · rw [if_neg (by omega), if_neg (by omega), if_neg (by omega), if_neg (by omega), if_neg (by omega), if_neg (by omega), if_neg (by omega), if_neg (by omega)]; exact h1.2.2.2.2.2.2.2
  · obtain rfl : i = k := by simp at hi; omega
    subst hu
    rw [List.getElem_append_right (Nat.le_refl _)]
    simp only [Nat.sub_self, List.getElem_cons_zero]
    refine ⟨?_, ?_, ?_, ?_, ?_, ?_, ?_, ?_⟩
    · simp only [List.getElem?_set, List.length_set]; rw [if_neg (by omega), if_neg (by omega), if_neg (by omega), if_neg (by omega), if_neg (by omega), if_neg (by omega), if_neg (by omega)]; rw [if_pos trivial, if_pos (by omega)]
    · simp only [List.getElem?_set, List.length_set]; rw [if_neg (by omega), if_neg (by omega), if_neg (by omega), if_neg (by omega), if_neg (by omega), if_neg (by omega)]; rw [if_pos trivial, if_pos (by omega)]
    · simp only [List.getElem?_set, List.length_set]; rw [if_neg (by omega), if_neg (by omega), if_neg (by omega), if_neg (by omega), if_neg (by omega)]; rw [if_pos trivial, if_pos (by omega)]
    · simp only [List.getElem?_set, List.length_set]; rw [if_neg (by omega), if_neg (by omega), if_neg (by omega), if_neg (by omega)]; rw [if_pos trivial, if_pos (by omega)]
    · simp only [List.getElem?_set, List.length_set]; rw [if_neg (by omega), if_neg (by omega), if_neg (by omega)]; rw [if_pos trivial, if_pos (by omega)]
    · simp only [List.getElem?_set, List.length_set]; rw [if_neg (by omega), if_neg (by omega)]; rw [if_pos trivial, if_pos (by omega)]
    · simp only [List.getElem?_set, List.length_set]; rw [if_neg (by omega)]; rw [if_pos trivial, if_pos (by omega)]
    · simp only [List.getElem?_set, List.length_set]; rw [if_pos trivial, if_pos (by omega)]

set_option maxHeartbeats 4000000 in
theorem toPS (a : Option Addr) (n c : Nat) (l : List (SV × SD)) (w : World) (h : PSlS w a l) (hn : l.length = n) (h1 : n ≤ 1048576) (ml : ∀ p ∈ l, p.1.lo.num.n ≤ 1048576 ∧ p.1.lo.den.n ≤ 1048576 ∧ p.1.hi.num.n ≤ 1048576 ∧ p.1.hi.den.n ≤ 1048576) :
    Calls Try.prog 11 #[.slice a n c] w fun e w' => ∃ l' : List (SV × SD), e = .returned (.slice (some ⟨w.heap.size, 0, none⟩) n n) ∧ Below w.heap.size w w' ∧ w.heap.size < w'.heap.size ∧ l'.map Prod.snd = l.map Prod.snd ∧ POwS (w.heap.size + 1) w'.heap.size w' w.heap.size n n l' := by
  obtain ⟨i0, hi, hz0, hz1, hz2⟩ := info_parts Try.info52
  have HS := hide h
  have HN := hide hn
  have ML := hide ml
  clear h hn ml
  go_enter Try.func11, Try.ntmps11
  go_wp2_with (at_make; refine wpList_make_full _ rfl _ _ 25 rfl w.heap.size 52 i0 (.agg #[.bool false, .slice none 0 0, .bool false, .slice none 0 0, .bool false, .slice none 0 0, .bool false, .slice none 0 0]) 8 Try.underlying25 hi hz0 hz1 .i64 .i64 _ _ n rfl rfl rfl rfl ?c1 ?c2 ?c3 ?_)
  case c1 => rw [hz2]; omega
  case c2 => unfold maxLen; omega
  case c3 => exact Nat.le_refl _
  intro w1 hown hgrow
  have hb0 : Below w.heap.size w w1 := (Below.refl _ _).grown hgrow (Nat.le_refl _) (fun k e => by cases e)
  have P0 : Hid (∃ M, w1.ownsRow w.heap.size 52 8 (.slice (some ⟨w.heap.size, 0, none⟩) n n) n M) := hide ⟨_, hown⟩
  have z0 : w.heap.size < w1.heap.size := by
    rcases hown.2 with ⟨h', _⟩ | ⟨g', cap, cur, hv, _, hg, _⟩
    · simp at h'
    · simp only [Value.slice.injEq, Option.some.injEq, Addr.mk.injEq, and_true, true_and] at hv
      have := (Array.getElem?_eq_some_iff.1 hg).1
      omega
  clear hown hgrow hi hz0 hz1 hz2
  have HB0 := hide hb0
  clear hb0
  go_wp2
  go_loopw [4] (fun iv wr => ∃ (k : Nat) (us : List (SV × SD)), k ≤ n ∧ iv = .int .i64 k ∧ us.length = k ∧ w.heap.size < wr.heap.size ∧ Hid (us.map Prod.snd = (l.take k).map Prod.snd) ∧ Hid (∃ M, wr.ownsRow w.heap.size 52 8 (.slice (some ⟨w.heap.size, 0, none⟩) n n) n M ∧ ∀ i (h : i < us.length), M[i * 8]? = some (.bool us[i].1.lo.num.g) ∧ M[i * 8 + 1]? = some (.slice us[i].1.lo.num.a us[i].1.lo.num.n us[i].1.lo.num.c) ∧ M[i * 8 + 2]? = some (.bool us[i].1.lo.den.g) ∧ M[i * 8 + 3]? = some (.slice us[i].1.lo.den.a us[i].1.lo.den.n us[i].1.lo.den.c) ∧ M[i * 8 + 4]? = some (.bool us[i].1.hi.num.g) ∧ M[i * 8 + 5]? = some (.slice us[i].1.hi.num.a us[i].1.hi.num.n us[i].1.hi.num.c) ∧ M[i * 8 + 6]? = some (.bool us[i].1.hi.den.g) ∧ M[i * 8 + 7]? = some (.slice us[i].1.hi.den.a us[i].1.hi.den.n us[i].1.hi.den.c)) ∧ Hid (AllOwn (w.heap.size + 1) wr.heap.size wr (zipPS us)) ∧ Hid (∀ p ∈ us, AllAr wr [(p.1.lo.num, p.2.lo.num), (p.1.lo.den, p.2.lo.den), (p.1.hi.num, p.2.hi.num), (p.1.hi.den, p.2.hi.den)]) ∧ Hid (Below w.heap.size w wr)) (fun iv _ => n - (intOf iv).toNat)
  case atStart =>
    obtain ⟨M, hM⟩ := unhide P0
    exact ⟨0, [], Nat.zero_le _, rfl, rfl, z0, hide (by simp), hide ⟨M, hM, fun i hi => absurd hi (by simp)⟩, hide (AllOwn.nil _ _ _), hide (fun p hp => by cases hp), HB0⟩
  case round =>
    clear P0 HB0 z0
    obtain ⟨k, us, hk, rfl, hu, z1, ED, EM, OO, AA, HB⟩ := hrel
    by_cases hlt : k < n
    · have hlt' : (k : Int) < (n : Int) := by omega
      rcases (unhide HS).at_ with e | ⟨b, off, rfl, hb, hc⟩
      · exact absurd (unhide HN) (by rw [e]; simp; omega)
      have e0 := hc k (by rw [unhide HN]; exact hlt)
      obtain ⟨y, hy⟩ : ∃ y, y = l[k]'(by rw [unhide HN]; exact hlt) := ⟨_, rfl⟩
      rw [← hy] at e0
      have MY : Hid (y ∈ l) := hide (by rw [hy]; exact List.getElem_mem _)
      have EY := hide hy
      clear hy
      have E0 : wr.cell? ⟨b, off + k * 8, none⟩ = some (.bool y.1.lo.num.g) := ((unhide HB).cell (p := ⟨b, off + k * 8, none⟩) hb).trans (e0.1)
      have E1 : wr.cell? ⟨b, off + k * 8 + 1, none⟩ = some (.slice y.1.lo.num.a y.1.lo.num.n y.1.lo.num.c) := ((unhide HB).cell (p := ⟨b, off + k * 8 + 1, none⟩) hb).trans (e0.2.1)
      have E2 : wr.cell? ⟨b, off + k * 8 + 2, none⟩ = some (.bool y.1.lo.den.g) := ((unhide HB).cell (p := ⟨b, off + k * 8 + 2, none⟩) hb).trans (e0.2.2.1)
      have E3 : wr.cell? ⟨b, off + k * 8 + 3, none⟩ = some (.slice y.1.lo.den.a y.1.lo.den.n y.1.lo.den.c) := ((unhide HB).cell (p := ⟨b, off + k * 8 + 3, none⟩) hb).trans (e0.2.2.2.1)
      have E4 : wr.cell? ⟨b, off + k * 8 + 4, none⟩ = some (.bool y.1.hi.num.g) := ((unhide HB).cell (p := ⟨b, off + k * 8 + 4, none⟩) hb).trans (e0.2.2.2.2.1)
      have E5 : wr.cell? ⟨b, off + k * 8 + 5, none⟩ = some (.slice y.1.hi.num.a y.1.hi.num.n y.1.hi.num.c) := ((unhide HB).cell (p := ⟨b, off + k * 8 + 5, none⟩) hb).trans (e0.2.2.2.2.2.1)
      have E6 : wr.cell? ⟨b, off + k * 8 + 6, none⟩ = some (.bool y.1.hi.den.g) := ((unhide HB).cell (p := ⟨b, off + k * 8 + 6, none⟩) hb).trans (e0.2.2.2.2.2.2.1)
      have E7 : wr.cell? ⟨b, off + k * 8 + 7, none⟩ = some (.slice y.1.hi.den.a y.1.hi.den.n y.1.hi.den.c) := ((unhide HB).cell (p := ⟨b, off + k * 8 + 7, none⟩) hb).trans (e0.2.2.2.2.2.2.2)
      clear e0
      have TK : Hid ((l.take (k + 1)).map Prod.snd = us.map Prod.snd ++ [y.2]) := hide (by have h := take_succS (l := l) (i := k) (by rw [unhide HN]; exact hlt); rw [← unhide EY] at h; rw [h, List.map_append, ← unhide ED]; rfl)
      have j0 := (unhide ML) y (unhide MY)
      have R1 := hide (((unhide HS).rd y (unhide MY)).later (unhide HB))
      clear hc
      go_wp2_with fail
      refine (toS_at y.1 y.2 _ (unhide R1) j0.1 j0.2.1 j0.2.2.1 j0.2.2.2).mono ?_
      rintro e w2 ⟨u, rfl, hb2, hlens, ho, ha⟩
      clear hlens
      have z2 := hb2.size
      have HB1 := hide (below_on (unhide HB) hb2)
      obtain ⟨M, hM, hL⟩ := unhide EM
      replace hM := ownsRow_laterS hM hb2
      have OO2 := hide ((unhide OO).later hb2)
      have AA2 := hide (fun p hp => ((unhide AA) p hp).later hb2)
      have AU := hide ho
      have AV := hide ha
      have old0 : ∃ x, w2.cell? ⟨w.heap.size, k * 8, none⟩ = some x := by
        have hl := hM.1
        rw [hM.cellAt _ (by omega)]
        exact ⟨_, List.getElem?_eq_getElem (by omega)⟩
      obtain ⟨x0, o0⟩ := old0
      have old1 : ∃ x, w2.cell? ⟨w.heap.size, k * 8 + 1, none⟩ = some x := by
        have hl := hM.1
        rw [hM.cellAt _ (by omega)]
        exact ⟨_, List.getElem?_eq_getElem (by omega)⟩
      obtain ⟨x1, o1⟩ := old1
      have old2 : ∃ x, w2.cell? ⟨w.heap.size, k * 8 + 2, none⟩ = some x := by
        have hl := hM.1
        rw [hM.cellAt _ (by omega)]
        exact ⟨_, List.getElem?_eq_getElem (by omega)⟩
      obtain ⟨x2, o2⟩ := old2
      have old3 : ∃ x, w2.cell? ⟨w.heap.size, k * 8 + 3, none⟩ = some x := by
        have hl := hM.1
        rw [hM.cellAt _ (by omega)]
        exact ⟨_, List.getElem?_eq_getElem (by omega)⟩
      obtain ⟨x3, o3⟩ := old3
      have old4 : ∃ x, w2.cell? ⟨w.heap.size, k * 8 + 4, none⟩ = some x := by
        have hl := hM.1
        rw [hM.cellAt _ (by omega)]
        exact ⟨_, List.getElem?_eq_getElem (by omega)⟩
      obtain ⟨x4, o4⟩ := old4
      have old5 : ∃ x, w2.cell? ⟨w.heap.size, k * 8 + 5, none⟩ = some x := by
        have hl := hM.1
        rw [hM.cellAt _ (by omega)]
        exact ⟨_, List.getElem?_eq_getElem (by omega)⟩
      obtain ⟨x5, o5⟩ := old5
      have old6 : ∃ x, w2.cell? ⟨w.heap.size, k * 8 + 6, none⟩ = some x := by
        have hl := hM.1
        rw [hM.cellAt _ (by omega)]
        exact ⟨_, List.getElem?_eq_getElem (by omega)⟩
      obtain ⟨x6, o6⟩ := old6
      have old7 : ∃ x, w2.cell? ⟨w.heap.size, k * 8 + 7, none⟩ = some x := by
        have hl := hM.1
        rw [hM.cellAt _ (by omega)]
        exact ⟨_, List.getElem?_eq_getElem (by omega)⟩
      obtain ⟨x7, o7⟩ := old7
      have fr : ∀ o, w2.frozen? ⟨w.heap.size, o, none⟩ = false := fun o => hM.frozenAt o
      have HM := hide hM
      have HL := hide hL
      clear hM hL hb2 ho ha EM OO AA E0 E1 E2 E3 E4 E5 E6 E7
      go_wp2
      go_roundw
      case rel =>
        have hM := unhide HM
        have bt : But w.heap.size (w.heap.size + 1) w2 ((((((((w2.setCell ⟨w.heap.size, k * 8, none⟩ (.bool u.lo.num.g)).setCell ⟨w.heap.size, k * 8 + 1, none⟩ (.slice u.lo.num.a u.lo.num.n u.lo.num.c)).setCell ⟨w.heap.size, k * 8 + 2, none⟩ (.bool u.lo.den.g)).setCell ⟨w.heap.size, k * 8 + 3, none⟩ (.slice u.lo.den.a u.lo.den.n u.lo.den.c)).setCell ⟨w.heap.size, k * 8 + 4, none⟩ (.bool u.hi.num.g)).setCell ⟨w.heap.size, k * 8 + 5, none⟩ (.slice u.hi.num.a u.hi.num.n u.hi.num.c)).setCell ⟨w.heap.size, k * 8 + 6, none⟩ (.bool u.hi.den.g)).setCell ⟨w.heap.size, k * 8 + 7, none⟩ (.slice u.hi.den.a u.hi.den.n u.hi.den.c)) := but_rowS
        refine ⟨k + 1, us ++ [(u, y.2)], by omega, by go_num, by simp [hu], Nat.lt_of_lt_of_le (by omega) bt.size, hide (by rw [unhide TK, List.map_append]; rfl), hide ⟨_, (World.ownsRow.stored (World.ownsRow.stored (World.ownsRow.stored (World.ownsRow.stored (World.ownsRow.stored (World.ownsRow.stored (World.ownsRow.stored (World.ownsRow.stored hM (k * 8) (.bool u.lo.num.g)).1 (k * 8 + 1) (.slice u.lo.num.a u.lo.num.n u.lo.num.c)).1 (k * 8 + 2) (.bool u.lo.den.g)).1 (k * 8 + 3) (.slice u.lo.den.a u.lo.den.n u.lo.den.c)).1 (k * 8 + 4) (.bool u.hi.num.g)).1 (k * 8 + 5) (.slice u.hi.num.a u.hi.num.n u.hi.num.c)).1 (k * 8 + 6) (.bool u.hi.den.g)).1 (k * 8 + 7) (.slice u.hi.den.a u.hi.den.n u.hi.den.c)).1, set_rowS hM.1 hlt hu (unhide HL)⟩, hide ?_, hide ?_, hide ?_⟩
        · rw [zipPS_append, zipPS_one]
          exact (((unhide OO2).join (unhide AU) (by omega) (by omega)).but bt (.inr (Nat.le_refl _))).wide (Nat.le_refl _) bt.size
        · intro p hp x hx
          have own := (((unhide OO2).join (unhide AU) (by omega) (by omega)))
          have hAr : AllAr w2 (zipPS us ++ [(u.lo.num, y.2.lo.num), (u.lo.den, y.2.lo.den), (u.hi.num, y.2.hi.num), (u.hi.den, y.2.hi.den)]) := fun x hx => by
            rcases List.mem_append.1 hx with hx | hx
            · obtain ⟨p, hp, hx⟩ := List.mem_flatMap.1 hx
              exact (unhide AA2) p hp x hx
            · exact (unhide AV) x hx
          refine ar_fin bt own hAr (Nat.le_refl _) x ?_
          rcases List.mem_append.1 hp with hp | hp
          · exact List.mem_append_left _ (zipPS_mem hp hx)
          · obtain rfl := List.mem_singleton.1 hp
            exact List.mem_append_right _ hx
        · exact bt.below (unhide HB1) (Nat.le_refl _) (by have := (unhide HB1).size; omega)
      case measure => simp [intOf]; omega
    · obtain rfl : k = n := by omega
      have EL := hide (show us.map Prod.snd = l.map Prod.snd from by have := unhide ED; rw [← unhide HN, List.take_length] at this; exact this)
      go_wp2
      go_ret
      exact ⟨us, rfl, unhide HB, z1, unhide EL, ⟨unhide EM, unhide OO, unhide AA, hu⟩⟩
end Go.Proofs.Ytikllcoekcglcaa
