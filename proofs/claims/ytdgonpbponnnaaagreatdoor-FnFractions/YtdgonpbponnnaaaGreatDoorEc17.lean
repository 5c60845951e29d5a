/- The contracts that FnFractions calls, in a walk's words. No condition beyond those typed. Written by mkec17.py. -/
import Derived.Test.YtdgonpbponnnaaaGreatDoorDq17
import Derived.Test.YtdgonpbponnnaaaGreatDoorFr17
import Derived.Test.YtdgonpbponnnaaaGreatDoorSameB
import Derived.Test.YtdgonpbponnnaaaGreatDoorRx16
namespace Go.Proofs.YtdgonpbponnnaaaGreatDoor
open Go.RowKit
set_option linter.unusedVariables false
set_option maxRecDepth 100000
set_option linter.unusedSimpArgs false
namespace Aq

theorem RetQ.ar {w : World} {U : QD → Bool → Prop} (e : Ending) (w' : World) (h : RetQ w U e w') : ∃ (v : QV) (d : QD) (ok : Bool), e = .returned (.tuple #[.agg #[.bool v.num.g, .slice v.num.a v.num.n v.num.c, .bool v.den.g, .slice v.den.a v.den.n v.den.c], .bool ok]) ∧ Below w.heap.size w w' ∧ AllAr w' [(v.num, d.num), (v.den, d.den)] ∧ U d ok := by
  obtain ⟨v, d, ok, he, hb, ho, hu⟩ := h
  exact ⟨v, d, ok, he, hb, ho.ar, hu⟩
theorem addQ_I (q q' : QV) (d d' : QD) (w : World) (h : AllAr w [(q.num, d.num), (q.den, d.den)]) (h' : AllAr w [(q'.num, d'.num), (q'.den, d'.den)]) :
    Calls Tryz.prog 5 #[.agg #[.bool q.num.g, .slice q.num.a q.num.n q.num.c, .bool q.den.g, .slice q.den.a q.den.n q.den.c], .agg #[.bool q'.num.g, .slice q'.num.a q'.num.n q'.num.c, .bool q'.den.g, .slice q'.den.a q'.den.n q'.den.c]] w fun e w' => ∃ (v : QV) (dv : QD) (ok : Bool), e = .returned (.tuple #[.agg #[.bool v.num.g, .slice v.num.a v.num.n v.num.c, .bool v.den.g, .slice v.den.a v.den.n v.den.c], .bool ok]) ∧ Below w.heap.size w w' ∧ AllAr w' [(v.num, dv.num), (v.den, dv.den)] ∧ AnsQ (gQ d && gQ d') (lowN (nQ d * dQ d' + nQ d' * dQ d) (dQ d * dQ d')) (lowD (nQ d * dQ d' + nQ d' * dQ d) (dQ d * dQ d')) dv ok :=
  (AddRI q q' d d' w h h').mono RetQ.ar
theorem addQ_S (q q' : QV) (d d' : QD) (w : World) (h : AllAr w [(q.num, d.num), (q.den, d.den)]) (h' : AllAr w [(q'.num, d'.num), (q'.den, d'.den)]) :
    Calls Tryz.prog 6 #[.agg #[.bool q.num.g, .slice q.num.a q.num.n q.num.c, .bool q.den.g, .slice q.den.a q.den.n q.den.c], .agg #[.bool q'.num.g, .slice q'.num.a q'.num.n q'.num.c, .bool q'.den.g, .slice q'.den.a q'.den.n q'.den.c]] w fun e w' => ∃ (v : QV) (dv : QD) (ok : Bool), e = .returned (.tuple #[.agg #[.bool v.num.g, .slice v.num.a v.num.n v.num.c, .bool v.den.g, .slice v.den.a v.den.n v.den.c], .bool ok]) ∧ Below w.heap.size w w' ∧ AllAr w' [(v.num, dv.num), (v.den, dv.den)] ∧ AnsQ (gQ d && gQ d') (lowN (nQ d * dQ d' + nQ d' * dQ d) (dQ d * dQ d')) (lowD (nQ d * dQ d' + nQ d' * dQ d) (dQ d * dQ d')) dv ok :=
  (AddRS q q' d d' w h h').mono RetQ.ar
theorem subQ_I (q q' : QV) (d d' : QD) (w : World) (h : AllAr w [(q.num, d.num), (q.den, d.den)]) (h' : AllAr w [(q'.num, d'.num), (q'.den, d'.den)]) :
    Calls Tryz.prog 7 #[.agg #[.bool q.num.g, .slice q.num.a q.num.n q.num.c, .bool q.den.g, .slice q.den.a q.den.n q.den.c], .agg #[.bool q'.num.g, .slice q'.num.a q'.num.n q'.num.c, .bool q'.den.g, .slice q'.den.a q'.den.n q'.den.c]] w fun e w' => ∃ (v : QV) (dv : QD) (ok : Bool), e = .returned (.tuple #[.agg #[.bool v.num.g, .slice v.num.a v.num.n v.num.c, .bool v.den.g, .slice v.den.a v.den.n v.den.c], .bool ok]) ∧ Below w.heap.size w w' ∧ AllAr w' [(v.num, dv.num), (v.den, dv.den)] ∧ AnsQ (gQ d && gQ d') (lowN (nQ d * dQ d' - nQ d' * dQ d) (dQ d * dQ d')) (lowD (nQ d * dQ d' - nQ d' * dQ d) (dQ d * dQ d')) dv ok :=
  (SubRI q q' d d' w h h').mono RetQ.ar
theorem subQ_S (q q' : QV) (d d' : QD) (w : World) (h : AllAr w [(q.num, d.num), (q.den, d.den)]) (h' : AllAr w [(q'.num, d'.num), (q'.den, d'.den)]) :
    Calls Tryz.prog 8 #[.agg #[.bool q.num.g, .slice q.num.a q.num.n q.num.c, .bool q.den.g, .slice q.den.a q.den.n q.den.c], .agg #[.bool q'.num.g, .slice q'.num.a q'.num.n q'.num.c, .bool q'.den.g, .slice q'.den.a q'.den.n q'.den.c]] w fun e w' => ∃ (v : QV) (dv : QD) (ok : Bool), e = .returned (.tuple #[.agg #[.bool v.num.g, .slice v.num.a v.num.n v.num.c, .bool v.den.g, .slice v.den.a v.den.n v.den.c], .bool ok]) ∧ Below w.heap.size w w' ∧ AllAr w' [(v.num, dv.num), (v.den, dv.den)] ∧ AnsQ (gQ d && gQ d') (lowN (nQ d * dQ d' - nQ d' * dQ d) (dQ d * dQ d')) (lowD (nQ d * dQ d' - nQ d' * dQ d) (dQ d * dQ d')) dv ok :=
  (SubRS q q' d d' w h h').mono RetQ.ar
theorem mulQ_I (q q' : QV) (d d' : QD) (w : World) (h : AllAr w [(q.num, d.num), (q.den, d.den)]) (h' : AllAr w [(q'.num, d'.num), (q'.den, d'.den)]) :
    Calls Tryz.prog 9 #[.agg #[.bool q.num.g, .slice q.num.a q.num.n q.num.c, .bool q.den.g, .slice q.den.a q.den.n q.den.c], .agg #[.bool q'.num.g, .slice q'.num.a q'.num.n q'.num.c, .bool q'.den.g, .slice q'.den.a q'.den.n q'.den.c]] w fun e w' => ∃ (v : QV) (dv : QD) (ok : Bool), e = .returned (.tuple #[.agg #[.bool v.num.g, .slice v.num.a v.num.n v.num.c, .bool v.den.g, .slice v.den.a v.den.n v.den.c], .bool ok]) ∧ Below w.heap.size w w' ∧ AllAr w' [(v.num, dv.num), (v.den, dv.den)] ∧ AnsQ (gQ d && gQ d') (lowN (nQ d * nQ d') (dQ d * dQ d')) (lowD (nQ d * nQ d') (dQ d * dQ d')) dv ok :=
  (MulRI q q' d d' w h h').mono RetQ.ar
theorem mulQ_S (q q' : QV) (d d' : QD) (w : World) (h : AllAr w [(q.num, d.num), (q.den, d.den)]) (h' : AllAr w [(q'.num, d'.num), (q'.den, d'.den)]) :
    Calls Tryz.prog 10 #[.agg #[.bool q.num.g, .slice q.num.a q.num.n q.num.c, .bool q.den.g, .slice q.den.a q.den.n q.den.c], .agg #[.bool q'.num.g, .slice q'.num.a q'.num.n q'.num.c, .bool q'.den.g, .slice q'.den.a q'.den.n q'.den.c]] w fun e w' => ∃ (v : QV) (dv : QD) (ok : Bool), e = .returned (.tuple #[.agg #[.bool v.num.g, .slice v.num.a v.num.n v.num.c, .bool v.den.g, .slice v.den.a v.den.n v.den.c], .bool ok]) ∧ Below w.heap.size w w' ∧ AllAr w' [(v.num, dv.num), (v.den, dv.den)] ∧ AnsQ (gQ d && gQ d') (lowN (nQ d * nQ d') (dQ d * dQ d')) (lowD (nQ d * nQ d') (dQ d * dQ d')) dv ok :=
  (MulRS q q' d d' w h h').mono RetQ.ar
theorem divQ_I (q q' : QV) (d d' : QD) (w : World) (h : AllAr w [(q.num, d.num), (q.den, d.den)]) (h' : AllAr w [(q'.num, d'.num), (q'.den, d'.den)]) :
    Calls Tryz.prog 11 #[.agg #[.bool q.num.g, .slice q.num.a q.num.n q.num.c, .bool q.den.g, .slice q.den.a q.den.n q.den.c], .agg #[.bool q'.num.g, .slice q'.num.a q'.num.n q'.num.c, .bool q'.den.g, .slice q'.den.a q'.den.n q'.den.c]] w fun e w' => ∃ (v : QV) (dv : QD) (ok : Bool), e = .returned (.tuple #[.agg #[.bool v.num.g, .slice v.num.a v.num.n v.num.c, .bool v.den.g, .slice v.den.a v.den.n v.den.c], .bool ok]) ∧ Below w.heap.size w w' ∧ AllAr w' [(v.num, dv.num), (v.den, dv.den)] ∧ AnsQ ((gQ d && gQ d') && decide (nQ d' ≠ 0)) (lowN (nQ d * dQ d') (dQ d * nQ d')) (lowD (nQ d * dQ d') (dQ d * nQ d')) dv ok :=
  (DivRI q q' d d' w h h').mono RetQ.ar
theorem divQ_S (q q' : QV) (d d' : QD) (w : World) (h : AllAr w [(q.num, d.num), (q.den, d.den)]) (h' : AllAr w [(q'.num, d'.num), (q'.den, d'.den)]) :
    Calls Tryz.prog 12 #[.agg #[.bool q.num.g, .slice q.num.a q.num.n q.num.c, .bool q.den.g, .slice q.den.a q.den.n q.den.c], .agg #[.bool q'.num.g, .slice q'.num.a q'.num.n q'.num.c, .bool q'.den.g, .slice q'.den.a q'.den.n q'.den.c]] w fun e w' => ∃ (v : QV) (dv : QD) (ok : Bool), e = .returned (.tuple #[.agg #[.bool v.num.g, .slice v.num.a v.num.n v.num.c, .bool v.den.g, .slice v.den.a v.den.n v.den.c], .bool ok]) ∧ Below w.heap.size w w' ∧ AllAr w' [(v.num, dv.num), (v.den, dv.den)] ∧ AnsQ ((gQ d && gQ d') && decide (nQ d' ≠ 0)) (lowN (nQ d * dQ d') (dQ d * nQ d')) (lowD (nQ d * dQ d') (dQ d * nQ d')) dv ok :=
  (DivRS q q' d d' w h h').mono RetQ.ar
theorem ofQ_I (x y : Int) (w : World) (wx : -9223372036854775808 ≤ x ∧ x ≤ 9223372036854775807) (wy : -9223372036854775808 ≤ y ∧ y ≤ 9223372036854775807) :
    Calls Tryz.prog 19 #[.int .i64 x, .int .i64 y] w fun e w' => ∃ (v : QV) (dv : QD) (ok : Bool), e = .returned (.tuple #[.agg #[.bool v.num.g, .slice v.num.a v.num.n v.num.c, .bool v.den.g, .slice v.den.a v.den.n v.den.c], .bool ok]) ∧ Below w.heap.size w w' ∧ AllAr w' [(v.num, dv.num), (v.den, dv.den)] ∧ AnsQ ((decide (-4611686018427387904 ≤ x ∧ x ≤ 4611686018427387904) && decide (-4611686018427387904 ≤ y ∧ y ≤ 4611686018427387904)) && decide (y ≠ 0)) (lowN x y) (lowD x y) dv ok :=
  (RatOfRI x y w wx wy).mono RetQ.ar
theorem ofQ_S (x y : Int) (w : World) (wx : -9223372036854775808 ≤ x ∧ x ≤ 9223372036854775807) (wy : -9223372036854775808 ≤ y ∧ y ≤ 9223372036854775807) :
    Calls Tryz.prog 20 #[.int .i64 x, .int .i64 y] w fun e w' => ∃ (v : QV) (dv : QD) (ok : Bool), e = .returned (.tuple #[.agg #[.bool v.num.g, .slice v.num.a v.num.n v.num.c, .bool v.den.g, .slice v.den.a v.den.n v.den.c], .bool ok]) ∧ Below w.heap.size w w' ∧ AllAr w' [(v.num, dv.num), (v.den, dv.den)] ∧ AnsQ ((decide (-4611686018427387904 ≤ x ∧ x ≤ 4611686018427387904) && decide (-4611686018427387904 ≤ y ∧ y ≤ 4611686018427387904)) && decide (y ≠ 0)) (lowN x y) (lowD x y) dv ok :=
  (RatOfRS x y w wx wy).mono RetQ.ar
/-- A compare's answer. -/
def KQ (P : Bool) (A B : Int) (c : Int) (ok : Bool) : Prop := (P = true ∧ ∃ ts us, Nm ts A.natAbs ∧ Nm us B.natAbs ∧ c = cmpB (decide (A < 0)) ts (decide (B < 0)) us ∧ ok = true) ∨ (P = false ∧ c = 0 ∧ ok = false)
theorem KQ.same {P : Bool} {A B c c' : Int} {ok ok' : Bool} (h : KQ P A B c ok) (k : KQ P A B c' ok') : c = c' ∧ ok = ok' := by
  rcases h with ⟨p, ts, us, h1, h2, h3, h4⟩ | ⟨p, h1, h2⟩ <;> rcases k with ⟨p', ts', us', k1, k2, k3, k4⟩ | ⟨p', k1, k2⟩
  · obtain rfl := h1.same k1
    obtain rfl := h2.same k2
    exact ⟨h3.trans k3.symm, h4.trans k4.symm⟩
  · rw [p] at p'; cases p'
  · rw [p] at p'; cases p'
  · exact ⟨h1.trans k1.symm, h2.trans k2.symm⟩
theorem OutK.kq {w : World} {P : Bool} {A B : Int} (e : Ending) (w' : World) (h : OutK w P A B e w') : ∃ (c : Int) (ok : Bool), e = .returned (.tuple #[.int .i64 c, .bool ok]) ∧ Below w.heap.size w w' ∧ KQ P A B c ok := by
  obtain ⟨hb, ⟨p, ts, us, h1, h2, he⟩ | ⟨p, he⟩⟩ := h
  · exact ⟨_, _, he, hb, .inl ⟨p, ts, us, h1, h2, rfl, rfl⟩⟩
  · exact ⟨_, _, he, hb, .inr ⟨p, rfl, rfl⟩⟩
theorem cmpQ_I (q q' : QV) (d d' : QD) (w : World) (h : AllAr w [(q.num, d.num), (q.den, d.den)]) (h' : AllAr w [(q'.num, d'.num), (q'.den, d'.den)]) :
    Calls Tryz.prog 13 #[.agg #[.bool q.num.g, .slice q.num.a q.num.n q.num.c, .bool q.den.g, .slice q.den.a q.den.n q.den.c], .agg #[.bool q'.num.g, .slice q'.num.a q'.num.n q'.num.c, .bool q'.den.g, .slice q'.den.a q'.den.n q'.den.c]] w fun e w' => ∃ (c : Int) (ok : Bool), e = .returned (.tuple #[.int .i64 c, .bool ok]) ∧ Below w.heap.size w w' ∧ KQ (gQ d && gQ d') (nQ d * dQ d') (nQ d' * dQ d) c ok := by
  have k := CompareRI_any ⟨q.num.g, q.num.a, q.num.n, q.num.c, q.den.g, q.den.a, q.den.n, q.den.c⟩ ⟨q'.num.g, q'.num.a, q'.num.n, q'.num.c, q'.den.g, q'.den.a, q'.den.n, q'.den.c⟩ d.num.xs d.den.xs d'.num.xs d'.den.xs w h.head.ar h.tail.head.ar h'.head.ar h'.tail.head.ar
  simp only at k
  rw [h.head.sg, h.tail.head.sg, h'.head.sg, h'.tail.head.sg] at k
  rw [h.head.sg, h.tail.head.sg, h'.head.sg, h'.tail.head.sg]
  exact k.mono OutK.kq
theorem rtQ_I (q : QV) (d : QD) (w : World) (h : AllAr w [(q.num, d.num), (q.den, d.den)]) (ht : Tab15 w) :
    Calls Tryz.prog 22 #[.agg #[.bool q.num.g, .slice q.num.a q.num.n q.num.c, .bool q.den.g, .slice q.den.a q.den.n q.den.c]] w fun e w' => e = .returned (.tuple #[.string (rtV d.num.g d.num.xs d.den.g d.den.xs), .bool (gQ d)]) ∧ Below w.heap.size w w' := by
  have k := RatTextI q.num.g q.den.g q.num.a q.den.a q.num.n q.num.c q.den.n q.den.c d.num.xs d.den.xs w h.head.ar h.tail.head.ar ht
  rw [h.head.sg, h.tail.head.sg] at k
  rw [h.head.sg, h.tail.head.sg]
  exact k
theorem cmpQ_S (q q' : QV) (d d' : QD) (w : World) (h : AllAr w [(q.num, d.num), (q.den, d.den)]) (h' : AllAr w [(q'.num, d'.num), (q'.den, d'.den)]) :
    Calls Tryz.prog 14 #[.agg #[.bool q.num.g, .slice q.num.a q.num.n q.num.c, .bool q.den.g, .slice q.den.a q.den.n q.den.c], .agg #[.bool q'.num.g, .slice q'.num.a q'.num.n q'.num.c, .bool q'.den.g, .slice q'.den.a q'.den.n q'.den.c]] w fun e w' => ∃ (c : Int) (ok : Bool), e = .returned (.tuple #[.int .i64 c, .bool ok]) ∧ Below w.heap.size w w' ∧ KQ (gQ d && gQ d') (nQ d * dQ d') (nQ d' * dQ d) c ok := by
  have k := CompareRS_any ⟨q.num.g, q.num.a, q.num.n, q.num.c, q.den.g, q.den.a, q.den.n, q.den.c⟩ ⟨q'.num.g, q'.num.a, q'.num.n, q'.num.c, q'.den.g, q'.den.a, q'.den.n, q'.den.c⟩ d.num.xs d.den.xs d'.num.xs d'.den.xs w h.head.ar h.tail.head.ar h'.head.ar h'.tail.head.ar
  simp only at k
  rw [h.head.sg, h.tail.head.sg, h'.head.sg, h'.tail.head.sg] at k
  rw [h.head.sg, h.tail.head.sg, h'.head.sg, h'.tail.head.sg]
  exact k.mono OutK.kq
theorem rtQ_S (q : QV) (d : QD) (w : World) (h : AllAr w [(q.num, d.num), (q.den, d.den)]) :
    Calls Tryz.prog 23 #[.agg #[.bool q.num.g, .slice q.num.a q.num.n q.num.c, .bool q.den.g, .slice q.den.a q.den.n q.den.c]] w fun e w' => e = .returned (.tuple #[.string (rtV d.num.g d.num.xs d.den.g d.den.xs), .bool (gQ d)]) ∧ Below w.heap.size w w' := by
  have k := RatTextS q.num.g q.den.g q.num.a q.den.a q.num.n q.num.c q.den.n q.den.c d.num.xs d.den.xs w h.head.ar h.tail.head.ar
  rw [h.head.sg, h.tail.head.sg] at k
  rw [h.head.sg, h.tail.head.sg]
  exact k
set_option maxHeartbeats 4000000 in
theorem sameQ (q q' : QV) (d : QD) (w : World) (h : AllAr w [(q.num, d.num), (q.den, d.den)]) (h' : AllAr w [(q'.num, d.num), (q'.den, d.den)]) (l1 : d.num.xs.length ≤ 1048576) (l2 : d.den.xs.length ≤ 1048576) :
    Calls Tryz.prog 15 #[.agg #[.bool q.num.g, .slice q.num.a q.num.n q.num.c, .bool q.den.g, .slice q.den.a q.den.n q.den.c], .agg #[.bool q'.num.g, .slice q'.num.a q'.num.n q'.num.c, .bool q'.den.g, .slice q'.den.a q'.den.n q'.den.c]] w fun e w' => e = .returned (.bool true) ∧ Below w.heap.size w w' := by
  have al : Below w.heap.size w ((w.alloc (.cells #[.bool q.num.g, .slice q.num.a q.num.n q.num.c, .bool q.den.g, .slice q.den.a q.den.n q.den.c] 27)).alloc (.cells #[.bool q'.num.g, .slice q'.num.a q'.num.n q'.num.c, .bool q'.den.g, .slice q'.den.a q'.den.n q'.den.c] 27)) := ((Below.refl _ _).alloc (Nat.le_refl _) _).alloc (by simp) _
  have H1 := hide ((h.later al).sl)
  have H2 := hide ((h'.later al).sl)
  have BW := hide al
  have L := hide (And.intro l1 l2)
  clear h h' al l1 l2
  go_enter Tryz.func15, Tryz.ntmps15
  go_wp2_with fail
  have k0 : ∀ (i : Nat) (x : Value), ((w.alloc (.cells #[.bool q.num.g, .slice q.num.a q.num.n q.num.c, .bool q.den.g, .slice q.den.a q.den.n q.den.c] 27)).alloc (.cells #[.bool q'.num.g, .slice q'.num.a q'.num.n q'.num.c, .bool q'.den.g, .slice q'.den.a q'.den.n q'.den.c] 27)).cell? ⟨w.heap.size, i, none⟩ = some x → True := fun _ _ _ => trivial
  refine (sameB q.num q'.num d.num _ (AllSl.cons (unhide H1).head (AllSl.nil _)) (AllSl.cons (unhide H2).head (AllSl.nil _)) (unhide L).1).mono ?_
  rintro e w1 ⟨rfl, hb⟩
  have s1 : w.heap.size + 1 < w1.heap.size := by have := hb.size; simp at this; omega
  have k0_2 : w1.cell? ⟨w.heap.size, 2, none⟩ = some (.bool q.den.g) := cell_later hb (by simp [go_sem])
  have k0_3 : w1.cell? ⟨w.heap.size, 3, none⟩ = some (.slice q.den.a q.den.n q.den.c) := cell_later hb (by simp [go_sem])
  have k1_2 : w1.cell? ⟨w.heap.size + 1, 2, none⟩ = some (.bool q'.den.g) := cell_later hb (by simp [go_sem])
  have k1_3 : w1.cell? ⟨w.heap.size + 1, 3, none⟩ = some (.slice q'.den.a q'.den.n q'.den.c) := cell_later hb (by simp [go_sem])
  replace H1 := hide ((unhide H1).later hb)
  replace H2 := hide ((unhide H2).later hb)
  replace BW := hide (below_on (unhide BW) hb)
  clear hb k0
  go_wp2_with fail
  refine (sameB q.den q'.den d.den _ (unhide H1).tail (unhide H2).tail (unhide L).2).mono ?_
  rintro e w2 ⟨rfl, hb⟩
  replace BW := hide (below_on (unhide BW) hb)
  clear hb
  go_wp2
  go_ret
  exact ⟨rfl, unhide BW⟩
end Aq
end Go.Proofs.YtdgonpbponnnaaaGreatDoor
