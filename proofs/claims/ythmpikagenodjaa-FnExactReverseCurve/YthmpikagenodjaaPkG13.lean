/- AddRat, SubRat, MulRat and DivRat: the program's and the specification's, at every two fractions. No condition beyond those typed. Written by mkratf.py. -/
import Derived.Test.YthmpikagenodjaaPkF13
import Derived.Test.YthmpikagenodjaaRatC
namespace Go.Proofs.Ythmpikagenodjaa
open Go.RowKit
set_option linter.unusedVariables false
set_option maxRecDepth 100000
set_option linter.unusedSimpArgs false

end Go.Proofs.Ythmpikagenodjaa
namespace Go.Proofs.Ythmpikagenodjaa
open Go.RowKit
set_option linter.unusedVariables false
set_option maxRecDepth 100000
set_option linter.unusedSimpArgs false

theorem goodR_parts {g h : Bool} {xs us : List Int} (k : goodR g xs h us = true) : goodB g xs = true ∧ goodB h us = true := by
  unfold goodR at k
  rw [Bool.and_eq_true, Bool.and_eq_true] at k
  exact k.1
end Go.Proofs.Ythmpikagenodjaa
namespace Go.Proofs.Ythmpikagenodjaa
open Go.RowKit
set_option linter.unusedVariables false
set_option maxRecDepth 100000
set_option linter.unusedSimpArgs false

/-- A call answers a fraction and whether: what it leads to is its own. -/
def RetQ (w : World) (U : QD → Bool → Prop) (e : Ending) (w' : World) : Prop := ∃ (v : QV) (d : QD) (ok : Bool), e = .returned (.tuple #[.agg #[.bool v.num.g, .slice v.num.a v.num.n v.num.c, .bool v.den.g, .slice v.den.a v.den.n v.den.c], .bool ok]) ∧ Below w.heap.size w w' ∧ AllOwn w.heap.size w'.heap.size w' [(v.num, d.num), (v.den, d.den)] ∧ U d ok
theorem zeroQ (lo hi : Nat) (w : World) : AllOwn lo hi w [((⟨⟨false, none, 0, 0⟩, ⟨false, none, 0, 0⟩⟩ : QV).num, (⟨⟨false, []⟩, ⟨false, []⟩⟩ : QD).num), ((⟨⟨false, none, 0, 0⟩, ⟨false, none, 0, 0⟩⟩ : QV).den, (⟨⟨false, []⟩, ⟨false, []⟩⟩ : QD).den)] := ⟨fun p hp => by
  have hp : p = ((⟨false, none, 0, 0⟩ : BV), (⟨false, []⟩ : BD)) := by simpa using hp
  subst hp
  exact ⟨rfl, .inl rfl, rfl⟩, List.pairwise_cons.2 ⟨fun p hp => .inl rfl, List.pairwise_singleton _ _⟩⟩
/-- The answer N / D, where both fit; otherwise, and where P does not hold, the zero answer. -/
def AnsQ (P : Bool) (N D : Int) (d : QD) (ok : Bool) : Prop :=
  (P = true ∧ ∃ zs us, Nm zs N.natAbs ∧ Nm us D.natAbs ∧ ((zs.length ≤ 40 ∧ us.length ≤ 40 ∧ ok = true ∧ d = ⟨⟨decide (N < 0), zs⟩, ⟨decide (D < 0), us⟩⟩) ∨ (¬ (zs.length ≤ 40 ∧ us.length ≤ 40) ∧ ok = false ∧ d = (⟨⟨false, []⟩, ⟨false, []⟩⟩ : QD)))) ∨ (P = false ∧ ok = false ∧ d = (⟨⟨false, []⟩, ⟨false, []⟩⟩ : QD))
theorem AnsQ.same {P : Bool} {N D : Int} {d d' : QD} {ok ok' : Bool} (h : AnsQ P N D d ok) (k : AnsQ P N D d' ok') : d = d' ∧ ok = ok' := by
  rcases h with ⟨p, zs, us, h1, h2, h3⟩ | ⟨p, h1, h2⟩ <;> rcases k with ⟨p', zs', us', k1, k2, k3⟩ | ⟨p', k1, k2⟩
  · obtain rfl := h1.same k1
    obtain rfl := h2.same k2
    rcases h3 with ⟨a, b, c, e⟩ | ⟨a, c, e⟩ <;> rcases k3 with ⟨a', b', c', e'⟩ | ⟨a', c', e'⟩
    · exact ⟨e.trans e'.symm, c.trans c'.symm⟩
    · exact absurd ⟨a, b⟩ a'
    · exact absurd ⟨a', b'⟩ a
    · exact ⟨e.trans e'.symm, c.trans c'.symm⟩
  · rw [p] at p'; cases p'
  · rw [p] at p'; cases p'
  · exact ⟨h2.trans k2.symm, h1.trans k1.symm⟩
theorem AnsQ.lens {P : Bool} {N D : Int} {d : QD} {ok : Bool} (h : AnsQ P N D d ok) : d.num.xs.length ≤ 40 ∧ d.den.xs.length ≤ 40 := by
  rcases h with ⟨p, zs, us, h1, h2, ⟨a, b, c, rfl⟩ | ⟨a, c, rfl⟩⟩ | ⟨p, h1, rfl⟩
  · exact ⟨a, b⟩
  · exact ⟨by simp, by simp⟩
  · exact ⟨by simp, by simp⟩
theorem retQ_fin {w wN W : World} {R : Nat} {v : QV} {d : QD} {ok : Bool} {U : QD → Bool → Prop} (hR : w.heap.size ≤ R) (hb : Below w.heap.size w wN) (bt : But R (R + 1) wN W)
    (ho : AllOwn (R + 1) wN.heap.size wN [(v.num, d.num), (v.den, d.den)]) (hu : U d ok) : RetQ w U (.returned (.tuple #[.agg #[.bool v.num.g, .slice v.num.a v.num.n v.num.c, .bool v.den.g, .slice v.den.a v.den.n v.den.c], .bool ok])) W :=
  ⟨v, d, ok, rfl, bt.below hb hR hb.size, (own_fin bt ho (Nat.le_refl _)).wide (by omega) bt.size, hu⟩

set_option maxHeartbeats 1000000 in
theorem inL (q : QV) (m : Nat) (w : World) : Calls Try.prog 56 #[.agg #[.bool q.num.g, .slice q.num.a q.num.n q.num.c, .bool q.den.g, .slice q.den.a q.den.n q.den.c], .int .i64 (m : Nat)] w fun e w' => e = .returned (.bool (decide (q.num.n ≤ m) && decide (q.den.n ≤ m))) ∧ Below w.heap.size w w' := by
  have HB := hide (show ∀ o, Below w.heap.size w (w.alloc o) from fun o => (Below.refl _ _).alloc (Nat.le_refl _) _)
  by_cases c1 : q.num.n ≤ m
  · by_cases c2 : q.den.n ≤ m
    · rw [decide_eq_true c1, decide_eq_true c2]
      have b1 : (q.num.n : Int) ≤ (m : Int) := by omega
      have b2 : (q.den.n : Int) ≤ (m : Int) := by omega
      go_enter Try.func56, Try.ntmps56
      go_wp2
      go_ret
      exact ⟨rfl, unhide HB _⟩
    · rw [decide_eq_true c1, decide_eq_false c2]
      have b1 : (q.num.n : Int) ≤ (m : Int) := by omega
      have b2 : ¬ ((q.den.n : Int) ≤ (m : Int)) := by omega
      go_enter Try.func56, Try.ntmps56
      go_wp2
      go_ret
      exact ⟨rfl, unhide HB _⟩
  · rw [decide_eq_false c1]
    have b1 : ¬ ((q.num.n : Int) ≤ (m : Int)) := by omega
    go_enter Try.func56, Try.ntmps56
    go_wp2
    go_ret
    exact ⟨by simp, unhide HB _⟩
def gQ (d : QD) : Bool := goodR d.num.g d.num.xs d.den.g d.den.xs
def nQ (d : QD) : Int := sv d.num.g d.num.xs
def dQ (d : QD) : Int := sv d.den.g d.den.xs
theorem goodQI (q : QV) (d : QD) (w : World) (h : AllAr w [(q.num, d.num), (q.den, d.den)]) : Calls Try.prog 57 #[.agg #[.bool q.num.g, .slice q.num.a q.num.n q.num.c, .bool q.den.g, .slice q.den.a q.den.n q.den.c]] w fun e w' => e = .returned (.bool (gQ d)) ∧ Below w.heap.size w w' := by
  have := goodRI_any ⟨q.num.g, q.num.a, q.num.n, q.num.c, q.den.g, q.den.a, q.den.n, q.den.c⟩ d.num.xs d.den.xs w h.head.ar h.tail.head.ar
  simp only at this
  rw [h.head.sg, h.tail.head.sg] at this
  rw [h.head.sg, h.tail.head.sg]
  exact this
theorem goodQS (q : QV) (d : QD) (w : World) (h : AllAr w [(q.num, d.num), (q.den, d.den)]) : Calls Try.prog 54 #[.agg #[.bool q.num.g, .slice q.num.a q.num.n q.num.c, .bool q.den.g, .slice q.den.a q.den.n q.den.c]] w fun e w' => e = .returned (.bool (gQ d)) ∧ Below w.heap.size w w' := by
  have := goodRS_any ⟨q.num.g, q.num.a, q.num.n, q.num.c, q.den.g, q.den.a, q.den.n, q.den.c⟩ d.num.xs d.den.xs w h.head.ar h.tail.head.ar
  simp only at this
  rw [h.head.sg, h.tail.head.sg] at this
  rw [h.head.sg, h.tail.head.sg]
  exact this
/-- A good fraction reads as what it says; its denominator is above 0. -/
structure IsGood (w : World) (q : QV) (d : QD) : Prop where
  is : IsQ w q (nQ d) (dQ d)
  kn : Bd (nQ d) 40
  kd : Bd (dQ d) 40
  pos : 0 < dQ d
  low : Nat.gcd (nQ d).natAbs (dQ d).natAbs = 1
theorem IsGood.later {w w' : World} {q : QV} {d : QD} (h : IsGood w q d) (hb : Below w.heap.size w w') : IsGood w' q d := ⟨h.is.later hb, h.kn, h.kd, h.pos, h.low⟩

set_option maxHeartbeats 4000000 in
theorem fitsQS (q : QV) (N D : Int) (w : World) (h : IsQ w q N D) (hD : 0 < D) :
    Calls Try.prog 59 #[.agg #[.bool q.num.g, .slice q.num.a q.num.n q.num.c, .bool q.den.g, .slice q.den.a q.den.n q.den.c]] w (RetQ w (AnsQ true N D)) := by
  obtain ⟨⟨xs, a1, n1⟩, ⟨us, a2, n2⟩⟩ := h
  have X1 := hide a1.ar
  have X2 := hide a2.ar
  have SG : Hid (sU q.num.g (N.natAbs : Int) = N ∧ sU false (D.natAbs : Int) = D) := hide ⟨by rw [a1.sg]; unfold sU; by_cases e : N < 0 <;> simp [e] <;> omega, by unfold sU; simp; omega⟩
  have VV : Hid (N.natAbs = N.natAbs ∧ D.natAbs = D.natAbs) := hide ⟨rfl, rfl⟩
  have LL : Hid (xs.length = q.num.n ∧ us.length = q.den.n) := hide ⟨a1.ar.len, a2.ar.len⟩
  have N1 := hide n1
  have N2 := hide n2
  clear a1 a2 n1 n2
  by_cases hf : q.num.n ≤ 40 ∧ q.den.n ≤ 40
  · have t1 : decide ((40 : Int) < (q.num.n : Int)) = false := by simp; omega
    have t2 : decide ((40 : Int) < (q.den.n : Int)) = false := by simp; omega
    have l1 : q.num.n ≤ 1048576 := by omega
    have l2 : q.den.n ≤ 1048576 := by omega
    have HF := hide hf
    clear hf
    go_enter Try.func59, Try.ntmps59
    go_upto_region 3 with fail
    have hb : Below w.heap.size w ((w.alloc (.cells #[.bool q.num.g, .slice q.num.a q.num.n q.num.c, .bool q.den.g, .slice q.den.a q.den.n q.den.c] 50)).alloc (.cells #[.bool false, .slice none 0 0, .bool false, .slice none 0 0] 50)) := (((Below.refl _ _).alloc (by simp) _).alloc (by simp) _)
    have k0_0 : ((w.alloc (.cells #[.bool q.num.g, .slice q.num.a q.num.n q.num.c, .bool q.den.g, .slice q.den.a q.den.n q.den.c] 50)).alloc (.cells #[.bool false, .slice none 0 0, .bool false, .slice none 0 0] 50)).cell? ⟨w.heap.size, 0, none⟩ = some (.bool q.num.g) := by simp [go_sem]
    have k0_1 : ((w.alloc (.cells #[.bool q.num.g, .slice q.num.a q.num.n q.num.c, .bool q.den.g, .slice q.den.a q.den.n q.den.c] 50)).alloc (.cells #[.bool false, .slice none 0 0, .bool false, .slice none 0 0] 50)).cell? ⟨w.heap.size, 1, none⟩ = some (.slice q.num.a q.num.n q.num.c) := by simp [go_sem]
    have k0_3 : ((w.alloc (.cells #[.bool q.num.g, .slice q.num.a q.num.n q.num.c, .bool q.den.g, .slice q.den.a q.den.n q.den.c] 50)).alloc (.cells #[.bool false, .slice none 0 0, .bool false, .slice none 0 0] 50)).cell? ⟨w.heap.size, 3, none⟩ = some (.slice q.den.a q.den.n q.den.c) := by simp [go_sem]
    have k1_0 : ((w.alloc (.cells #[.bool q.num.g, .slice q.num.a q.num.n q.num.c, .bool q.den.g, .slice q.den.a q.den.n q.den.c] 50)).alloc (.cells #[.bool false, .slice none 0 0, .bool false, .slice none 0 0] 50)).cell? ⟨w.heap.size + 1, 0, none⟩ = some (.bool false) := by simp [go_sem]
    have k1_1 : ((w.alloc (.cells #[.bool q.num.g, .slice q.num.a q.num.n q.num.c, .bool q.den.g, .slice q.den.a q.den.n q.den.c] 50)).alloc (.cells #[.bool false, .slice none 0 0, .bool false, .slice none 0 0] 50)).cell? ⟨w.heap.size + 1, 1, none⟩ = some (.slice none 0 0) := by simp [go_sem]
    have k1_2 : ((w.alloc (.cells #[.bool q.num.g, .slice q.num.a q.num.n q.num.c, .bool q.den.g, .slice q.den.a q.den.n q.den.c] 50)).alloc (.cells #[.bool false, .slice none 0 0, .bool false, .slice none 0 0] 50)).cell? ⟨w.heap.size + 1, 2, none⟩ = some (.bool false) := by simp [go_sem]
    have k1_3 : ((w.alloc (.cells #[.bool q.num.g, .slice q.num.a q.num.n q.num.c, .bool q.den.g, .slice q.den.a q.den.n q.den.c] 50)).alloc (.cells #[.bool false, .slice none 0 0, .bool false, .slice none 0 0] 50)).cell? ⟨w.heap.size + 1, 3, none⟩ = some (.slice none 0 0) := by simp [go_sem]
    have z1 : ∀ o, ((w.alloc (.cells #[.bool q.num.g, .slice q.num.a q.num.n q.num.c, .bool q.den.g, .slice q.den.a q.den.n q.den.c] 50)).alloc (.cells #[.bool false, .slice none 0 0, .bool false, .slice none 0 0] 50)).frozen? ⟨w.heap.size + 1, o, none⟩ = false := fun o => by simp [go_sem]
    have A1 := hide ((unhide X1).later hb)
    have A2 := hide ((unhide X2).later hb)
    have szw0 : w.heap.size + 2 ≤ ((w.alloc (.cells #[.bool q.num.g, .slice q.num.a q.num.n q.num.c, .bool q.den.g, .slice q.den.a q.den.n q.den.c] 50)).alloc (.cells #[.bool false, .slice none 0 0, .bool false, .slice none 0 0] 50)).heap.size := by simp
    have HB := hide hb
    clear hb
    generalize ((w.alloc (.cells #[.bool q.num.g, .slice q.num.a q.num.n q.num.c, .bool q.den.g, .slice q.den.a q.den.n q.den.c] 50)).alloc (.cells #[.bool false, .slice none 0 0, .bool false, .slice none 0 0] 50)) = w0 at *
    have ne0_1 : w.heap.size ≠ w.heap.size + 1 := by omega
    go_region_held3 (fun w' => w'.cell? ⟨w.heap.size, 0, none⟩ = some (.bool q.num.g) ∧ w'.cell? ⟨w.heap.size, 1, none⟩ = some (.slice q.num.a q.num.n q.num.c) ∧ w'.cell? ⟨w.heap.size, 3, none⟩ = some (.slice q.den.a q.den.n q.den.c)) (with_reducible (first | exact ⟨k0_0, k0_1, k0_3⟩ | exact ⟨cd_other k0_0, cd_other k0_1, cd_other k0_3⟩ | exact ⟨cs_other (cs_other (cs_other (cs_other (k0_0) ne0_1) ne0_1) ne0_1) ne0_1, cs_other (cs_other (cs_other (cs_other (k0_1) ne0_1) ne0_1) ne0_1) ne0_1, cs_other (cs_other (cs_other (cs_other (k0_3) ne0_1) ne0_1) ne0_1) ne0_1⟩ | fail))
      (first
      | (go_at_call_of 74 (Value.bool q.num.g); refine (makeS_v _ q.num.a q.num.n q.num.c xs _ _ ?_ (unhide N1) l1).mono ?_; exact (unhide A1).later (Below.refl _ _).drew; rintro e w1 ⟨x1, rfl, hb, ow1, ar1⟩; have hbx : Below w0.heap.size w0 w1 := below_of_drew hb; have szw1 := hbx.size; replace z1 := fun o => frozen_later hbx (World.block_lt_of_cell? _ _ k1_0) (z1 o); replace k0_0 := cell_later hbx k0_0; replace k0_1 := cell_later hbx k0_1; replace k0_3 := cell_later hbx k0_3; replace k1_0 := cell_later hbx k1_0; replace k1_1 := cell_later hbx k1_1; replace k1_2 := cell_later hbx k1_2; replace k1_3 := cell_later hbx k1_3; replace A1 := hide ((unhide A1).later hbx); replace A2 := hide ((unhide A2).later hbx); have eo := unhide SG; rw [eo.1] at ow1 ar1; replace ow1 : AllOwn w0.heap.size w1.heap.size w1 [(x1, ⟨decide (N < 0), xs⟩)] := ow1; clear ar1 eo; have O1 := hide (ow1); have HBr := hide hbx; clear hbx hb ow1)
      | (go_at_call_of 74 (Value.bool false); refine (makeS_v false q.den.a q.den.n q.den.c us _ _ ?_ (unhide N2) l2).mono ?_; exact (unhide A2).later (Below.refl _ _); rintro e w2 ⟨x2, rfl, hb, ow2, ar2⟩; have hbx : Below w1.heap.size w1 w2 := hb; have szw2 := hbx.size; replace z1 := fun o => frozen_later hbx (World.block_lt_of_cell? _ _ k1_0) (z1 o); replace k0_0 := cell_later hbx k0_0; replace k0_1 := cell_later hbx k0_1; replace k0_3 := cell_later hbx k0_3; replace k1_0 := cell_later hbx k1_0; replace k1_1 := cell_later hbx k1_1; replace k1_2 := cell_later hbx k1_2; replace k1_3 := cell_later hbx k1_3; replace A1 := hide ((unhide A1).later hbx); replace A2 := hide ((unhide A2).later hbx); replace O1 := hide ((unhide O1).later hbx); rw [(unhide SG).2] at ow2; clear ar2; have O2 := hide (ow2); have HBr := hide (below_on (unhide HBr) hbx); clear hbx hb ow2))
    replace HB := hide (below_on (unhide HB) (unhide HBr))
    clear HBr
    have OO := hide (((unhide O1).join (unhide O2) (by omega) (by omega)).wide (lo' := w.heap.size + 1 + 1) (hi' := w2.heap.size) (by omega) (by omega))
    go_wp2
    refine bodyPost_ret (v := .tuple #[.agg #[.bool x1.g, .slice x1.a x1.n x1.c, .bool x2.g, .slice x2.a x2.n x2.c], .bool true]) (by simp [results, Try.results59, go_sem, k1_0, k1_1, k1_2, k1_3]) rfl ?_
    exact retQ_fin (v := ⟨x1, x2⟩) (d := ⟨⟨decide (N < 0), xs⟩, ⟨decide (D < 0), us⟩⟩) (R := w.heap.size + 1) (by omega) (unhide HB) (metQ_but (w5 := w2) (v := ⟨x1, x2⟩) (G := w.heap.size + 1)) (unhide OO) (.inl ⟨rfl, xs, us, unhide N1, unhide N2, .inl ⟨(unhide LL).1 ▸ (unhide HF).1, (unhide LL).2 ▸ (unhide HF).2, rfl, rfl⟩⟩)
  by_cases h1 : 40 < q.num.n
  · have t1 : decide ((40 : Int) < (q.num.n : Int)) = true := by simp; omega
    have HF := hide hf
    clear hf
    have HB := hide (show Below w.heap.size w ((w.alloc (.cells #[.bool q.num.g, .slice q.num.a q.num.n q.num.c, .bool q.den.g, .slice q.den.a q.den.n q.den.c] 50)).alloc (.cells #[.bool false, .slice none 0 0, .bool false, .slice none 0 0] 50)) from (((Below.refl _ _).alloc (by simp) _).alloc (by simp) _))
    go_enter Try.func59, Try.ntmps59
    go_wp2
    refine bodyPost_ret (v := .tuple #[.agg #[.bool false, .slice none 0 0, .bool false, .slice none 0 0], .bool false]) (by simp [results, Try.results59, go_sem]) rfl ?_
    exact ⟨(⟨⟨false, none, 0, 0⟩, ⟨false, none, 0, 0⟩⟩ : QV), (⟨⟨false, []⟩, ⟨false, []⟩⟩ : QD), false, rfl, unhide HB, zeroQ _ _ _, .inl ⟨rfl, xs, us, unhide N1, unhide N2, .inr ⟨by rw [(unhide LL).1, (unhide LL).2]; have := unhide HF; omega, rfl, rfl⟩⟩⟩
  · have t1 : decide ((40 : Int) < (q.num.n : Int)) = false := by simp; omega
    have t2 : decide ((40 : Int) < (q.den.n : Int)) = true := by simp; omega
    have HF := hide hf
    clear hf
    have HB := hide (show Below w.heap.size w ((w.alloc (.cells #[.bool q.num.g, .slice q.num.a q.num.n q.num.c, .bool q.den.g, .slice q.den.a q.den.n q.den.c] 50)).alloc (.cells #[.bool false, .slice none 0 0, .bool false, .slice none 0 0] 50)) from (((Below.refl _ _).alloc (by simp) _).alloc (by simp) _))
    go_enter Try.func59, Try.ntmps59
    go_wp2
    refine bodyPost_ret (v := .tuple #[.agg #[.bool false, .slice none 0 0, .bool false, .slice none 0 0], .bool false]) (by simp [results, Try.results59, go_sem]) rfl ?_
    exact ⟨(⟨⟨false, none, 0, 0⟩, ⟨false, none, 0, 0⟩⟩ : QV), (⟨⟨false, []⟩, ⟨false, []⟩⟩ : QD), false, rfl, unhide HB, zeroQ _ _ _, .inl ⟨rfl, xs, us, unhide N1, unhide N2, .inr ⟨by rw [(unhide LL).1, (unhide LL).2]; have := unhide HF; omega, rfl, rfl⟩⟩⟩

end Go.Proofs.Ythmpikagenodjaa
