/- Whole numbers as fractions: the program's and the specification's; spans that have 0 within. No condition beyond those typed. Written by mkwhole.py. -/
import Derived.Test.YtikllcoekcglcaaGreatPkR0
import Derived.Test.YtikllcoekcglcaaGreatFlatQ
namespace Go.Proofs.YtikllcoekcglcaaGreat
open Go.RowKit
set_option linter.unusedVariables false
set_option maxRecDepth 100000
set_option linter.unusedSimpArgs false

/-- A call answers a fraction and whether: what it leads to is its own. -/
def RetQ (w : World) (U : QD → Bool → Prop) (e : Ending) (w' : World) : Prop := ∃ (v : QV) (d : QD) (ok : Bool), e = .returned (.tuple #[.agg #[.bool v.num.g, .slice v.num.a v.num.n v.num.c, .bool v.den.g, .slice v.den.a v.den.n v.den.c], .bool ok]) ∧ Below w.heap.size w w' ∧ AllOwn w.heap.size w'.heap.size w' [(v.num, d.num), (v.den, d.den)] ∧ U d ok
def RetQin (lo hi : Nat) (w : World) (U : QD → Bool → Prop) (e : Ending) (w' : World) : Prop := ∃ (v : QV) (d : QD) (ok : Bool), e = .returned (.tuple #[.agg #[.bool v.num.g, .slice v.num.a v.num.n v.num.c, .bool v.den.g, .slice v.den.a v.den.n v.den.c], .bool ok]) ∧ Below w.heap.size w w' ∧ AllOwn lo hi w' [(v.num, d.num), (v.den, d.den)] ∧ U d ok
theorem zeroQ (lo hi : Nat) (w : World) : AllOwn lo hi w [((⟨⟨false, none, 0, 0⟩, ⟨false, none, 0, 0⟩⟩ : QV).num, (⟨⟨false, []⟩, ⟨false, []⟩⟩ : QD).num), ((⟨⟨false, none, 0, 0⟩, ⟨false, none, 0, 0⟩⟩ : QV).den, (⟨⟨false, []⟩, ⟨false, []⟩⟩ : QD).den)] := ⟨fun p hp => by
  have hp : p = ((⟨false, none, 0, 0⟩ : BV), (⟨false, []⟩ : BD)) := by simpa using hp
  subst hp
  exact ⟨rfl, .inl rfl, rfl⟩, List.pairwise_cons.2 ⟨fun p hp => .inl rfl, List.pairwise_singleton _ _⟩⟩
/-- The answer N / D, where both fit; otherwise, and where P does not hold, the zero answer. -/
def AnsQ (P : Bool) (N D : Int) (d : QD) (ok : Bool) : Prop :=
  (P = true ∧ ∃ zs us, Nm zs N.natAbs ∧ Nm us D.natAbs ∧ ((zs.length ≤ 40 ∧ us.length ≤ 40 ∧ ok = true ∧ d = ⟨⟨decide (N < 0), zs⟩, ⟨decide (D < 0), us⟩⟩) ∨ (¬ (zs.length ≤ 40 ∧ us.length ≤ 40) ∧ ok = false ∧ d = (⟨⟨false, []⟩, ⟨false, []⟩⟩ : QD)))) ∨ (P = false ∧ ok = false ∧ d = (⟨⟨false, []⟩, ⟨false, []⟩⟩ : QD))
theorem AnsQ.same {P : Bool} {N D : Int} {d d' : QD} {ok ok' : Bool} (h : AnsQ P N D d ok) (k : AnsQ P N D d' ok') : d = d' ∧ ok = ok' := by
  rcases h with ⟨p, zs, us, h1, h2, h3⟩ | ⟨p, h1, h2⟩ <;> rcases k with ⟨p', zs', us', k1, k2, k3⟩ | ⟨p', k1, k2⟩
  · obtain rfl := h1.same k1
    obtain rfl := h2.same k2
    rcases h3 with ⟨a, b, c, e⟩ | ⟨a, c, e⟩ <;> rcases k3 with ⟨a', b', c', e'⟩ | ⟨a', c', e'⟩
    · exact ⟨e.trans e'.symm, c.trans c'.symm⟩
    · exact absurd ⟨a, b⟩ a'
    · exact absurd ⟨a', b'⟩ a
    · exact ⟨e.trans e'.symm, c.trans c'.symm⟩
  · rw [p] at p'; cases p'
  · rw [p] at p'; cases p'
  · exact ⟨h2.trans k2.symm, h1.trans k1.symm⟩
theorem AnsQ.lens {P : Bool} {N D : Int} {d : QD} {ok : Bool} (h : AnsQ P N D d ok) : d.num.xs.length ≤ 40 ∧ d.den.xs.length ≤ 40 := by
  rcases h with ⟨p, zs, us, h1, h2, ⟨a, b, c, rfl⟩ | ⟨a, c, rfl⟩⟩ | ⟨p, h1, rfl⟩
  · exact ⟨a, b⟩
  · exact ⟨by simp, by simp⟩
  · exact ⟨by simp, by simp⟩
theorem ansQ_none (N D : Int) : AnsQ false N D (⟨⟨false, []⟩, ⟨false, []⟩⟩ : QD) false := .inr ⟨rfl, rfl, rfl⟩
theorem retQ_fin {w wN W : World} {R : Nat} {v : QV} {d : QD} {ok : Bool} {U : QD → Bool → Prop} (hR : w.heap.size ≤ R) (hb : Below w.heap.size w wN) (bt : But R (R + 1) wN W)
    (ho : AllOwn (R + 1) wN.heap.size wN [(v.num, d.num), (v.den, d.den)]) (hu : U d ok) : RetQ w U (.returned (.tuple #[.agg #[.bool v.num.g, .slice v.num.a v.num.n v.num.c, .bool v.den.g, .slice v.den.a v.den.n v.den.c], .bool ok])) W :=
  ⟨v, d, ok, rfl, bt.below hb hR hb.size, (own_fin bt ho (Nat.le_refl _)).wide (by omega) bt.size, hu⟩

set_option maxHeartbeats 1000000 in
theorem inL (q : QV) (m : Nat) (w : World) : Calls Tryz.prog 168 #[.agg #[.bool q.num.g, .slice q.num.a q.num.n q.num.c, .bool q.den.g, .slice q.den.a q.den.n q.den.c], .int .i64 (m : Nat)] w fun e w' => e = .returned (.bool (decide (q.num.n ≤ m) && decide (q.den.n ≤ m))) ∧ Below w.heap.size w w' := by
  have HB := hide (show ∀ o, Below w.heap.size w (w.alloc o) from fun o => (Below.refl _ _).alloc (Nat.le_refl _) _)
  by_cases c1 : q.num.n ≤ m
  · by_cases c2 : q.den.n ≤ m
    · rw [decide_eq_true c1, decide_eq_true c2]
      have b1 : (q.num.n : Int) ≤ (m : Int) := by omega
      have b2 : (q.den.n : Int) ≤ (m : Int) := by omega
      go_enter Tryz.func168, Tryz.ntmps168
      go_wp2
      go_ret
      exact ⟨rfl, unhide HB _⟩
    · rw [decide_eq_true c1, decide_eq_false c2]
      have b1 : (q.num.n : Int) ≤ (m : Int) := by omega
      have b2 : ¬ ((q.den.n : Int) ≤ (m : Int)) := by omega
      go_enter Tryz.func168, Tryz.ntmps168
      go_wp2
      go_ret
      exact ⟨rfl, unhide HB _⟩
  · rw [decide_eq_false c1]
    have b1 : ¬ ((q.num.n : Int) ≤ (m : Int)) := by omega
    go_enter Tryz.func168, Tryz.ntmps168
    go_wp2
    go_ret
    exact ⟨by simp, unhide HB _⟩
set_option maxHeartbeats 2000000 in
theorem fitsI (q : QV) (w : World) (hm : q.den.n ≤ maxLen) :
    Calls Tryz.prog 105 #[.agg #[.bool q.num.g, .slice q.num.a q.num.n q.num.c, .bool q.den.g, .slice q.den.a q.den.n q.den.c]] w fun e w' => e = .returned (.bool (decide (q.den.n ≠ 0 ∧ q.num.n ≤ 40 ∧ q.den.n ≤ 40))) ∧ Below w.heap.size w w' := by
  by_cases h0 : q.den.n = 0
  · have NO := hide (fun w1 => nought_any q.den.g q.den.a q.den.n q.den.c w1 hm)
    rw [show decide (q.den.n = 0) = true from by simp; omega] at NO
    rw [show decide (q.den.n ≠ 0 ∧ q.num.n ≤ 40 ∧ q.den.n ≤ 40) = false from decide_eq_false (by omega)]
    have HH := hide h0
    clear h0
    have B0 := hide (show Below w.heap.size w (w.alloc (.cells #[.bool q.num.g, .slice q.num.a q.num.n q.num.c, .bool q.den.g, .slice q.den.a q.den.n q.den.c] 28)) from ((Below.refl _ _).alloc (by simp) _))
    go_enter Tryz.func105, Tryz.ntmps105
    go_wp2_with fail
    refine (unhide NO _).mono ?_
    rintro e w1 ⟨rfl, hb⟩
    have HB := hide (below_on (unhide B0) hb)
    clear hb
    go_wp2
    go_ret
    exact ⟨rfl, unhide HB⟩
  · have NO := hide (fun w1 => nought_any q.den.g q.den.a q.den.n q.den.c w1 hm)
    rw [show decide (q.den.n = 0) = false from by simp; omega] at NO
    rw [show decide (q.den.n ≠ 0 ∧ q.num.n ≤ 40 ∧ q.den.n ≤ 40) = (decide (q.num.n ≤ 40) && decide (q.den.n ≤ 40)) from by rw [← Bool.decide_and]; exact decide_eq_decide.2 ⟨fun h => h.2, fun h => ⟨h0, h⟩⟩]
    have HH := hide h0
    clear h0
    have B0 := hide (show Below w.heap.size w (w.alloc (.cells #[.bool q.num.g, .slice q.num.a q.num.n q.num.c, .bool q.den.g, .slice q.den.a q.den.n q.den.c] 28)) from ((Below.refl _ _).alloc (by simp) _))
    go_enter Tryz.func105, Tryz.ntmps105
    go_wp2_with fail
    refine (unhide NO _).mono ?_
    rintro e w1 ⟨rfl, hb⟩
    have k0_0 : w1.cell? ⟨w.heap.size, 0, none⟩ = some (.bool q.num.g) := cell_later hb (by simp [go_sem])
    have k0_1 : w1.cell? ⟨w.heap.size, 1, none⟩ = some (.slice q.num.a q.num.n q.num.c) := cell_later hb (by simp [go_sem])
    have k0_2 : w1.cell? ⟨w.heap.size, 2, none⟩ = some (.bool q.den.g) := cell_later hb (by simp [go_sem])
    have k0_3 : w1.cell? ⟨w.heap.size, 3, none⟩ = some (.slice q.den.a q.den.n q.den.c) := cell_later hb (by simp [go_sem])
    have HB := hide (below_on (unhide B0) hb)
    clear hb
    go_wp2_with fail
    refine (inL q 40 _).mono ?_
    rintro e w2 ⟨rfl, hb⟩
    clear k0_0 k0_1 k0_2 k0_3
    replace HB := hide (below_on (unhide HB) hb)
    clear hb
    go_wp2
    go_ret
    exact ⟨rfl, unhide HB⟩

set_option maxHeartbeats 2000000 in
theorem whereQ_yes (q : QV) (d : QD) (lo hi : Nat) (w : World) (ho : AllOwn lo hi w [(q.num, d.num), (q.den, d.den)]) (hh : hi ≤ w.heap.size) (hm : q.den.n ≤ maxLen) (hf : decide (q.den.n ≠ 0 ∧ q.num.n ≤ 40 ∧ q.den.n ≤ 40) = true) :
    Calls Tryz.prog 114 #[.agg #[.bool q.num.g, .slice q.num.a q.num.n q.num.c, .bool q.den.g, .slice q.den.a q.den.n q.den.c], .func (Fn.func 105) #[] #[]] w (RetQin lo hi w (fun d' ok => d' = d ∧ ok = true)) := by
  have HO := hide ho
  clear ho
  have HF := hide (fun w1 => fitsI q w1 hm)
  rw [hf] at HF
  clear hf
  have B0 := hide (show Below w.heap.size w ((w.alloc (.cells #[.bool q.num.g, .slice q.num.a q.num.n q.num.c, .bool q.den.g, .slice q.den.a q.den.n q.den.c] 28)).alloc (.cells #[.bool false, .slice none 0 0, .bool false, .slice none 0 0] 28)) from (((Below.refl _ _).alloc (by simp) _).alloc (by simp) _))
  go_enter Tryz.func114, Tryz.ntmps114
  go_wp2_with fail
  refine (unhide HF _).mono ?_
  rintro e w1 ⟨rfl, hb⟩
  have s1 : w.heap.size + 1 < w1.heap.size := by have := hb.size; simp at this; omega
  have k0_0 : w1.cell? ⟨w.heap.size, 0, none⟩ = some (.bool q.num.g) := cell_later hb (by simp [go_sem])
  have k0_1 : w1.cell? ⟨w.heap.size, 1, none⟩ = some (.slice q.num.a q.num.n q.num.c) := cell_later hb (by simp [go_sem])
  have k0_2 : w1.cell? ⟨w.heap.size, 2, none⟩ = some (.bool q.den.g) := cell_later hb (by simp [go_sem])
  have k0_3 : w1.cell? ⟨w.heap.size, 3, none⟩ = some (.slice q.den.a q.den.n q.den.c) := cell_later hb (by simp [go_sem])
  have k1_0 : w1.cell? ⟨w.heap.size + 1, 0, none⟩ = some (.bool false) := cell_later hb (by simp [go_sem])
  have k1_1 : w1.cell? ⟨w.heap.size + 1, 1, none⟩ = some (.slice none 0 0) := cell_later hb (by simp [go_sem])
  have k1_2 : w1.cell? ⟨w.heap.size + 1, 2, none⟩ = some (.bool false) := cell_later hb (by simp [go_sem])
  have k1_3 : w1.cell? ⟨w.heap.size + 1, 3, none⟩ = some (.slice none 0 0) := cell_later hb (by simp [go_sem])
  have z1 : ∀ o, w1.frozen? ⟨w.heap.size + 1, o, none⟩ = false := fun o => frozen_later hb (by simp) (by simp [go_sem])
  have HB := hide (below_on (unhide B0) hb)
  clear hb
  go_wp2
  refine bodyPost_ret (v := .tuple #[.agg #[.bool q.num.g, .slice q.num.a q.num.n q.num.c, .bool q.den.g, .slice q.den.a q.den.n q.den.c], .bool true]) (by simp [results, Tryz.results114, go_sem, k1_0, k1_1, k1_2, k1_3]) rfl ?_
  have bt := metQ_but (w5 := w1) (v := q) (G := w.heap.size + 1)
  exact ⟨q, d, true, rfl, bt.below (unhide HB) (by omega) (unhide HB).size, ((unhide HO).later (unhide HB)).but bt (.inl (by omega)), rfl, rfl⟩

set_option maxHeartbeats 2000000 in
theorem whereQ_no (q : QV) (lo hi : Nat) (w : World) (hm : q.den.n ≤ maxLen) (hf : decide (q.den.n ≠ 0 ∧ q.num.n ≤ 40 ∧ q.den.n ≤ 40) = false) :
    Calls Tryz.prog 114 #[.agg #[.bool q.num.g, .slice q.num.a q.num.n q.num.c, .bool q.den.g, .slice q.den.a q.den.n q.den.c], .func (Fn.func 105) #[] #[]] w (RetQin lo hi w (fun d' ok => d' = (⟨⟨false, []⟩, ⟨false, []⟩⟩ : QD) ∧ ok = false)) := by
  have HF := hide (fun w1 => fitsI q w1 hm)
  rw [hf] at HF
  clear hf
  have B0 := hide (show Below w.heap.size w ((w.alloc (.cells #[.bool q.num.g, .slice q.num.a q.num.n q.num.c, .bool q.den.g, .slice q.den.a q.den.n q.den.c] 28)).alloc (.cells #[.bool false, .slice none 0 0, .bool false, .slice none 0 0] 28)) from (((Below.refl _ _).alloc (by simp) _).alloc (by simp) _))
  go_enter Tryz.func114, Tryz.ntmps114
  go_wp2_with fail
  refine (unhide HF _).mono ?_
  rintro e w1 ⟨rfl, hb⟩
  have s1 : w.heap.size + 1 < w1.heap.size := by have := hb.size; simp at this; omega
  have k1_0 : w1.cell? ⟨w.heap.size + 1, 0, none⟩ = some (.bool false) := cell_later hb (by simp [go_sem])
  have k1_1 : w1.cell? ⟨w.heap.size + 1, 1, none⟩ = some (.slice none 0 0) := cell_later hb (by simp [go_sem])
  have k1_2 : w1.cell? ⟨w.heap.size + 1, 2, none⟩ = some (.bool false) := cell_later hb (by simp [go_sem])
  have k1_3 : w1.cell? ⟨w.heap.size + 1, 3, none⟩ = some (.slice none 0 0) := cell_later hb (by simp [go_sem])
  have z1 : ∀ o, w1.frozen? ⟨w.heap.size + 1, o, none⟩ = false := fun o => frozen_later hb (by simp) (by simp [go_sem])
  have HB := hide (below_on (unhide B0) hb)
  clear hb
  go_upto_region 3 with fail
  have hb : Below w1.heap.size w1 (w1.alloc (.cells #[.bool false, .slice none 0 0, .bool false, .slice none 0 0] 28)) := ((Below.refl _ _).alloc (by simp) _)
  have k2_0 : (w1.alloc (.cells #[.bool false, .slice none 0 0, .bool false, .slice none 0 0] 28)).cell? ⟨w1.heap.size, 0, none⟩ = some (.bool false) := by simp [go_sem]
  have k2_1 : (w1.alloc (.cells #[.bool false, .slice none 0 0, .bool false, .slice none 0 0] 28)).cell? ⟨w1.heap.size, 1, none⟩ = some (.slice none 0 0) := by simp [go_sem]
  have k2_2 : (w1.alloc (.cells #[.bool false, .slice none 0 0, .bool false, .slice none 0 0] 28)).cell? ⟨w1.heap.size, 2, none⟩ = some (.bool false) := by simp [go_sem]
  have k2_3 : (w1.alloc (.cells #[.bool false, .slice none 0 0, .bool false, .slice none 0 0] 28)).cell? ⟨w1.heap.size, 3, none⟩ = some (.slice none 0 0) := by simp [go_sem]
  replace k1_0 : (w1.alloc (.cells #[.bool false, .slice none 0 0, .bool false, .slice none 0 0] 28)).cell? ⟨w.heap.size + 1, 0, none⟩ = some (.bool false) := (ca_other k1_0)
  replace k1_1 : (w1.alloc (.cells #[.bool false, .slice none 0 0, .bool false, .slice none 0 0] 28)).cell? ⟨w.heap.size + 1, 1, none⟩ = some (.slice none 0 0) := (ca_other k1_1)
  replace k1_2 : (w1.alloc (.cells #[.bool false, .slice none 0 0, .bool false, .slice none 0 0] 28)).cell? ⟨w.heap.size + 1, 2, none⟩ = some (.bool false) := (ca_other k1_2)
  replace k1_3 : (w1.alloc (.cells #[.bool false, .slice none 0 0, .bool false, .slice none 0 0] 28)).cell? ⟨w.heap.size + 1, 3, none⟩ = some (.slice none 0 0) := (ca_other k1_3)
  replace z1 : ∀ o, (w1.alloc (.cells #[.bool false, .slice none 0 0, .bool false, .slice none 0 0] 28)).frozen? ⟨w.heap.size + 1, o, none⟩ = false := fun o => frozen_later hb (by omega) (z1 o)
  replace HB := hide (below_on (unhide HB) hb)
  have szw2 := hb.size
  clear hb
  generalize (w1.alloc (.cells #[.bool false, .slice none 0 0, .bool false, .slice none 0 0] 28)) = w2 at *
  go_wp2
  refine bodyPost_ret (v := .tuple #[.agg #[.bool false, .slice none 0 0, .bool false, .slice none 0 0], .bool false]) (by simp [results, Tryz.results114, go_sem, k1_0, k1_1, k1_2, k1_3]) rfl ?_
  have bt := metQ_but (w5 := w2) (v := (⟨⟨false, none, 0, 0⟩, ⟨false, none, 0, 0⟩⟩ : QV)) (G := w.heap.size + 1)
  exact ⟨(⟨⟨false, none, 0, 0⟩, ⟨false, none, 0, 0⟩⟩ : QV), (⟨⟨false, []⟩, ⟨false, []⟩⟩ : QD), false, rfl, bt.below (unhide HB) (by omega) (unhide HB).size, zeroQ _ _ _, rfl, rfl⟩

theorem whereQ (q : QV) (N D : Int) (xs us : List Int) (lo hi : Nat) (w : World) (ho : AllOwn lo hi w [(q.num, (⟨⟨decide (N < 0), xs⟩, ⟨decide (D < 0), us⟩⟩ : QD).num), (q.den, (⟨⟨decide (N < 0), xs⟩, ⟨decide (D < 0), us⟩⟩ : QD).den)]) (hh : hi ≤ w.heap.size) (hm : q.den.n ≤ maxLen) (n1 : Nm xs N.natAbs) (n2 : Nm us D.natAbs) (hD : D ≠ 0) :
    Calls Tryz.prog 114 #[.agg #[.bool q.num.g, .slice q.num.a q.num.n q.num.c, .bool q.den.g, .slice q.den.a q.den.n q.den.c], .func (Fn.func 105) #[] #[]] w (RetQin lo hi w (AnsQ true N D)) := by
  have e1 : xs.length = q.num.n := (ho.own (q.num, ⟨decide (N < 0), xs⟩) (by simp)).len
  have e2 : us.length = q.den.n := (ho.own (q.den, ⟨decide (D < 0), us⟩) (by simp)).len
  have e3 : q.den.n ≠ 0 := fun e => by
    have := n2.nil_iff.1 (List.length_eq_zero_iff.1 (e2.trans e))
    omega
  by_cases hf : q.num.n ≤ 40 ∧ q.den.n ≤ 40
  · refine (whereQ_yes q ⟨⟨decide (N < 0), xs⟩, ⟨decide (D < 0), us⟩⟩ lo hi w ho hh hm (decide_eq_true ⟨e3, hf⟩)).mono ?_
    rintro e w' ⟨v, d, ok, rfl, hb, hv, rfl, rfl⟩
    exact ⟨v, _, _, rfl, hb, hv, .inl ⟨rfl, xs, us, n1, n2, .inl ⟨by omega, by omega, rfl, rfl⟩⟩⟩
  · refine (whereQ_no q lo hi w hm (decide_eq_false (fun h => hf h.2))).mono ?_
    rintro e w' ⟨v, d, ok, rfl, hb, hv, rfl, rfl⟩
    exact ⟨v, _, _, rfl, hb, hv, .inl ⟨rfl, xs, us, n1, n2, .inr ⟨by rw [e1, e2]; exact hf, rfl, rfl⟩⟩⟩

def gQ (d : QD) : Bool := goodR d.num.g d.num.xs d.den.g d.den.xs
def nQ (d : QD) : Int := sv d.num.g d.num.xs
def dQ (d : QD) : Int := sv d.den.g d.den.xs
theorem goodQI (q : QV) (d : QD) (w : World) (h : AllAr w [(q.num, d.num), (q.den, d.den)]) : Calls Tryz.prog 169 #[.agg #[.bool q.num.g, .slice q.num.a q.num.n q.num.c, .bool q.den.g, .slice q.den.a q.den.n q.den.c]] w fun e w' => e = .returned (.bool (gQ d)) ∧ Below w.heap.size w w' := by
  have := goodRI_any ⟨q.num.g, q.num.a, q.num.n, q.num.c, q.den.g, q.den.a, q.den.n, q.den.c⟩ d.num.xs d.den.xs w h.head.ar h.tail.head.ar
  simp only at this
  rw [h.head.sg, h.tail.head.sg] at this
  rw [h.head.sg, h.tail.head.sg]
  exact this
theorem goodQS (q : QV) (d : QD) (w : World) (h : AllAr w [(q.num, d.num), (q.den, d.den)]) : Calls Tryz.prog 174 #[.agg #[.bool q.num.g, .slice q.num.a q.num.n q.num.c, .bool q.den.g, .slice q.den.a q.den.n q.den.c]] w fun e w' => e = .returned (.bool (gQ d)) ∧ Below w.heap.size w w' := by
  have := goodRS_any ⟨q.num.g, q.num.a, q.num.n, q.num.c, q.den.g, q.den.a, q.den.n, q.den.c⟩ d.num.xs d.den.xs w h.head.ar h.tail.head.ar
  simp only at this
  rw [h.head.sg, h.tail.head.sg] at this
  rw [h.head.sg, h.tail.head.sg]
  exact this
/-- A good fraction reads as what it says; its denominator is above 0. -/
structure IsGood (w : World) (q : QV) (d : QD) : Prop where
  is : IsQ w q (nQ d) (dQ d)
  kn : Bd (nQ d) 40
  kd : Bd (dQ d) 40
  pos : 0 < dQ d
  low : Nat.gcd (nQ d).natAbs (dQ d).natAbs = 1
theorem IsGood.later {w w' : World} {q : QV} {d : QD} (h : IsGood w q d) (hb : Below w.heap.size w w') : IsGood w' q d := ⟨h.is.later hb, h.kn, h.kd, h.pos, h.low⟩

set_option maxHeartbeats 4000000 in
theorem fitsQS (q : QV) (N D : Int) (w : World) (h : IsQ w q N D) (hD : 0 < D) :
    Calls Tryz.prog 116 #[.agg #[.bool q.num.g, .slice q.num.a q.num.n q.num.c, .bool q.den.g, .slice q.den.a q.den.n q.den.c]] w (RetQ w (AnsQ true N D)) := by
  obtain ⟨⟨xs, a1, n1⟩, ⟨us, a2, n2⟩⟩ := h
  have X1 := hide a1.ar
  have X2 := hide a2.ar
  have SG : Hid (sU q.num.g (N.natAbs : Int) = N ∧ sU false (D.natAbs : Int) = D) := hide ⟨by rw [a1.sg]; unfold sU; by_cases e : N < 0 <;> simp [e] <;> omega, by unfold sU; simp; omega⟩
  have VV : Hid (N.natAbs = N.natAbs ∧ D.natAbs = D.natAbs) := hide ⟨rfl, rfl⟩
  have LL : Hid (xs.length = q.num.n ∧ us.length = q.den.n) := hide ⟨a1.ar.len, a2.ar.len⟩
  have N1 := hide n1
  have N2 := hide n2
  clear a1 a2 n1 n2
  by_cases hf : q.num.n ≤ 40 ∧ q.den.n ≤ 40
  · have t1 : decide ((40 : Int) < (q.num.n : Int)) = false := by simp; omega
    have t2 : decide ((40 : Int) < (q.den.n : Int)) = false := by simp; omega
    have l1 : q.num.n ≤ 1048576 := by omega
    have l2 : q.den.n ≤ 1048576 := by omega
    have HF := hide hf
    clear hf
    go_enter Tryz.func116, Tryz.ntmps116
    go_upto_region 3 with fail
    have hb : Below w.heap.size w ((w.alloc (.cells #[.bool q.num.g, .slice q.num.a q.num.n q.num.c, .bool q.den.g, .slice q.den.a q.den.n q.den.c] 28)).alloc (.cells #[.bool false, .slice none 0 0, .bool false, .slice none 0 0] 28)) := (((Below.refl _ _).alloc (by simp) _).alloc (by simp) _)
    have k0_0 : ((w.alloc (.cells #[.bool q.num.g, .slice q.num.a q.num.n q.num.c, .bool q.den.g, .slice q.den.a q.den.n q.den.c] 28)).alloc (.cells #[.bool false, .slice none 0 0, .bool false, .slice none 0 0] 28)).cell? ⟨w.heap.size, 0, none⟩ = some (.bool q.num.g) := by simp [go_sem]
    have k0_1 : ((w.alloc (.cells #[.bool q.num.g, .slice q.num.a q.num.n q.num.c, .bool q.den.g, .slice q.den.a q.den.n q.den.c] 28)).alloc (.cells #[.bool false, .slice none 0 0, .bool false, .slice none 0 0] 28)).cell? ⟨w.heap.size, 1, none⟩ = some (.slice q.num.a q.num.n q.num.c) := by simp [go_sem]
    have k0_3 : ((w.alloc (.cells #[.bool q.num.g, .slice q.num.a q.num.n q.num.c, .bool q.den.g, .slice q.den.a q.den.n q.den.c] 28)).alloc (.cells #[.bool false, .slice none 0 0, .bool false, .slice none 0 0] 28)).cell? ⟨w.heap.size, 3, none⟩ = some (.slice q.den.a q.den.n q.den.c) := by simp [go_sem]
    have k1_0 : ((w.alloc (.cells #[.bool q.num.g, .slice q.num.a q.num.n q.num.c, .bool q.den.g, .slice q.den.a q.den.n q.den.c] 28)).alloc (.cells #[.bool false, .slice none 0 0, .bool false, .slice none 0 0] 28)).cell? ⟨w.heap.size + 1, 0, none⟩ = some (.bool false) := by simp [go_sem]
    have k1_1 : ((w.alloc (.cells #[.bool q.num.g, .slice q.num.a q.num.n q.num.c, .bool q.den.g, .slice q.den.a q.den.n q.den.c] 28)).alloc (.cells #[.bool false, .slice none 0 0, .bool false, .slice none 0 0] 28)).cell? ⟨w.heap.size + 1, 1, none⟩ = some (.slice none 0 0) := by simp [go_sem]
    have k1_2 : ((w.alloc (.cells #[.bool q.num.g, .slice q.num.a q.num.n q.num.c, .bool q.den.g, .slice q.den.a q.den.n q.den.c] 28)).alloc (.cells #[.bool false, .slice none 0 0, .bool false, .slice none 0 0] 28)).cell? ⟨w.heap.size + 1, 2, none⟩ = some (.bool false) := by simp [go_sem]
    have k1_3 : ((w.alloc (.cells #[.bool q.num.g, .slice q.num.a q.num.n q.num.c, .bool q.den.g, .slice q.den.a q.den.n q.den.c] 28)).alloc (.cells #[.bool false, .slice none 0 0, .bool false, .slice none 0 0] 28)).cell? ⟨w.heap.size + 1, 3, none⟩ = some (.slice none 0 0) := by simp [go_sem]
    have z1 : ∀ o, ((w.alloc (.cells #[.bool q.num.g, .slice q.num.a q.num.n q.num.c, .bool q.den.g, .slice q.den.a q.den.n q.den.c] 28)).alloc (.cells #[.bool false, .slice none 0 0, .bool false, .slice none 0 0] 28)).frozen? ⟨w.heap.size + 1, o, none⟩ = false := fun o => by simp [go_sem]
    have A1 := hide ((unhide X1).later hb)
    have A2 := hide ((unhide X2).later hb)
    have szw0 : w.heap.size + 2 ≤ ((w.alloc (.cells #[.bool q.num.g, .slice q.num.a q.num.n q.num.c, .bool q.den.g, .slice q.den.a q.den.n q.den.c] 28)).alloc (.cells #[.bool false, .slice none 0 0, .bool false, .slice none 0 0] 28)).heap.size := by simp
    have HB := hide hb
    clear hb
    generalize ((w.alloc (.cells #[.bool q.num.g, .slice q.num.a q.num.n q.num.c, .bool q.den.g, .slice q.den.a q.den.n q.den.c] 28)).alloc (.cells #[.bool false, .slice none 0 0, .bool false, .slice none 0 0] 28)) = w0 at *
    have ne0_1 : w.heap.size ≠ w.heap.size + 1 := by omega
    go_region_held3 (fun w' => w'.cell? ⟨w.heap.size, 0, none⟩ = some (.bool q.num.g) ∧ w'.cell? ⟨w.heap.size, 1, none⟩ = some (.slice q.num.a q.num.n q.num.c) ∧ w'.cell? ⟨w.heap.size, 3, none⟩ = some (.slice q.den.a q.den.n q.den.c)) (with_reducible (first | exact ⟨k0_0, k0_1, k0_3⟩ | exact ⟨cd_other k0_0, cd_other k0_1, cd_other k0_3⟩ | exact ⟨cs_other (cs_other (cs_other (cs_other (k0_0) ne0_1) ne0_1) ne0_1) ne0_1, cs_other (cs_other (cs_other (cs_other (k0_1) ne0_1) ne0_1) ne0_1) ne0_1, cs_other (cs_other (cs_other (cs_other (k0_3) ne0_1) ne0_1) ne0_1) ne0_1⟩ | fail))
      (first
      | (go_at_call_of 193 (Value.bool q.num.g); refine (makeS_v _ q.num.a q.num.n q.num.c xs _ _ ?_ (unhide N1) l1).mono ?_; exact (unhide A1).later (Below.refl _ _).drew; rintro e w1 ⟨x1, rfl, hb, ow1, ar1⟩; have hbx : Below w0.heap.size w0 w1 := below_of_drew hb; have szw1 := hbx.size; replace z1 := fun o => frozen_later hbx (World.block_lt_of_cell? _ _ k1_0) (z1 o); replace k0_0 := cell_later hbx k0_0; replace k0_1 := cell_later hbx k0_1; replace k0_3 := cell_later hbx k0_3; replace k1_0 := cell_later hbx k1_0; replace k1_1 := cell_later hbx k1_1; replace k1_2 := cell_later hbx k1_2; replace k1_3 := cell_later hbx k1_3; replace A1 := hide ((unhide A1).later hbx); replace A2 := hide ((unhide A2).later hbx); have eo := unhide SG; rw [eo.1] at ow1 ar1; replace ow1 : AllOwn w0.heap.size w1.heap.size w1 [(x1, ⟨decide (N < 0), xs⟩)] := ow1; clear ar1 eo; have O1 := hide (ow1); have HBr := hide hbx; clear hbx hb ow1)
      | (go_at_call_of 193 (Value.bool false); refine (makeS_v false q.den.a q.den.n q.den.c us _ _ ?_ (unhide N2) l2).mono ?_; exact (unhide A2).later (Below.refl _ _); rintro e w2 ⟨x2, rfl, hb, ow2, ar2⟩; have hbx : Below w1.heap.size w1 w2 := hb; have szw2 := hbx.size; replace z1 := fun o => frozen_later hbx (World.block_lt_of_cell? _ _ k1_0) (z1 o); replace k0_0 := cell_later hbx k0_0; replace k0_1 := cell_later hbx k0_1; replace k0_3 := cell_later hbx k0_3; replace k1_0 := cell_later hbx k1_0; replace k1_1 := cell_later hbx k1_1; replace k1_2 := cell_later hbx k1_2; replace k1_3 := cell_later hbx k1_3; replace A1 := hide ((unhide A1).later hbx); replace A2 := hide ((unhide A2).later hbx); replace O1 := hide ((unhide O1).later hbx); rw [(unhide SG).2] at ow2; clear ar2; have O2 := hide (ow2); have HBr := hide (below_on (unhide HBr) hbx); clear hbx hb ow2))
    replace HB := hide (below_on (unhide HB) (unhide HBr))
    clear HBr
    have OO := hide (((unhide O1).join (unhide O2) (by omega) (by omega)).wide (lo' := w.heap.size + 1 + 1) (hi' := w2.heap.size) (by omega) (by omega))
    go_wp2
    refine bodyPost_ret (v := .tuple #[.agg #[.bool x1.g, .slice x1.a x1.n x1.c, .bool x2.g, .slice x2.a x2.n x2.c], .bool true]) (by simp [results, Tryz.results116, go_sem, k1_0, k1_1, k1_2, k1_3]) rfl ?_
    exact retQ_fin (v := ⟨x1, x2⟩) (d := ⟨⟨decide (N < 0), xs⟩, ⟨decide (D < 0), us⟩⟩) (R := w.heap.size + 1) (by omega) (unhide HB) (metQ_but (w5 := w2) (v := ⟨x1, x2⟩) (G := w.heap.size + 1)) (unhide OO) (.inl ⟨rfl, xs, us, unhide N1, unhide N2, .inl ⟨(unhide LL).1 ▸ (unhide HF).1, (unhide LL).2 ▸ (unhide HF).2, rfl, rfl⟩⟩)
  by_cases h1 : 40 < q.num.n
  · have t1 : decide ((40 : Int) < (q.num.n : Int)) = true := by simp; omega
    have HF := hide hf
    clear hf
    have HB := hide (show Below w.heap.size w ((w.alloc (.cells #[.bool q.num.g, .slice q.num.a q.num.n q.num.c, .bool q.den.g, .slice q.den.a q.den.n q.den.c] 28)).alloc (.cells #[.bool false, .slice none 0 0, .bool false, .slice none 0 0] 28)) from (((Below.refl _ _).alloc (by simp) _).alloc (by simp) _))
    go_enter Tryz.func116, Tryz.ntmps116
    go_wp2
    refine bodyPost_ret (v := .tuple #[.agg #[.bool false, .slice none 0 0, .bool false, .slice none 0 0], .bool false]) (by simp [results, Tryz.results116, go_sem]) rfl ?_
    exact ⟨(⟨⟨false, none, 0, 0⟩, ⟨false, none, 0, 0⟩⟩ : QV), (⟨⟨false, []⟩, ⟨false, []⟩⟩ : QD), false, rfl, unhide HB, zeroQ _ _ _, .inl ⟨rfl, xs, us, unhide N1, unhide N2, .inr ⟨by rw [(unhide LL).1, (unhide LL).2]; have := unhide HF; omega, rfl, rfl⟩⟩⟩
  · have t1 : decide ((40 : Int) < (q.num.n : Int)) = false := by simp; omega
    have t2 : decide ((40 : Int) < (q.den.n : Int)) = true := by simp; omega
    have HF := hide hf
    clear hf
    have HB := hide (show Below w.heap.size w ((w.alloc (.cells #[.bool q.num.g, .slice q.num.a q.num.n q.num.c, .bool q.den.g, .slice q.den.a q.den.n q.den.c] 28)).alloc (.cells #[.bool false, .slice none 0 0, .bool false, .slice none 0 0] 28)) from (((Below.refl _ _).alloc (by simp) _).alloc (by simp) _))
    go_enter Tryz.func116, Tryz.ntmps116
    go_wp2
    refine bodyPost_ret (v := .tuple #[.agg #[.bool false, .slice none 0 0, .bool false, .slice none 0 0], .bool false]) (by simp [results, Tryz.results116, go_sem]) rfl ?_
    exact ⟨(⟨⟨false, none, 0, 0⟩, ⟨false, none, 0, 0⟩⟩ : QV), (⟨⟨false, []⟩, ⟨false, []⟩⟩ : QD), false, rfl, unhide HB, zeroQ _ _ _, .inl ⟨rfl, xs, us, unhide N1, unhide N2, .inr ⟨by rw [(unhide LL).1, (unhide LL).2]; have := unhide HF; omega, rfl, rfl⟩⟩⟩

end Go.Proofs.YtikllcoekcglcaaGreat
namespace Go.Proofs.YtikllcoekcglcaaGreat
open Go.RowKit
set_option linter.unusedVariables false
set_option maxRecDepth 100000
set_option linter.unusedSimpArgs false

theorem szS_in (v : SV) (left : Int) (w : World) (h0 : 0 ≤ left) (h1 : left ≤ 1048576) (h : (v.lo.num.n : Int) + (v.lo.den.n : Int) + (v.hi.num.n : Int) + (v.hi.den.n : Int) ≤ left) :
    Calls Tryz.prog 81 #[.agg #[.bool v.lo.num.g, .slice v.lo.num.a v.lo.num.n v.lo.num.c, .bool v.lo.den.g, .slice v.lo.den.a v.lo.den.n v.lo.den.c, .bool v.hi.num.g, .slice v.hi.num.a v.hi.num.n v.hi.num.c, .bool v.hi.den.g, .slice v.hi.den.a v.hi.den.n v.hi.den.c], .int .i64 left] w fun e w' => e = .returned (.int .i64 (left - (v.lo.num.n : Int) - (v.lo.den.n : Int) - (v.hi.num.n : Int) - (v.hi.den.n : Int))) ∧ Below w.heap.size w w' := by
  have k1 : ¬ (left - (v.lo.num.n : Int) - (v.lo.den.n : Int) < 0) := by omega
  have k2 : ¬ (left - (v.lo.num.n : Int) - (v.lo.den.n : Int) - (v.hi.num.n : Int) - (v.hi.den.n : Int) < 0) := by omega
  go_enter Tryz.func81, Tryz.ntmps81
  go_wp2_with fail
  refine (szQ_in v.lo left _ h0 h1 (by omega)).mono ?_
  rintro e w1 ⟨rfl, hb1⟩
  have y4 : w1.cell? ⟨w.heap.size, 4, none⟩ = some (.bool v.hi.num.g) := cell_later hb1 (by simp [go_sem])
  have y5 : w1.cell? ⟨w.heap.size, 5, none⟩ = some (.slice v.hi.num.a v.hi.num.n v.hi.num.c) := cell_later hb1 (by simp [go_sem])
  have y6 : w1.cell? ⟨w.heap.size, 6, none⟩ = some (.bool v.hi.den.g) := cell_later hb1 (by simp [go_sem])
  have y7 : w1.cell? ⟨w.heap.size, 7, none⟩ = some (.slice v.hi.den.a v.hi.den.n v.hi.den.c) := cell_later hb1 (by simp [go_sem])
  have HB := hide (ba hb1)
  clear hb1
  go_wp2_with fail
  refine (szQ_in v.hi _ _ (by omega) (by omega) (by omega)).mono ?_
  rintro e w2 ⟨rfl, hb2⟩
  have HB2 := hide (below_on (unhide HB) hb2)
  clear hb2
  go_wp2
  go_ret
  exact ⟨rfl, unhide HB2⟩

theorem szS_out (v : SV) (left : Int) (w : World) (h0 : 0 ≤ left) (h1 : left ≤ 1048576) (hm0 : v.lo.num.n ≤ maxLen) (hm1 : v.lo.den.n ≤ maxLen) (hm2 : v.hi.num.n ≤ maxLen) (hm3 : v.hi.den.n ≤ maxLen) (h : left < (v.lo.num.n : Int) + (v.lo.den.n : Int) + (v.hi.num.n : Int) + (v.hi.den.n : Int)) :
    Calls Tryz.prog 81 #[.agg #[.bool v.lo.num.g, .slice v.lo.num.a v.lo.num.n v.lo.num.c, .bool v.lo.den.g, .slice v.lo.den.a v.lo.den.n v.lo.den.c, .bool v.hi.num.g, .slice v.hi.num.a v.hi.num.n v.hi.num.c, .bool v.hi.den.g, .slice v.hi.den.a v.hi.den.n v.hi.den.c], .int .i64 left] w fun e w' => e = .returned (.int .i64 (-1)) ∧ Below w.heap.size w w' := by
  by_cases hn : left < (v.lo.num.n : Int) + (v.lo.den.n : Int)
  · go_enter Tryz.func81, Tryz.ntmps81
    go_wp2_with fail
    refine (szQ_out v.lo left _ h0 h1 hm0 hm1 hn).mono ?_
    rintro e w1 ⟨rfl, hb1⟩
    have HB := hide (ba hb1)
    clear hb1
    go_wp2
    go_ret
    exact ⟨rfl, unhide HB⟩
  · have k1 : ¬ (left - (v.lo.num.n : Int) - (v.lo.den.n : Int) < 0) := by omega
    go_enter Tryz.func81, Tryz.ntmps81
    go_wp2_with fail
    refine (szQ_in v.lo left _ h0 h1 (by omega)).mono ?_
    rintro e w1 ⟨rfl, hb1⟩
    have y4 : w1.cell? ⟨w.heap.size, 4, none⟩ = some (.bool v.hi.num.g) := cell_later hb1 (by simp [go_sem])
    have y5 : w1.cell? ⟨w.heap.size, 5, none⟩ = some (.slice v.hi.num.a v.hi.num.n v.hi.num.c) := cell_later hb1 (by simp [go_sem])
    have y6 : w1.cell? ⟨w.heap.size, 6, none⟩ = some (.bool v.hi.den.g) := cell_later hb1 (by simp [go_sem])
    have y7 : w1.cell? ⟨w.heap.size, 7, none⟩ = some (.slice v.hi.den.a v.hi.den.n v.hi.den.c) := cell_later hb1 (by simp [go_sem])
    have HB := hide (ba hb1)
    clear hb1
    go_wp2_with fail
    refine (szQ_out v.hi _ _ (by omega) (by omega) hm2 hm3 (by omega)).mono ?_
    rintro e w2 ⟨rfl, hb2⟩
    have HB2 := hide (below_on (unhide HB) hb2)
    clear hb2
    go_wp2
    go_ret
    exact ⟨rfl, unhide HB2⟩

theorem AllSl.Sl {w : World} {v : SV} {d : SD} (h : AllSl w [(v.lo.num, d.lo.num), (v.lo.den, d.lo.den), (v.hi.num, d.hi.num), (v.hi.den, d.hi.den)]) : AllSl w [(v.lo.num, d.lo.num), (v.lo.den, d.lo.den)] := fun p hp => h p (show p ∈ [(v.lo.num, d.lo.num), (v.lo.den, d.lo.den), (v.hi.num, d.hi.num), (v.hi.den, d.hi.den)] from (List.mem_append_left [(v.hi.num, d.hi.num), (v.hi.den, d.hi.den)] hp : p ∈ [(v.lo.num, d.lo.num), (v.lo.den, d.lo.den)] ++ [(v.hi.num, d.hi.num), (v.hi.den, d.hi.den)]))
theorem AllSl.Sr {w : World} {v : SV} {d : SD} (h : AllSl w [(v.lo.num, d.lo.num), (v.lo.den, d.lo.den), (v.hi.num, d.hi.num), (v.hi.den, d.hi.den)]) : AllSl w [(v.hi.num, d.hi.num), (v.hi.den, d.hi.den)] := fun p hp => h p (show p ∈ [(v.lo.num, d.lo.num), (v.lo.den, d.lo.den), (v.hi.num, d.hi.num), (v.hi.den, d.hi.den)] from (List.mem_append_right [(v.lo.num, d.lo.num), (v.lo.den, d.lo.den)] hp : p ∈ [(v.lo.num, d.lo.num), (v.lo.den, d.lo.den)] ++ [(v.hi.num, d.hi.num), (v.hi.den, d.hi.den)]))
theorem AllAr.Sl {w : World} {v : SV} {d : SD} (h : AllAr w [(v.lo.num, d.lo.num), (v.lo.den, d.lo.den), (v.hi.num, d.hi.num), (v.hi.den, d.hi.den)]) : AllAr w [(v.lo.num, d.lo.num), (v.lo.den, d.lo.den)] := fun p hp => h p (show p ∈ [(v.lo.num, d.lo.num), (v.lo.den, d.lo.den), (v.hi.num, d.hi.num), (v.hi.den, d.hi.den)] from (List.mem_append_left [(v.hi.num, d.hi.num), (v.hi.den, d.hi.den)] hp : p ∈ [(v.lo.num, d.lo.num), (v.lo.den, d.lo.den)] ++ [(v.hi.num, d.hi.num), (v.hi.den, d.hi.den)]))
theorem AllAr.Sr {w : World} {v : SV} {d : SD} (h : AllAr w [(v.lo.num, d.lo.num), (v.lo.den, d.lo.den), (v.hi.num, d.hi.num), (v.hi.den, d.hi.den)]) : AllAr w [(v.hi.num, d.hi.num), (v.hi.den, d.hi.den)] := fun p hp => h p (show p ∈ [(v.lo.num, d.lo.num), (v.lo.den, d.lo.den), (v.hi.num, d.hi.num), (v.hi.den, d.hi.den)] from (List.mem_append_right [(v.lo.num, d.lo.num), (v.lo.den, d.lo.den)] hp : p ∈ [(v.lo.num, d.lo.num), (v.lo.den, d.lo.den)] ++ [(v.hi.num, d.hi.num), (v.hi.den, d.hi.den)]))

set_option maxHeartbeats 4000000 in
theorem toS_at (v : SV) (d : SD) (w : World) (h : AllSl w [(v.lo.num, d.lo.num), (v.lo.den, d.lo.den), (v.hi.num, d.hi.num), (v.hi.den, d.hi.den)]) (h1 : v.lo.num.n ≤ 1048576) (h2 : v.lo.den.n ≤ 1048576) (h3 : v.hi.num.n ≤ 1048576) (h4 : v.hi.den.n ≤ 1048576) :
    Calls Tryz.prog 82 #[.agg #[.bool v.lo.num.g, .slice v.lo.num.a v.lo.num.n v.lo.num.c, .bool v.lo.den.g, .slice v.lo.den.a v.lo.den.n v.lo.den.c, .bool v.hi.num.g, .slice v.hi.num.a v.hi.num.n v.hi.num.c, .bool v.hi.den.g, .slice v.hi.den.a v.hi.den.n v.hi.den.c]] w fun e w' => ∃ u : SV, e = .returned (.agg #[.bool u.lo.num.g, .slice u.lo.num.a u.lo.num.n u.lo.num.c, .bool u.lo.den.g, .slice u.lo.den.a u.lo.den.n u.lo.den.c, .bool u.hi.num.g, .slice u.hi.num.a u.hi.num.n u.hi.num.c, .bool u.hi.den.g, .slice u.hi.den.a u.hi.den.n u.hi.den.c]) ∧ Below w.heap.size w w' ∧ (u.lo.num.n = v.lo.num.n ∧ u.lo.den.n = v.lo.den.n ∧ u.hi.num.n = v.hi.num.n ∧ u.hi.den.n = v.hi.den.n) ∧ AllOwn w.heap.size w'.heap.size w' [(u.lo.num, d.lo.num), (u.lo.den, d.lo.den), (u.hi.num, d.hi.num), (u.hi.den, d.hi.den)] ∧ AllAr w' [(u.lo.num, d.lo.num), (u.lo.den, d.lo.den), (u.hi.num, d.hi.num), (u.hi.den, d.hi.den)] := by
  have HX := hide h
  clear h
  have B3 := hide (below_three w (.cells #[.bool v.lo.num.g, .slice v.lo.num.a v.lo.num.n v.lo.num.c, .bool v.lo.den.g, .slice v.lo.den.a v.lo.den.n v.lo.den.c, .bool v.hi.num.g, .slice v.hi.num.a v.hi.num.n v.hi.num.c, .bool v.hi.den.g, .slice v.hi.den.a v.hi.den.n v.hi.den.c] 80) (.cells #[.bool false, .slice none 0 0, .bool false, .slice none 0 0, .bool false, .slice none 0 0, .bool false, .slice none 0 0] 34) (.cells #[.bool false, .slice none 0 0, .bool false, .slice none 0 0, .bool false, .slice none 0 0, .bool false, .slice none 0 0] 34))
  go_enter Tryz.func82, Tryz.ntmps82
  go_wp2_with fail
  refine (toQ_at v.lo d.lo _ ((unhide HX).Sl.later (unhide B3)) h1 h2).mono ?_
  rintro e w1 ⟨u1, rfl, hb1, hn1, ow1, ar1⟩
  have hs1 : w.heap.size + 3 ≤ w1.heap.size := by have := hb1.size; simp at this; omega
  have ow1' : AllOwn (w.heap.size + 3) w1.heap.size w1 [(u1.num, d.lo.num), (u1.den, d.lo.den)] := ow1.wide (by simp) (Nat.le_refl _)
  have B1 : Below w.heap.size w w1 := (unhide B3).trans (hb1.mono (by simp <;> omega))
  have y4 : w1.cell? ⟨w.heap.size, 4, none⟩ = some (.bool v.hi.num.g) := cell_later hb1 (by simp [go_sem])
  have y5 : w1.cell? ⟨w.heap.size, 5, none⟩ = some (.slice v.hi.num.a v.hi.num.n v.hi.num.c) := cell_later hb1 (by simp [go_sem])
  have y6 : w1.cell? ⟨w.heap.size, 6, none⟩ = some (.bool v.hi.den.g) := cell_later hb1 (by simp [go_sem])
  have y7 : w1.cell? ⟨w.heap.size, 7, none⟩ = some (.slice v.hi.den.a v.hi.den.n v.hi.den.c) := cell_later hb1 (by simp [go_sem])
  have q0 : w1.cell? ⟨w.heap.size + 1, 0, none⟩ = some (.bool false) := cell_later hb1 (by simp [go_sem])
  have q1 : w1.cell? ⟨w.heap.size + 1, 1, none⟩ = some (.slice none 0 0) := cell_later hb1 (by simp [go_sem])
  have q2 : w1.cell? ⟨w.heap.size + 1, 2, none⟩ = some (.bool false) := cell_later hb1 (by simp [go_sem])
  have q3 : w1.cell? ⟨w.heap.size + 1, 3, none⟩ = some (.slice none 0 0) := cell_later hb1 (by simp [go_sem])
  have q4 : w1.cell? ⟨w.heap.size + 1, 4, none⟩ = some (.bool false) := cell_later hb1 (by simp [go_sem])
  have q5 : w1.cell? ⟨w.heap.size + 1, 5, none⟩ = some (.slice none 0 0) := cell_later hb1 (by simp [go_sem])
  have q6 : w1.cell? ⟨w.heap.size + 1, 6, none⟩ = some (.bool false) := cell_later hb1 (by simp [go_sem])
  have q7 : w1.cell? ⟨w.heap.size + 1, 7, none⟩ = some (.slice none 0 0) := cell_later hb1 (by simp [go_sem])
  have r0 : w1.cell? ⟨w.heap.size + 1 + 1, 0, none⟩ = some (.bool false) := cell_later hb1 (by simp [go_sem])
  have r1 : w1.cell? ⟨w.heap.size + 1 + 1, 1, none⟩ = some (.slice none 0 0) := cell_later hb1 (by simp [go_sem])
  have r2 : w1.cell? ⟨w.heap.size + 1 + 1, 2, none⟩ = some (.bool false) := cell_later hb1 (by simp [go_sem])
  have r3 : w1.cell? ⟨w.heap.size + 1 + 1, 3, none⟩ = some (.slice none 0 0) := cell_later hb1 (by simp [go_sem])
  have r4 : w1.cell? ⟨w.heap.size + 1 + 1, 4, none⟩ = some (.bool false) := cell_later hb1 (by simp [go_sem])
  have r5 : w1.cell? ⟨w.heap.size + 1 + 1, 5, none⟩ = some (.slice none 0 0) := cell_later hb1 (by simp [go_sem])
  have r6 : w1.cell? ⟨w.heap.size + 1 + 1, 6, none⟩ = some (.bool false) := cell_later hb1 (by simp [go_sem])
  have r7 : w1.cell? ⟨w.heap.size + 1 + 1, 7, none⟩ = some (.slice none 0 0) := cell_later hb1 (by simp [go_sem])
  have f1 : ∀ o, w1.frozen? ⟨w.heap.size + 1, o, none⟩ = false := fun o => frozen_later hb1 (by simp) (by simp [go_sem])
  have f2 : ∀ o, w1.frozen? ⟨w.heap.size + 1 + 1, o, none⟩ = false := fun o => frozen_later hb1 (by simp) (by simp [go_sem])
  have O1 := hide (And.intro ow1' (And.intro ar1 hn1))
  have HB1 := hide B1
  clear ow1 ow1' ar1 hn1 hb1 B1
  go_wp2_with fail
  have B1' : Below w.heap.size w ((((w1.setCell ⟨w.heap.size + 1 + 1, 0, none⟩ (.bool u1.num.g)).setCell ⟨w.heap.size + 1 + 1, 1, none⟩ (.slice u1.num.a u1.num.n u1.num.c)).setCell ⟨w.heap.size + 1 + 1, 2, none⟩ (.bool u1.den.g)).setCell ⟨w.heap.size + 1 + 1, 3, none⟩ (.slice u1.den.a u1.den.n u1.den.c)) := (((((unhide HB1).setCell (by show w.heap.size ≤ w.heap.size + 1 + 1; omega) _).setCell (by show w.heap.size ≤ w.heap.size + 1 + 1; omega) _).setCell (by show w.heap.size ≤ w.heap.size + 1 + 1; omega) _).setCell (by show w.heap.size ≤ w.heap.size + 1 + 1; omega) _)
  refine (toQ_at v.hi d.hi _ ((unhide HX).Sr.later B1') h3 h4).mono ?_
  rintro e w2 ⟨u2, rfl, hb2, hn2, ow2, ar2⟩
  have hsz : ((((w1.setCell ⟨w.heap.size + 1 + 1, 0, none⟩ (.bool u1.num.g)).setCell ⟨w.heap.size + 1 + 1, 1, none⟩ (.slice u1.num.a u1.num.n u1.num.c)).setCell ⟨w.heap.size + 1 + 1, 2, none⟩ (.bool u1.den.g)).setCell ⟨w.heap.size + 1 + 1, 3, none⟩ (.slice u1.den.a u1.den.n u1.den.c)).heap.size = w1.heap.size := by simp [World.setCell]
  have ow2' : AllOwn w1.heap.size w2.heap.size w2 [(u2.num, d.hi.num), (u2.den, d.hi.den)] := ow2.wide (by rw [hsz]; exact Nat.le_refl _) (Nat.le_refl _)
  have bt : But (w.heap.size + 1 + 1) (w.heap.size + 3) w1 ((((w1.setCell ⟨w.heap.size + 1 + 1, 0, none⟩ (.bool u1.num.g)).setCell ⟨w.heap.size + 1 + 1, 1, none⟩ (.slice u1.num.a u1.num.n u1.num.c)).setCell ⟨w.heap.size + 1 + 1, 2, none⟩ (.bool u1.den.g)).setCell ⟨w.heap.size + 1 + 1, 3, none⟩ (.slice u1.den.a u1.den.n u1.den.c)) := (((((But.refl _ _ _).set (p := ⟨w.heap.size + 1 + 1, 0, none⟩) (Nat.le_refl _) (by show w.heap.size + 1 + 1 < w.heap.size + 3; omega) _).set (p := ⟨w.heap.size + 1 + 1, 1, none⟩) (Nat.le_refl _) (by show w.heap.size + 1 + 1 < w.heap.size + 3; omega) _).set (p := ⟨w.heap.size + 1 + 1, 2, none⟩) (Nat.le_refl _) (by show w.heap.size + 1 + 1 < w.heap.size + 3; omega) _).set (p := ⟨w.heap.size + 1 + 1, 3, none⟩) (Nat.le_refl _) (by show w.heap.size + 1 + 1 < w.heap.size + 3; omega) _)
  have ow1 : AllOwn (w.heap.size + 3) w1.heap.size w2 [(u1.num, d.lo.num), (u1.den, d.lo.den)] := ((unhide O1).1.but bt (.inr (Nat.le_refl _))).later hb2
  have ar1 : AllAr w2 [(u1.num, d.lo.num), (u1.den, d.lo.den)] := fun p hp => ⟨((unhide O1).2.1 p hp).sg, ⟨(ow1.sl p hp).sl, ((unhide O1).2.1 p hp).ar.len, ((unhide O1).2.1 p hp).ar.cap, ((unhide O1).2.1 p hp).ar.top, ((unhide O1).2.1 p hp).ar.addr⟩⟩
  have hs2 : w1.heap.size ≤ w2.heap.size := by have := hb2.size; rw [hsz] at this; exact this
  have s0 : w2.cell? ⟨w.heap.size + 1 + 1, 0, none⟩ = some (.bool u1.num.g) := cell_later hb2 (by simp [go_sem, r0, r1, r2, r3, r4, r5, r6, r7])
  have s1 : w2.cell? ⟨w.heap.size + 1 + 1, 1, none⟩ = some (.slice u1.num.a u1.num.n u1.num.c) := cell_later hb2 (by simp [go_sem, r0, r1, r2, r3, r4, r5, r6, r7])
  have s2 : w2.cell? ⟨w.heap.size + 1 + 1, 2, none⟩ = some (.bool u1.den.g) := cell_later hb2 (by simp [go_sem, r0, r1, r2, r3, r4, r5, r6, r7])
  have s3 : w2.cell? ⟨w.heap.size + 1 + 1, 3, none⟩ = some (.slice u1.den.a u1.den.n u1.den.c) := cell_later hb2 (by simp [go_sem, r0, r1, r2, r3, r4, r5, r6, r7])
  have s4 : w2.cell? ⟨w.heap.size + 1 + 1, 4, none⟩ = some (.bool false) := cell_later hb2 (by simp [go_sem, r4])
  have s5 : w2.cell? ⟨w.heap.size + 1 + 1, 5, none⟩ = some (.slice none 0 0) := cell_later hb2 (by simp [go_sem, r5])
  have s6 : w2.cell? ⟨w.heap.size + 1 + 1, 6, none⟩ = some (.bool false) := cell_later hb2 (by simp [go_sem, r6])
  have s7 : w2.cell? ⟨w.heap.size + 1 + 1, 7, none⟩ = some (.slice none 0 0) := cell_later hb2 (by simp [go_sem, r7])
  have t0 : w2.cell? ⟨w.heap.size + 1, 0, none⟩ = some (.bool false) := cell_later hb2 (by simp [go_sem, q0])
  have t1 : w2.cell? ⟨w.heap.size + 1, 1, none⟩ = some (.slice none 0 0) := cell_later hb2 (by simp [go_sem, q1])
  have t2 : w2.cell? ⟨w.heap.size + 1, 2, none⟩ = some (.bool false) := cell_later hb2 (by simp [go_sem, q2])
  have t3 : w2.cell? ⟨w.heap.size + 1, 3, none⟩ = some (.slice none 0 0) := cell_later hb2 (by simp [go_sem, q3])
  have t4 : w2.cell? ⟨w.heap.size + 1, 4, none⟩ = some (.bool false) := cell_later hb2 (by simp [go_sem, q4])
  have t5 : w2.cell? ⟨w.heap.size + 1, 5, none⟩ = some (.slice none 0 0) := cell_later hb2 (by simp [go_sem, q5])
  have t6 : w2.cell? ⟨w.heap.size + 1, 6, none⟩ = some (.bool false) := cell_later hb2 (by simp [go_sem, q6])
  have t7 : w2.cell? ⟨w.heap.size + 1, 7, none⟩ = some (.slice none 0 0) := cell_later hb2 (by simp [go_sem, q7])
  have f3 : ∀ o, w2.frozen? ⟨w.heap.size + 1, o, none⟩ = false := fun o => frozen_later hb2 (by rw [hsz]; omega) (by simp [go_sem, f1])
  have f4 : ∀ o, w2.frozen? ⟨w.heap.size + 1 + 1, o, none⟩ = false := fun o => frozen_later hb2 (by rw [hsz]; omega) (by simp [go_sem, f2])
  have HO := hide (And.intro (ow1.join ow2' hs1 hs2) (And.intro ar1 (And.intro ar2 (And.intro (unhide O1).2.2 hn2))))
  have HB2 := hide (below_on B1' hb2)
  clear ow1 ow2 ow2' ar1 ar2 hn2 hb2 bt B1' y4 y5 y6 y7 q0 r0 q1 r1 q2 r2 q3 r3 q4 r4 q5 r5 q6 r6 q7 r7 f1 f2 O1 HB1 hsz
  go_wp2
  have hlt : (w.heap.size ≤ w.heap.size + 1 + 1) ∧ (w.heap.size ≤ w.heap.size + 1) ∧ (w.heap.size + 1 + 1 < w.heap.size + 3) ∧ (w.heap.size + 1 < w.heap.size + 3) ∧ (w.heap.size + 1 ≤ w.heap.size + 1 + 1) := by omega
  have bt : But (w.heap.size + 1) (w.heap.size + 3) w2 ((((((((((((w2.setCell ⟨w.heap.size + 1 + 1, 4, none⟩ (.bool u2.num.g)).setCell ⟨w.heap.size + 1 + 1, 5, none⟩ (.slice u2.num.a u2.num.n u2.num.c)).setCell ⟨w.heap.size + 1 + 1, 6, none⟩ (.bool u2.den.g)).setCell ⟨w.heap.size + 1 + 1, 7, none⟩ (.slice u2.den.a u2.den.n u2.den.c)).setCell ⟨w.heap.size + 1, 0, none⟩ (.bool u1.num.g)).setCell ⟨w.heap.size + 1, 1, none⟩ (.slice u1.num.a u1.num.n u1.num.c)).setCell ⟨w.heap.size + 1, 2, none⟩ (.bool u1.den.g)).setCell ⟨w.heap.size + 1, 3, none⟩ (.slice u1.den.a u1.den.n u1.den.c)).setCell ⟨w.heap.size + 1, 4, none⟩ (.bool u2.num.g)).setCell ⟨w.heap.size + 1, 5, none⟩ (.slice u2.num.a u2.num.n u2.num.c)).setCell ⟨w.heap.size + 1, 6, none⟩ (.bool u2.den.g)).setCell ⟨w.heap.size + 1, 7, none⟩ (.slice u2.den.a u2.den.n u2.den.c)) := by
    refine ((((((((((((But.refl _ _ _).set (p := ⟨w.heap.size + 1 + 1, 4, none⟩) ?_ ?_ _).set (p := ⟨w.heap.size + 1 + 1, 5, none⟩) ?_ ?_ _).set (p := ⟨w.heap.size + 1 + 1, 6, none⟩) ?_ ?_ _).set (p := ⟨w.heap.size + 1 + 1, 7, none⟩) ?_ ?_ _).set (p := ⟨w.heap.size + 1, 0, none⟩) ?_ ?_ _).set (p := ⟨w.heap.size + 1, 1, none⟩) ?_ ?_ _).set (p := ⟨w.heap.size + 1, 2, none⟩) ?_ ?_ _).set (p := ⟨w.heap.size + 1, 3, none⟩) ?_ ?_ _).set (p := ⟨w.heap.size + 1, 4, none⟩) ?_ ?_ _).set (p := ⟨w.heap.size + 1, 5, none⟩) ?_ ?_ _).set (p := ⟨w.heap.size + 1, 6, none⟩) ?_ ?_ _).set (p := ⟨w.heap.size + 1, 7, none⟩) ?_ ?_ _ <;> first | exact hlt.1 | exact hlt.2.1 | exact hlt.2.2.1 | exact hlt.2.2.2.1 | exact hlt.2.2.2.2 | exact Nat.le_refl _
  refine bodyPost_ret (v := .agg #[.bool u1.num.g, .slice u1.num.a u1.num.n u1.num.c, .bool u1.den.g, .slice u1.den.a u1.den.n u1.den.c, .bool u2.num.g, .slice u2.num.a u2.num.n u2.num.c, .bool u2.den.g, .slice u2.den.a u2.den.n u2.den.c]) (by simp [results, Tryz.results82, go_sem, s0, t0, s1, t1, s2, t2, s3, t3, s4, t4, s5, t5, s6, t6, s7, t7]) rfl ⟨⟨u1, u2⟩, rfl, bt.below (unhide HB2) (Nat.le_succ _) (unhide HB2).size, ?_, ?_, ?_⟩
  · have q := (unhide HO).2.2.2
    exact ⟨q.1.1, q.1.2, q.2.1, q.2.2⟩
  · exact ((unhide HO).1.but bt (.inr (Nat.le_refl _))).wide (by omega) bt.size
  · have oo := ((unhide HO).1.but bt (.inr (Nat.le_refl _))).sl
    have aa := (unhide HO).2.1.append (unhide HO).2.2.1
    exact fun p hp => ⟨(aa p hp).sg, ⟨(oo p hp).sl, (aa p hp).ar.len, (aa p hp).ar.cap, (aa p hp).ar.top, (aa p hp).ar.addr⟩⟩

set_option maxHeartbeats 1000000 in
theorem eqS_at (v v' : SV) (d : SD) (w : World) (h : AllSl w [(v.lo.num, d.lo.num), (v.lo.den, d.lo.den), (v.hi.num, d.hi.num), (v.hi.den, d.hi.den)]) (h' : AllSl w [(v'.lo.num, d.lo.num), (v'.lo.den, d.lo.den), (v'.hi.num, d.hi.num), (v'.hi.den, d.hi.den)]) (hm0 : v.lo.num.n ≤ maxLen) (hm1 : v.lo.den.n ≤ maxLen) (hm2 : v.hi.num.n ≤ maxLen) (hm3 : v.hi.den.n ≤ maxLen) :
    Calls Tryz.prog 72 #[.agg #[.bool v.lo.num.g, .slice v.lo.num.a v.lo.num.n v.lo.num.c, .bool v.lo.den.g, .slice v.lo.den.a v.lo.den.n v.lo.den.c, .bool v.hi.num.g, .slice v.hi.num.a v.hi.num.n v.hi.num.c, .bool v.hi.den.g, .slice v.hi.den.a v.hi.den.n v.hi.den.c], .agg #[.bool v'.lo.num.g, .slice v'.lo.num.a v'.lo.num.n v'.lo.num.c, .bool v'.lo.den.g, .slice v'.lo.den.a v'.lo.den.n v'.lo.den.c, .bool v'.hi.num.g, .slice v'.hi.num.a v'.hi.num.n v'.hi.num.c, .bool v'.hi.den.g, .slice v'.hi.den.a v'.hi.den.n v'.hi.den.c]] w fun e w' => e = .returned (.bool true) ∧ Below w.heap.size w w' := by
  have HX := hide h
  have HX' := hide h'
  clear h h'
  have B2 := hide (below_two w (.cells #[.bool v.lo.num.g, .slice v.lo.num.a v.lo.num.n v.lo.num.c, .bool v.lo.den.g, .slice v.lo.den.a v.lo.den.n v.lo.den.c, .bool v.hi.num.g, .slice v.hi.num.a v.hi.num.n v.hi.num.c, .bool v.hi.den.g, .slice v.hi.den.a v.hi.den.n v.hi.den.c] 34) (.cells #[.bool v'.lo.num.g, .slice v'.lo.num.a v'.lo.num.n v'.lo.num.c, .bool v'.lo.den.g, .slice v'.lo.den.a v'.lo.den.n v'.lo.den.c, .bool v'.hi.num.g, .slice v'.hi.num.a v'.hi.num.n v'.hi.num.c, .bool v'.hi.den.g, .slice v'.hi.den.a v'.hi.den.n v'.hi.den.c] 34))
  go_enter Tryz.func72, Tryz.ntmps72
  go_wp2_with fail
  refine (eqQ_at v.lo v'.lo d.lo _ ((unhide HX).Sl.later (unhide B2)) ((unhide HX').Sl.later (unhide B2)) hm0 hm1).mono ?_
  rintro e w1 ⟨rfl, hb1⟩
  have x4 : w1.cell? ⟨w.heap.size, 4, none⟩ = some (.bool v.hi.num.g) := cell_later hb1 (by simp [go_sem])
  have x5 : w1.cell? ⟨w.heap.size, 5, none⟩ = some (.slice v.hi.num.a v.hi.num.n v.hi.num.c) := cell_later hb1 (by simp [go_sem])
  have x6 : w1.cell? ⟨w.heap.size, 6, none⟩ = some (.bool v.hi.den.g) := cell_later hb1 (by simp [go_sem])
  have x7 : w1.cell? ⟨w.heap.size, 7, none⟩ = some (.slice v.hi.den.a v.hi.den.n v.hi.den.c) := cell_later hb1 (by simp [go_sem])
  have y4 : w1.cell? ⟨w.heap.size + 1, 4, none⟩ = some (.bool v'.hi.num.g) := cell_later hb1 (by simp [go_sem])
  have y5 : w1.cell? ⟨w.heap.size + 1, 5, none⟩ = some (.slice v'.hi.num.a v'.hi.num.n v'.hi.num.c) := cell_later hb1 (by simp [go_sem])
  have y6 : w1.cell? ⟨w.heap.size + 1, 6, none⟩ = some (.bool v'.hi.den.g) := cell_later hb1 (by simp [go_sem])
  have y7 : w1.cell? ⟨w.heap.size + 1, 7, none⟩ = some (.slice v'.hi.den.a v'.hi.den.n v'.hi.den.c) := cell_later hb1 (by simp [go_sem])
  have HB := hide (below_two' hb1)
  clear hb1
  go_wp2_with fail
  refine (eqQ_at v.hi v'.hi d.hi _ ((unhide HX).Sr.later (unhide HB)) ((unhide HX').Sr.later (unhide HB)) hm2 hm3).mono ?_
  rintro e w2 ⟨rfl, hb2⟩
  have HB2 := hide (below_on (unhide HB) hb2)
  clear hb2
  go_wp2
  go_ret
  exact ⟨rfl, unhide HB2⟩

end Go.Proofs.YtikllcoekcglcaaGreat
namespace Go.Proofs.YtikllcoekcglcaaGreat
open Go.RowKit
set_option linter.unusedVariables false
set_option maxRecDepth 100000
set_option linter.unusedSimpArgs false

theorem AllAr.lo {w : World} {v : SV} {d : SD} (h : AllAr w [(v.lo.num, d.lo.num), (v.lo.den, d.lo.den), (v.hi.num, d.hi.num), (v.hi.den, d.hi.den)]) : AllAr w [(v.lo.num, d.lo.num), (v.lo.den, d.lo.den)] := h.Sl
theorem AllAr.hi {w : World} {v : SV} {d : SD} (h : AllAr w [(v.lo.num, d.lo.num), (v.lo.den, d.lo.den), (v.hi.num, d.hi.num), (v.hi.den, d.hi.den)]) : AllAr w [(v.hi.num, d.hi.num), (v.hi.den, d.hi.den)] := h.Sr

structure IsGoodS (w : World) (v : SV) (d : SD) : Prop where
  lo : IsGood w v.lo d.lo
  hi : IsGood w v.hi d.hi
  le : nQ d.lo * dQ d.hi ≤ nQ d.hi * dQ d.lo
theorem IsGoodS.later {w w' : World} {v : SV} {d : SD} (h : IsGoodS w v d) (hb : Below w.heap.size w w') : IsGoodS w' v d := ⟨h.lo.later hb, h.hi.later hb, h.le⟩

end Go.Proofs.YtikllcoekcglcaaGreat
namespace Go.Proofs.YtikllcoekcglcaaGreat
open Go.RowKit
set_option linter.unusedVariables false
set_option maxRecDepth 100000
set_option linter.unusedSimpArgs false

/-- A variable of the law's own: its box at block G, what it leads to at blocks from lo to below hi. -/
structure VarS (wx : World) (G lo hi : Nat) (v : SV) (d : SD) : Prop where
  c0 : wx.cell? ⟨G, 0, none⟩ = some (.bool v.lo.num.g)
  c1 : wx.cell? ⟨G, 1, none⟩ = some (.slice v.lo.num.a v.lo.num.n v.lo.num.c)
  c2 : wx.cell? ⟨G, 2, none⟩ = some (.bool v.lo.den.g)
  c3 : wx.cell? ⟨G, 3, none⟩ = some (.slice v.lo.den.a v.lo.den.n v.lo.den.c)
  c4 : wx.cell? ⟨G, 4, none⟩ = some (.bool v.hi.num.g)
  c5 : wx.cell? ⟨G, 5, none⟩ = some (.slice v.hi.num.a v.hi.num.n v.hi.num.c)
  c6 : wx.cell? ⟨G, 6, none⟩ = some (.bool v.hi.den.g)
  c7 : wx.cell? ⟨G, 7, none⟩ = some (.slice v.hi.den.a v.hi.den.n v.hi.den.c)
  own : AllOwn lo hi wx [(v.lo.num, d.lo.num), (v.lo.den, d.lo.den), (v.hi.num, d.hi.num), (v.hi.den, d.hi.den)]
theorem VarS.later {wx wy : World} {G lo hi : Nat} {v : SV} {d : SD} (h : VarS wx G lo hi v d) (hb : Below wx.heap.size wx wy) : VarS wy G lo hi v d :=
  ⟨cell_later hb h.c0, cell_later hb h.c1, cell_later hb h.c2, cell_later hb h.c3, cell_later hb h.c4, cell_later hb h.c5, cell_later hb h.c6, cell_later hb h.c7, h.own.later hb⟩
theorem VarS.but {wx wy : World} {G lo hi lo' hi' : Nat} {v : SV} {d : SD} (h : VarS wx G lo hi v d) (hb : But lo' hi' wx wy) (hG : G < lo' ∨ hi' ≤ G) (hd : hi ≤ lo' ∨ hi' ≤ lo) : VarS wy G lo hi v d :=
  ⟨hb.cell h.c0 hG, hb.cell h.c1 hG, hb.cell h.c2 hG, hb.cell h.c3 hG, hb.cell h.c4 hG, hb.cell h.c5 hG, hb.cell h.c6 hG, hb.cell h.c7 hG, h.own.but hb hd⟩
theorem VarS.mark {wx wy : World} {G lo hi : Nat} {v : SV} {d d' : SD} (h : VarS wx G lo hi v d) (hb : But lo hi wx wy) (hG : G < lo ∨ hi ≤ G) (ho : AllOwn lo hi wy [(v.lo.num, d'.lo.num), (v.lo.den, d'.lo.den), (v.hi.num, d'.hi.num), (v.hi.den, d'.hi.den)]) : VarS wy G lo hi v d' :=
  ⟨hb.cell h.c0 hG, hb.cell h.c1 hG, hb.cell h.c2 hG, hb.cell h.c3 hG, hb.cell h.c4 hG, hb.cell h.c5 hG, hb.cell h.c6 hG, hb.cell h.c7 hG, ho⟩
theorem VarS.low {wx : World} {G lo hi lo' : Nat} {v : SV} {d : SD} (h : VarS wx G lo hi v d) (hl : lo' ≤ lo) : VarS wx G lo' hi v d := ⟨h.c0, h.c1, h.c2, h.c3, h.c4, h.c5, h.c6, h.c7, h.own.wide hl (Nat.le_refl _)⟩
theorem VarS.start {wx : World} {lo : Nat} {v : SV} {d : SD} (t : TypeId) (h : AllOwn lo wx.heap.size wx [(v.lo.num, d.lo.num), (v.lo.den, d.lo.den), (v.hi.num, d.hi.num), (v.hi.den, d.hi.den)]) : VarS (wx.alloc (.cells #[.bool v.lo.num.g, .slice v.lo.num.a v.lo.num.n v.lo.num.c, .bool v.lo.den.g, .slice v.lo.den.a v.lo.den.n v.lo.den.c, .bool v.hi.num.g, .slice v.hi.num.a v.hi.num.n v.hi.num.c, .bool v.hi.den.g, .slice v.hi.den.a v.hi.den.n v.hi.den.c] t)) wx.heap.size lo wx.heap.size v d :=
  ⟨by simp [go_sem], by simp [go_sem], by simp [go_sem], by simp [go_sem], by simp [go_sem], by simp [go_sem], by simp [go_sem], by simp [go_sem], h.later ((Below.refl _ _).alloc (Nat.le_refl _) _)⟩
theorem VarS.gt {wx : World} {G lo hi : Nat} {v : SV} {d : SD} (h : VarS wx G lo hi v d) : G < wx.heap.size := World.block_lt_of_cell? _ _ h.c0
theorem metS_but {w5 : World} {v : SV} {G : Nat} : But G (G + 1) w5 ((((((((w5.setCell ⟨G, 0, none⟩ (.bool v.lo.num.g)).setCell ⟨G, 1, none⟩ (.slice v.lo.num.a v.lo.num.n v.lo.num.c)).setCell ⟨G, 2, none⟩ (.bool v.lo.den.g)).setCell ⟨G, 3, none⟩ (.slice v.lo.den.a v.lo.den.n v.lo.den.c)).setCell ⟨G, 4, none⟩ (.bool v.hi.num.g)).setCell ⟨G, 5, none⟩ (.slice v.hi.num.a v.hi.num.n v.hi.num.c)).setCell ⟨G, 6, none⟩ (.bool v.hi.den.g)).setCell ⟨G, 7, none⟩ (.slice v.hi.den.a v.hi.den.n v.hi.den.c)) := (((((((((But.refl _ _ _).set (p := ⟨G, 0, none⟩) (Nat.le_refl _) (Nat.lt_succ_self _) _).set (p := ⟨G, 1, none⟩) (Nat.le_refl _) (Nat.lt_succ_self _) _).set (p := ⟨G, 2, none⟩) (Nat.le_refl _) (Nat.lt_succ_self _) _).set (p := ⟨G, 3, none⟩) (Nat.le_refl _) (Nat.lt_succ_self _) _).set (p := ⟨G, 4, none⟩) (Nat.le_refl _) (Nat.lt_succ_self _) _).set (p := ⟨G, 5, none⟩) (Nat.le_refl _) (Nat.lt_succ_self _) _).set (p := ⟨G, 6, none⟩) (Nat.le_refl _) (Nat.lt_succ_self _) _).set (p := ⟨G, 7, none⟩) (Nat.le_refl _) (Nat.lt_succ_self _) _)
end Go.Proofs.YtikllcoekcglcaaGreat
namespace Go.Proofs.YtikllcoekcglcaaGreat
open Go.RowKit
set_option linter.unusedVariables false
set_option maxRecDepth 100000
set_option linter.unusedSimpArgs false

/-- A call answers the span from N / D to N' / D' in memory of its own. -/
def OutS (w : World) (N D N' D' : Int) (e : Ending) (w' : World) : Prop := ∃ (v : SV) (xs us ys vs : List Int), e = .returned (.agg #[.bool v.lo.num.g, .slice v.lo.num.a v.lo.num.n v.lo.num.c, .bool v.lo.den.g, .slice v.lo.den.a v.lo.den.n v.lo.den.c, .bool v.hi.num.g, .slice v.hi.num.a v.hi.num.n v.hi.num.c, .bool v.hi.den.g, .slice v.hi.den.a v.hi.den.n v.hi.den.c]) ∧ Below w.heap.size w w' ∧ AllOwn w.heap.size w'.heap.size w' [(v.lo.num, ⟨decide (N < 0), xs⟩), (v.lo.den, ⟨decide (D < 0), us⟩), (v.hi.num, ⟨decide (N' < 0), ys⟩), (v.hi.den, ⟨decide (D' < 0), vs⟩)] ∧ AllAr w' [(v.lo.num, ⟨decide (N < 0), xs⟩), (v.lo.den, ⟨decide (D < 0), us⟩), (v.hi.num, ⟨decide (N' < 0), ys⟩), (v.hi.den, ⟨decide (D' < 0), vs⟩)] ∧ Nm xs N.natAbs ∧ Nm us D.natAbs ∧ Nm ys N'.natAbs ∧ Nm vs D'.natAbs
theorem outS_fin {w wN W : World} {R : Nat} {v : SV} {xs us ys vs : List Int} {N D N' D' : Int} (hR : w.heap.size ≤ R) (hb : Below w.heap.size w wN) (bt : But R (R + 1) wN W) (ho : AllOwn (R + 1) wN.heap.size wN [(v.lo.num, ⟨decide (N < 0), xs⟩), (v.lo.den, ⟨decide (D < 0), us⟩), (v.hi.num, ⟨decide (N' < 0), ys⟩), (v.hi.den, ⟨decide (D' < 0), vs⟩)]) (ha : AllAr wN [(v.lo.num, ⟨decide (N < 0), xs⟩), (v.lo.den, ⟨decide (D < 0), us⟩), (v.hi.num, ⟨decide (N' < 0), ys⟩), (v.hi.den, ⟨decide (D' < 0), vs⟩)]) (h1 : Nm xs N.natAbs) (h2 : Nm us D.natAbs) (h3 : Nm ys N'.natAbs) (h4 : Nm vs D'.natAbs) : OutS w N D N' D' (.returned (.agg #[.bool v.lo.num.g, .slice v.lo.num.a v.lo.num.n v.lo.num.c, .bool v.lo.den.g, .slice v.lo.den.a v.lo.den.n v.lo.den.c, .bool v.hi.num.g, .slice v.hi.num.a v.hi.num.n v.hi.num.c, .bool v.hi.den.g, .slice v.hi.den.a v.hi.den.n v.hi.den.c])) W :=
  ⟨v, xs, us, ys, vs, rfl, bt.below hb hR hb.size, (own_fin bt ho (Nat.le_refl _)).wide (by omega) bt.size, ar_fin bt ho ha (Nat.le_refl _), h1, h2, h3, h4⟩
end Go.Proofs.YtikllcoekcglcaaGreat
namespace Go.Proofs.YtikllcoekcglcaaGreat
open Go.RowKit
set_option linter.unusedVariables false
set_option maxRecDepth 100000
set_option linter.unusedSimpArgs false

end Go.Proofs.YtikllcoekcglcaaGreat
namespace Go.Proofs.YtikllcoekcglcaaGreat
open Go.RowKit
set_option linter.unusedVariables false
set_option maxRecDepth 100000
set_option linter.unusedSimpArgs false

def AnsS (P : Bool) (N D N' D' : Int) (d : SD) (ok : Bool) : Prop :=
  (P = true ∧ ∃ xs us ys vs, Nm xs N.natAbs ∧ Nm us D.natAbs ∧ Nm ys N'.natAbs ∧ Nm vs D'.natAbs ∧ (((xs.length ≤ 40 ∧ us.length ≤ 40) ∧ (ys.length ≤ 40 ∧ vs.length ≤ 40) ∧ ok = true ∧ d = (⟨⟨⟨decide (N < 0), xs⟩, ⟨decide (D < 0), us⟩⟩, ⟨⟨decide (N' < 0), ys⟩, ⟨decide (D' < 0), vs⟩⟩⟩ : SD)) ∨ (¬ ((xs.length ≤ 40 ∧ us.length ≤ 40) ∧ (ys.length ≤ 40 ∧ vs.length ≤ 40)) ∧ ok = false ∧ d = (⟨⟨⟨false, []⟩, ⟨false, []⟩⟩, ⟨⟨false, []⟩, ⟨false, []⟩⟩⟩ : SD)))) ∨ (P = false ∧ ok = false ∧ d = (⟨⟨⟨false, []⟩, ⟨false, []⟩⟩, ⟨⟨false, []⟩, ⟨false, []⟩⟩⟩ : SD))
theorem AnsS.same {P : Bool} {N D N' D' : Int} {d d' : SD} {ok ok' : Bool} (h : AnsS P N D N' D' d ok) (k : AnsS P N D N' D' d' ok') : d = d' ∧ ok = ok' := by
  rcases h with ⟨p, xs, us, ys, vs, h1, h2, h3, h4, h5⟩ | ⟨p, h1, h2⟩ <;> rcases k with ⟨p', xs', us', ys', vs', k1, k2, k3, k4, k5⟩ | ⟨p', k1, k2⟩
  · obtain rfl := h1.same k1
    obtain rfl := h2.same k2
    obtain rfl := h3.same k3
    obtain rfl := h4.same k4
    rcases h5 with ⟨a, b, c, e⟩ | ⟨a, c, e⟩ <;> rcases k5 with ⟨a', b', c', e'⟩ | ⟨a', c', e'⟩
    · exact ⟨e.trans e'.symm, c.trans c'.symm⟩
    · exact absurd ⟨a, b⟩ a'
    · exact absurd ⟨a', b'⟩ a
    · exact ⟨e.trans e'.symm, c.trans c'.symm⟩
  · rw [p] at p'; cases p'
  · rw [p] at p'; cases p'
  · exact ⟨h2.trans k2.symm, h1.trans k1.symm⟩
theorem AnsS.lens {P : Bool} {N D N' D' : Int} {d : SD} {ok : Bool} (h : AnsS P N D N' D' d ok) : d.lo.num.xs.length ≤ 40 ∧ d.lo.den.xs.length ≤ 40 ∧ d.hi.num.xs.length ≤ 40 ∧ d.hi.den.xs.length ≤ 40 := by
  rcases h with ⟨p, xs, us, ys, vs, h1, h2, h3, h4, ⟨a, b, c, rfl⟩ | ⟨a, c, rfl⟩⟩ | ⟨p, h1, rfl⟩
  · exact ⟨a.1, a.2, b.1, b.2⟩
  · simp
  · simp
end Go.Proofs.YtikllcoekcglcaaGreat
namespace Go.Proofs.YtikllcoekcglcaaGreat
open Go.RowKit
set_option linter.unusedVariables false
set_option maxRecDepth 100000
set_option linter.unusedSimpArgs false

end Go.Proofs.YtikllcoekcglcaaGreat
namespace Go.Proofs.YtikllcoekcglcaaGreat
open Go.RowKit
set_option linter.unusedVariables false
set_option maxRecDepth 100000
set_option linter.unusedSimpArgs false

/-- The boxes of the least and the greatest so far. -/
structure Lst (w wr : World) (G1 G2 : Nat) (q1 q2 : QV) : Prop where
  a0 : wr.cell? ⟨G1, 0, none⟩ = some (.bool q1.num.g)
  a1 : wr.cell? ⟨G1, 1, none⟩ = some (.slice q1.num.a q1.num.n q1.num.c)
  a2 : wr.cell? ⟨G1, 2, none⟩ = some (.bool q1.den.g)
  a3 : wr.cell? ⟨G1, 3, none⟩ = some (.slice q1.den.a q1.den.n q1.den.c)
  b0 : wr.cell? ⟨G2, 0, none⟩ = some (.bool q2.num.g)
  b1 : wr.cell? ⟨G2, 1, none⟩ = some (.slice q2.num.a q2.num.n q2.num.c)
  b2 : wr.cell? ⟨G2, 2, none⟩ = some (.bool q2.den.g)
  b3 : wr.cell? ⟨G2, 3, none⟩ = some (.slice q2.den.a q2.den.n q2.den.c)
  f1 : ∀ o, wr.frozen? ⟨G1, o, none⟩ = false
  f2 : ∀ o, wr.frozen? ⟨G2, o, none⟩ = false
  r0 : wr.cell? ⟨w.heap.size + 1, 0, none⟩ = some (.bool false)
  r1 : wr.cell? ⟨w.heap.size + 1, 1, none⟩ = some (.slice none 0 0)
  r2 : wr.cell? ⟨w.heap.size + 1, 2, none⟩ = some (.bool false)
  r3 : wr.cell? ⟨w.heap.size + 1, 3, none⟩ = some (.slice none 0 0)
  r4 : wr.cell? ⟨w.heap.size + 1, 4, none⟩ = some (.bool false)
  r5 : wr.cell? ⟨w.heap.size + 1, 5, none⟩ = some (.slice none 0 0)
  r6 : wr.cell? ⟨w.heap.size + 1, 6, none⟩ = some (.bool false)
  r7 : wr.cell? ⟨w.heap.size + 1, 7, none⟩ = some (.slice none 0 0)
  fr : ∀ o, wr.frozen? ⟨w.heap.size + 1, o, none⟩ = false
  bel : Below w.heap.size w wr
theorem Lst.later {w wr wy : World} {G1 G2 : Nat} {q1 q2 : QV} (h : Lst w wr G1 G2 q1 q2) (hb : Below wr.heap.size wr wy) : Lst w wy G1 G2 q1 q2 :=
  ⟨cell_later hb h.a0, cell_later hb h.a1, cell_later hb h.a2, cell_later hb h.a3, cell_later hb h.b0, cell_later hb h.b1, cell_later hb h.b2, cell_later hb h.b3, fun o => frozen_later hb (World.block_lt_of_cell? _ _ h.a0) (h.f1 o), fun o => frozen_later hb (World.block_lt_of_cell? _ _ h.b0) (h.f2 o), cell_later hb h.r0, cell_later hb h.r1, cell_later hb h.r2, cell_later hb h.r3, cell_later hb h.r4, cell_later hb h.r5, cell_later hb h.r6, cell_later hb h.r7, fun o => frozen_later hb (World.block_lt_of_cell? _ _ h.r0) (h.fr o), below_on h.bel hb⟩
end Go.Proofs.YtikllcoekcglcaaGreat
namespace Go.Proofs.YtikllcoekcglcaaGreat
open Go.RowKit
set_option linter.unusedVariables false
set_option maxRecDepth 100000
set_option linter.unusedSimpArgs false

/-- In lowest terms, the denominator above 0. -/
structure Low (N D : Int) : Prop where
  pos : 0 < D
  co : Nat.gcd N.natAbs D.natAbs = 1
theorem Low.same {N D N' D' : Int} (h : Low N D) (k : Low N' D') (e : N * D' = N' * D) : N = N' ∧ D = D' := by
  have h1 : D.natAbs ∣ D'.natAbs := by
    have : D.natAbs ∣ N.natAbs * D'.natAbs := by rw [← Int.natAbs_mul, e, Int.natAbs_mul]; exact Nat.dvd_mul_left _ _
    exact Nat.Coprime.dvd_of_dvd_mul_left (by rw [Nat.Coprime, Nat.gcd_comm]; exact h.co) this
  have h2 : D'.natAbs ∣ D.natAbs := by
    have : D'.natAbs ∣ N'.natAbs * D.natAbs := by rw [← Int.natAbs_mul, ← e, Int.natAbs_mul]; exact Nat.dvd_mul_left _ _
    exact Nat.Coprime.dvd_of_dvd_mul_left (by rw [Nat.Coprime, Nat.gcd_comm]; exact k.co) this
  have h3 : D.natAbs = D'.natAbs := Nat.dvd_antisymm h1 h2
  have hp := h.pos
  have kp := k.pos
  have h4 : D = D' := by omega
  subst h4
  exact ⟨Int.eq_of_mul_eq_mul_right (by omega) e, rfl⟩
theorem low_low {N D : Int} (h : D ≠ 0) : Low (lowN N D) (lowD N D) := by
  refine ⟨lowD_pos h, ?_⟩
  have hg := gcd_pos_right (N := N) h
  have e1 : (lowN N D).natAbs = N.natAbs / Nat.gcd N.natAbs D.natAbs := by
    have h1 := lowN_abs N D
    unfold lowU at h1
    rw [← Int.natCast_ediv] at h1
    exact_mod_cast h1
  have e2 : (lowD N D).natAbs = D.natAbs / Nat.gcd N.natAbs D.natAbs := by
    have h1 := lowD_abs N D
    unfold lowD at h1 ⊢
    rw [← Int.natCast_ediv, Int.natAbs_natCast]
  rw [e1, e2]
  exact Nat.gcd_div_gcd_div_gcd_of_pos_right (by omega)
theorem low_cross {N D : Int} (h : 0 < D) : lowN N D * D = N * lowD N D := by
  have hg := gcd_pos_right (N := N) (show D ≠ 0 by omega)
  have d1 : ((Nat.gcd N.natAbs D.natAbs : Nat) : Int) ∣ (N.natAbs : Int) := by exact_mod_cast Nat.gcd_dvd_left _ _
  have d2 : ((Nat.gcd N.natAbs D.natAbs : Nat) : Int) ∣ (D.natAbs : Int) := by exact_mod_cast Nat.gcd_dvd_right _ _
  have m1 := Int.ediv_mul_cancel d1
  have m2 := Int.ediv_mul_cancel d2
  unfold lowN lowD lowU sU
  generalize (N.natAbs : Int) / ((Nat.gcd N.natAbs D.natAbs : Nat) : Int) = a at *
  generalize (D.natAbs : Int) / ((Nat.gcd N.natAbs D.natAbs : Nat) : Int) = b at *
  generalize ((Nat.gcd N.natAbs D.natAbs : Nat) : Int) = g at *
  rw [decide_eq_false (show ¬ D < 0 by omega)]
  have hD : D = b * g := by omega
  by_cases c : N < 0
  · have hN : N = -(a * g) := by omega
    rw [decide_eq_true c, if_pos (by rfl), hN, hD]
    simp only [Int.neg_mul, Int.mul_neg, Int.mul_comm, Int.mul_left_comm]
  · have hN : N = a * g := by omega
    rw [decide_eq_false c, if_neg (by simp), hN, hD]
    simp only [Int.mul_comm, Int.mul_left_comm]
end Go.Proofs.YtikllcoekcglcaaGreat
namespace Go.Proofs.YtikllcoekcglcaaGreat
open Go.RowKit
set_option linter.unusedVariables false
set_option maxRecDepth 100000
set_option linter.unusedSimpArgs false

set_option maxHeartbeats 4000000 in
theorem wholeI (n : Int) (w : World) (h0 : -9223372036854775808 ≤ n) (h1 : n ≤ 9223372036854775807) : Calls Tryz.prog 191 #[.int .i64 n] w (OutQ w n 1) := by
  have B0 := hide (show Below w.heap.size w (w.alloc (.cells #[.bool false, .slice none 0 0, .bool false, .slice none 0 0] 28)) from ((Below.refl _ _).alloc (by simp) _))
  go_enter Tryz.func191, Tryz.ntmps191
  go_wp2_with fail
  refine (ofI_v n _ h0 h1).mono ?_
  rintro e w1 ⟨x1, l1, rfl, hb, o1, a1, n1⟩
  have s1 : w.heap.size + 1 ≤ w1.heap.size := by have := hb.size; simp at this; omega
  replace o1 := o1.wide (lo' := w.heap.size + 1) (by simp) (Nat.le_refl _)
  have k0_0 : w1.cell? ⟨w.heap.size, 0, none⟩ = some (.bool false) := cell_later hb (by simp [go_sem])
  have k0_1 : w1.cell? ⟨w.heap.size, 1, none⟩ = some (.slice none 0 0) := cell_later hb (by simp [go_sem])
  have k0_2 : w1.cell? ⟨w.heap.size, 2, none⟩ = some (.bool false) := cell_later hb (by simp [go_sem])
  have k0_3 : w1.cell? ⟨w.heap.size, 3, none⟩ = some (.slice none 0 0) := cell_later hb (by simp [go_sem])
  have z0 : ∀ o, w1.frozen? ⟨w.heap.size, o, none⟩ = false := fun o => frozen_later hb (by simp) (by simp [go_sem])
  have P1 := hide (outN_ow o1 a1 n1)
  have HB := hide (below_on (unhide B0) hb)
  clear hb
  clear o1 a1 n1
  go_wp2_with fail
  refine (ofI_v 1 _ (by omega) (by omega)).mono ?_
  rintro e w2 ⟨x2, l2, rfl, hb, o2, a2, n2⟩
  have s2 := hb.size
  replace z0 := fun o => frozen_later hb (World.block_lt_of_cell? _ _ k0_0) (z0 o)
  replace k0_0 := cell_later hb k0_0
  replace k0_1 := cell_later hb k0_1
  replace k0_2 := cell_later hb k0_2
  replace k0_3 := cell_later hb k0_3
  replace P1 := hide ((unhide P1).later hb)
  have P2 := hide (outN_ow o2 a2 n2)
  replace HB := hide (below_on (unhide HB) hb)
  clear hb
  clear o2 a2 n2
  go_wp2
  refine bodyPost_ret (v := .agg #[.bool x1.g, .slice x1.a x1.n x1.c, .bool x2.g, .slice x2.a x2.n x2.c]) (by simp [results, Tryz.results191, go_sem, k0_0, k0_1, k0_2, k0_3]) rfl ?_
  obtain ⟨zs, us, oo, aa, m1, m2⟩ := (unhide P1).two (unhide P2) s1 s2
  exact outQ_fin (q := ⟨x1, x2⟩) (R := w.heap.size) (Nat.le_refl _) (unhide HB) (metQ_but (w5 := w2) (v := ⟨x1, x2⟩) (G := w.heap.size)) oo aa m1 m2

set_option maxHeartbeats 4000000 in
theorem wholeS (n : Int) (w : World) (h0 : -9223372036854775808 ≤ n) (h1 : n ≤ 9223372036854775807) : Calls Tryz.prog 151 #[.int .i64 n] w (OutQ w n 1) := by
  have B0 := hide (show Below w.heap.size w (w.alloc (.cells #[.bool false, .slice none 0 0, .bool false, .slice none 0 0] 28)) from ((Below.refl _ _).alloc (by simp) _))
  go_enter Tryz.func151, Tryz.ntmps151
  go_wp2_with fail
  refine (ofS_v n _ h0 h1).mono ?_
  rintro e w1 ⟨x1, l1, rfl, hb, o1, a1, n1⟩
  have s1 : w.heap.size + 1 ≤ w1.heap.size := by have := hb.size; simp at this; omega
  replace o1 := o1.wide (lo' := w.heap.size + 1) (by simp) (Nat.le_refl _)
  have k0_0 : w1.cell? ⟨w.heap.size, 0, none⟩ = some (.bool false) := cell_later hb (by simp [go_sem])
  have k0_1 : w1.cell? ⟨w.heap.size, 1, none⟩ = some (.slice none 0 0) := cell_later hb (by simp [go_sem])
  have k0_2 : w1.cell? ⟨w.heap.size, 2, none⟩ = some (.bool false) := cell_later hb (by simp [go_sem])
  have k0_3 : w1.cell? ⟨w.heap.size, 3, none⟩ = some (.slice none 0 0) := cell_later hb (by simp [go_sem])
  have z0 : ∀ o, w1.frozen? ⟨w.heap.size, o, none⟩ = false := fun o => frozen_later hb (by simp) (by simp [go_sem])
  have P1 := hide (outN_ow o1 a1 n1)
  have HB := hide (below_on (unhide B0) hb)
  clear hb
  clear o1 a1 n1
  go_wp2_with fail
  refine (ofS_v 1 _ (by omega) (by omega)).mono ?_
  rintro e w2 ⟨x2, l2, rfl, hb, o2, a2, n2⟩
  have s2 := hb.size
  replace z0 := fun o => frozen_later hb (World.block_lt_of_cell? _ _ k0_0) (z0 o)
  replace k0_0 := cell_later hb k0_0
  replace k0_1 := cell_later hb k0_1
  replace k0_2 := cell_later hb k0_2
  replace k0_3 := cell_later hb k0_3
  replace P1 := hide ((unhide P1).later hb)
  have P2 := hide (outN_ow o2 a2 n2)
  replace HB := hide (below_on (unhide HB) hb)
  clear hb
  clear o2 a2 n2
  go_wp2
  refine bodyPost_ret (v := .agg #[.bool x1.g, .slice x1.a x1.n x1.c, .bool x2.g, .slice x2.a x2.n x2.c]) (by simp [results, Tryz.results151, go_sem, k0_0, k0_1, k0_2, k0_3]) rfl ?_
  obtain ⟨zs, us, oo, aa, m1, m2⟩ := (unhide P1).two (unhide P2) s1 s2
  exact outQ_fin (q := ⟨x1, x2⟩) (R := w.heap.size) (Nat.le_refl _) (unhide HB) (metQ_but (w5 := w2) (v := ⟨x1, x2⟩) (G := w.heap.size)) oo aa m1 m2

/-- Whether a span has 0 within, as the program asks. -/
def hN (d : SD) : Bool := (d.lo.num.g || decide (d.lo.num.xs.length = 0)) && !d.hi.num.g
/-- A good number is below 0 where its sign says so, 0 without limbs. -/
theorem goodB_neg {g : Bool} {xs : List Int} (h : goodB g xs = true) : (sv g xs < 0 ↔ g = true) ∧ (sv g xs = 0 ↔ xs.length = 0) := by
  obtain ⟨h1, h2, h3, h4⟩ := good_parts h
  have hv := val_nonneg h1
  have hz := val_zero_iff h1 h2
  have hl : xs = [] ↔ xs.length = 0 := List.length_eq_zero_iff.symm
  unfold sv
  cases g
  · rw [if_neg (by simp)]
    exact ⟨⟨fun e => by omega, fun e => by cases e⟩, hz.trans hl⟩
  · rw [if_pos rfl]
    have h5 : xs ≠ [] := fun e => by cases h4 e
    have h6 : val xs ≠ 0 := fun e => h5 (hz.1 e)
    exact ⟨⟨fun _ => rfl, fun _ => by omega⟩, ⟨fun e => by omega, fun e => absurd (hl.2 e) h5⟩⟩
end Go.Proofs.YtikllcoekcglcaaGreat
