/- AddRat, SubRat, MulRat and DivRat: the program's and the specification's, at every two fractions. No condition beyond those typed. Written by mkrq17.py. -/
import Derived.Test.YtdgonpbponnnaaaGreatDoorRatF
namespace Go.Proofs.YtdgonpbponnnaaaGreatDoor
open Go.RowKit
set_option linter.unusedVariables false
set_option maxRecDepth 100000
set_option linter.unusedSimpArgs false

namespace Aq
/-- Numbers in memory of the call's own that may stand as arguments. -/
structure AllOA (lo hi : Nat) (w : World) (l : List (BV × BD)) : Prop extends AllOwn lo hi w l where
  ar : AllAr w l
theorem AllOA.later {lo hi : Nat} {w w' : World} {l : List (BV × BD)} (h : AllOA lo hi w l) (hb : Below w.heap.size w w') : AllOA lo hi w' l := ⟨h.toAllOwn.later hb, h.ar.later hb⟩
theorem AllOA.wide {lo hi lo' hi' : Nat} {w : World} {l : List (BV × BD)} (h : AllOA lo hi w l) (h1 : lo' ≤ lo) (h2 : hi ≤ hi') : AllOA lo' hi' w l := ⟨h.toAllOwn.wide h1 h2, h.ar⟩
theorem AllOA.but {lo hi lo' hi' : Nat} {w w' : World} {l : List (BV × BD)} (h : AllOA lo hi w l) (bt : But lo' hi' w w') (hd : hi ≤ lo' ∨ hi' ≤ lo) : AllOA lo hi w' l :=
  ⟨h.toAllOwn.but bt hd, fun p hp => ⟨(h.ar p hp).sg, ⟨((h.toAllOwn.but bt hd).sl p hp).sl, (h.ar p hp).ar.len, (h.ar p hp).ar.cap, (h.ar p hp).ar.top, (h.ar p hp).ar.addr⟩⟩⟩
theorem AllOA.join {lo mid hi : Nat} {w : World} {l m : List (BV × BD)} (h : AllOA lo mid w l) (k : AllOA mid hi w m) (h1 : lo ≤ mid) (h2 : mid ≤ hi) : AllOA lo hi w (l ++ m) := ⟨h.toAllOwn.join k.toAllOwn h1 h2, h.ar.append k.ar⟩
theorem own_finA {lo hi R : Nat} {wN W : World} {l : List (BV × BD)} (bt : But R (R + 1) wN W) (ho : AllOA lo hi wN l) (hR : R + 1 ≤ lo) : AllOA lo hi W l := ho.but bt (.inr hR)
theorem ar_none (w : World) : ArB w ⟨false, none, 0, 0⟩ ⟨false, []⟩ := ⟨rfl, Arg.none w⟩
/-- A call answers a fraction and whether: what it leads to is its own. -/
def RetQ (w : World) (U : QD → Bool → Prop) (e : Ending) (w' : World) : Prop := ∃ (v : QV) (d : QD) (ok : Bool), e = .returned (.tuple #[.agg #[.bool v.num.g, .slice v.num.a v.num.n v.num.c, .bool v.den.g, .slice v.den.a v.den.n v.den.c], .bool ok]) ∧ Below w.heap.size w w' ∧ AllOA w.heap.size w'.heap.size w' [(v.num, d.num), (v.den, d.den)] ∧ U d ok
def RetQin (lo hi : Nat) (w : World) (U : QD → Bool → Prop) (e : Ending) (w' : World) : Prop := ∃ (v : QV) (d : QD) (ok : Bool), e = .returned (.tuple #[.agg #[.bool v.num.g, .slice v.num.a v.num.n v.num.c, .bool v.den.g, .slice v.den.a v.den.n v.den.c], .bool ok]) ∧ Below w.heap.size w w' ∧ AllOA lo hi w' [(v.num, d.num), (v.den, d.den)] ∧ U d ok
theorem zeroQ (lo hi : Nat) (w : World) : AllOA lo hi w [((⟨⟨false, none, 0, 0⟩, ⟨false, none, 0, 0⟩⟩ : QV).num, (⟨⟨false, []⟩, ⟨false, []⟩⟩ : QD).num), ((⟨⟨false, none, 0, 0⟩, ⟨false, none, 0, 0⟩⟩ : QV).den, (⟨⟨false, []⟩, ⟨false, []⟩⟩ : QD).den)] := ⟨Go.Proofs.YtdgonpbponnnaaaGreatDoor.zeroQ lo hi w, AllAr.cons (ar_none w) (AllAr.cons (ar_none w) (AllAr.nil _))⟩
theorem retQ_fin {w wN W : World} {R : Nat} {v : QV} {d : QD} {ok : Bool} {U : QD → Bool → Prop} (hR : w.heap.size ≤ R) (hb : Below w.heap.size w wN) (bt : But R (R + 1) wN W)
    (ho : AllOA (R + 1) wN.heap.size wN [(v.num, d.num), (v.den, d.den)]) (hu : U d ok) : RetQ w U (.returned (.tuple #[.agg #[.bool v.num.g, .slice v.num.a v.num.n v.num.c, .bool v.den.g, .slice v.den.a v.den.n v.den.c], .bool ok])) W :=
  ⟨v, d, ok, rfl, bt.below hb hR hb.size, (own_finA bt ho (Nat.le_refl _)).wide (by omega) bt.size, hu⟩


set_option maxHeartbeats 2000000 in
theorem whereQ_yes (q : QV) (d : QD) (lo hi : Nat) (w : World) (ho : AllOA lo hi w [(q.num, d.num), (q.den, d.den)]) (hh : hi ≤ w.heap.size) (hm : q.den.n ≤ maxLen) (hf : decide (q.den.n ≠ 0 ∧ q.num.n ≤ 40 ∧ q.den.n ≤ 40) = true) :
    Calls Tryz.prog 63 #[.agg #[.bool q.num.g, .slice q.num.a q.num.n q.num.c, .bool q.den.g, .slice q.den.a q.den.n q.den.c], .func (Fn.func 27) #[] #[]] w (RetQin lo hi w (fun d' ok => d' = d ∧ ok = true)) := by
  have HO := hide ho
  clear ho
  have HF := hide (fun w1 => fitsI q w1 hm)
  rw [hf] at HF
  clear hf
  have B0 := hide (show Below w.heap.size w ((w.alloc (.cells #[.bool q.num.g, .slice q.num.a q.num.n q.num.c, .bool q.den.g, .slice q.den.a q.den.n q.den.c] 27)).alloc (.cells #[.bool false, .slice none 0 0, .bool false, .slice none 0 0] 27)) from (((Below.refl _ _).alloc (by simp) _).alloc (by simp) _))
  go_enter Tryz.func63, Tryz.ntmps63
  go_wp2_with fail
  refine (unhide HF _).mono ?_
  rintro e w1 ⟨rfl, hb⟩
  have s1 : w.heap.size + 1 < w1.heap.size := by have := hb.size; simp at this; omega
  have k0_0 : w1.cell? ⟨w.heap.size, 0, none⟩ = some (.bool q.num.g) := cell_later hb (by simp [go_sem])
  have k0_1 : w1.cell? ⟨w.heap.size, 1, none⟩ = some (.slice q.num.a q.num.n q.num.c) := cell_later hb (by simp [go_sem])
  have k0_2 : w1.cell? ⟨w.heap.size, 2, none⟩ = some (.bool q.den.g) := cell_later hb (by simp [go_sem])
  have k0_3 : w1.cell? ⟨w.heap.size, 3, none⟩ = some (.slice q.den.a q.den.n q.den.c) := cell_later hb (by simp [go_sem])
  have k1_0 : w1.cell? ⟨w.heap.size + 1, 0, none⟩ = some (.bool false) := cell_later hb (by simp [go_sem])
  have k1_1 : w1.cell? ⟨w.heap.size + 1, 1, none⟩ = some (.slice none 0 0) := cell_later hb (by simp [go_sem])
  have k1_2 : w1.cell? ⟨w.heap.size + 1, 2, none⟩ = some (.bool false) := cell_later hb (by simp [go_sem])
  have k1_3 : w1.cell? ⟨w.heap.size + 1, 3, none⟩ = some (.slice none 0 0) := cell_later hb (by simp [go_sem])
  have z1 : ∀ o, w1.frozen? ⟨w.heap.size + 1, o, none⟩ = false := fun o => frozen_later hb (by simp) (by simp [go_sem])
  have HB := hide (below_on (unhide B0) hb)
  clear hb
  go_wp2
  refine bodyPost_ret (v := .tuple #[.agg #[.bool q.num.g, .slice q.num.a q.num.n q.num.c, .bool q.den.g, .slice q.den.a q.den.n q.den.c], .bool true]) (by simp [results, Tryz.results63, go_sem, k1_0, k1_1, k1_2, k1_3]) rfl ?_
  have bt := metQ_but (w5 := w1) (v := q) (G := w.heap.size + 1)
  exact ⟨q, d, true, rfl, bt.below (unhide HB) (by omega) (unhide HB).size, ((unhide HO).later (unhide HB)).but bt (.inl (by omega)), rfl, rfl⟩

set_option maxHeartbeats 2000000 in
theorem whereQ_no (q : QV) (lo hi : Nat) (w : World) (hm : q.den.n ≤ maxLen) (hf : decide (q.den.n ≠ 0 ∧ q.num.n ≤ 40 ∧ q.den.n ≤ 40) = false) :
    Calls Tryz.prog 63 #[.agg #[.bool q.num.g, .slice q.num.a q.num.n q.num.c, .bool q.den.g, .slice q.den.a q.den.n q.den.c], .func (Fn.func 27) #[] #[]] w (RetQin lo hi w (fun d' ok => d' = (⟨⟨false, []⟩, ⟨false, []⟩⟩ : QD) ∧ ok = false)) := by
  have HF := hide (fun w1 => fitsI q w1 hm)
  rw [hf] at HF
  clear hf
  have B0 := hide (show Below w.heap.size w ((w.alloc (.cells #[.bool q.num.g, .slice q.num.a q.num.n q.num.c, .bool q.den.g, .slice q.den.a q.den.n q.den.c] 27)).alloc (.cells #[.bool false, .slice none 0 0, .bool false, .slice none 0 0] 27)) from (((Below.refl _ _).alloc (by simp) _).alloc (by simp) _))
  go_enter Tryz.func63, Tryz.ntmps63
  go_wp2_with fail
  refine (unhide HF _).mono ?_
  rintro e w1 ⟨rfl, hb⟩
  have s1 : w.heap.size + 1 < w1.heap.size := by have := hb.size; simp at this; omega
  have k1_0 : w1.cell? ⟨w.heap.size + 1, 0, none⟩ = some (.bool false) := cell_later hb (by simp [go_sem])
  have k1_1 : w1.cell? ⟨w.heap.size + 1, 1, none⟩ = some (.slice none 0 0) := cell_later hb (by simp [go_sem])
  have k1_2 : w1.cell? ⟨w.heap.size + 1, 2, none⟩ = some (.bool false) := cell_later hb (by simp [go_sem])
  have k1_3 : w1.cell? ⟨w.heap.size + 1, 3, none⟩ = some (.slice none 0 0) := cell_later hb (by simp [go_sem])
  have z1 : ∀ o, w1.frozen? ⟨w.heap.size + 1, o, none⟩ = false := fun o => frozen_later hb (by simp) (by simp [go_sem])
  have HB := hide (below_on (unhide B0) hb)
  clear hb
  go_upto_region 3 with fail
  have hb : Below w1.heap.size w1 (w1.alloc (.cells #[.bool false, .slice none 0 0, .bool false, .slice none 0 0] 27)) := ((Below.refl _ _).alloc (by simp) _)
  have k2_0 : (w1.alloc (.cells #[.bool false, .slice none 0 0, .bool false, .slice none 0 0] 27)).cell? ⟨w1.heap.size, 0, none⟩ = some (.bool false) := by simp [go_sem]
  have k2_1 : (w1.alloc (.cells #[.bool false, .slice none 0 0, .bool false, .slice none 0 0] 27)).cell? ⟨w1.heap.size, 1, none⟩ = some (.slice none 0 0) := by simp [go_sem]
  have k2_2 : (w1.alloc (.cells #[.bool false, .slice none 0 0, .bool false, .slice none 0 0] 27)).cell? ⟨w1.heap.size, 2, none⟩ = some (.bool false) := by simp [go_sem]
  have k2_3 : (w1.alloc (.cells #[.bool false, .slice none 0 0, .bool false, .slice none 0 0] 27)).cell? ⟨w1.heap.size, 3, none⟩ = some (.slice none 0 0) := by simp [go_sem]
  replace k1_0 : (w1.alloc (.cells #[.bool false, .slice none 0 0, .bool false, .slice none 0 0] 27)).cell? ⟨w.heap.size + 1, 0, none⟩ = some (.bool false) := (ca_other k1_0)
  replace k1_1 : (w1.alloc (.cells #[.bool false, .slice none 0 0, .bool false, .slice none 0 0] 27)).cell? ⟨w.heap.size + 1, 1, none⟩ = some (.slice none 0 0) := (ca_other k1_1)
  replace k1_2 : (w1.alloc (.cells #[.bool false, .slice none 0 0, .bool false, .slice none 0 0] 27)).cell? ⟨w.heap.size + 1, 2, none⟩ = some (.bool false) := (ca_other k1_2)
  replace k1_3 : (w1.alloc (.cells #[.bool false, .slice none 0 0, .bool false, .slice none 0 0] 27)).cell? ⟨w.heap.size + 1, 3, none⟩ = some (.slice none 0 0) := (ca_other k1_3)
  replace z1 : ∀ o, (w1.alloc (.cells #[.bool false, .slice none 0 0, .bool false, .slice none 0 0] 27)).frozen? ⟨w.heap.size + 1, o, none⟩ = false := fun o => frozen_later hb (by omega) (z1 o)
  replace HB := hide (below_on (unhide HB) hb)
  have szw2 := hb.size
  clear hb
  generalize (w1.alloc (.cells #[.bool false, .slice none 0 0, .bool false, .slice none 0 0] 27)) = w2 at *
  go_wp2
  refine bodyPost_ret (v := .tuple #[.agg #[.bool false, .slice none 0 0, .bool false, .slice none 0 0], .bool false]) (by simp [results, Tryz.results63, go_sem, k1_0, k1_1, k1_2, k1_3]) rfl ?_
  have bt := metQ_but (w5 := w2) (v := (⟨⟨false, none, 0, 0⟩, ⟨false, none, 0, 0⟩⟩ : QV)) (G := w.heap.size + 1)
  exact ⟨(⟨⟨false, none, 0, 0⟩, ⟨false, none, 0, 0⟩⟩ : QV), (⟨⟨false, []⟩, ⟨false, []⟩⟩ : QD), false, rfl, bt.below (unhide HB) (by omega) (unhide HB).size, zeroQ _ _ _, rfl, rfl⟩

theorem whereQ (q : QV) (N D : Int) (xs us : List Int) (lo hi : Nat) (w : World) (ho : AllOA lo hi w [(q.num, (⟨⟨decide (N < 0), xs⟩, ⟨decide (D < 0), us⟩⟩ : QD).num), (q.den, (⟨⟨decide (N < 0), xs⟩, ⟨decide (D < 0), us⟩⟩ : QD).den)]) (hh : hi ≤ w.heap.size) (hm : q.den.n ≤ maxLen) (n1 : Nm xs N.natAbs) (n2 : Nm us D.natAbs) (hD : D ≠ 0) :
    Calls Tryz.prog 63 #[.agg #[.bool q.num.g, .slice q.num.a q.num.n q.num.c, .bool q.den.g, .slice q.den.a q.den.n q.den.c], .func (Fn.func 27) #[] #[]] w (RetQin lo hi w (AnsQ true N D)) := by
  have e1 : xs.length = q.num.n := (ho.own (q.num, ⟨decide (N < 0), xs⟩) (by simp)).len
  have e2 : us.length = q.den.n := (ho.own (q.den, ⟨decide (D < 0), us⟩) (by simp)).len
  have e3 : q.den.n ≠ 0 := fun e => by
    have := n2.nil_iff.1 (List.length_eq_zero_iff.1 (e2.trans e))
    omega
  by_cases hf : q.num.n ≤ 40 ∧ q.den.n ≤ 40
  · refine (whereQ_yes q ⟨⟨decide (N < 0), xs⟩, ⟨decide (D < 0), us⟩⟩ lo hi w ho hh hm (decide_eq_true ⟨e3, hf⟩)).mono ?_
    rintro e w' ⟨v, d, ok, rfl, hb, hv, rfl, rfl⟩
    exact ⟨v, _, _, rfl, hb, hv, .inl ⟨rfl, xs, us, n1, n2, .inl ⟨by omega, by omega, rfl, rfl⟩⟩⟩
  · refine (whereQ_no q lo hi w hm (decide_eq_false (fun h => hf h.2))).mono ?_
    rintro e w' ⟨v, d, ok, rfl, hb, hv, rfl, rfl⟩
    exact ⟨v, _, _, rfl, hb, hv, .inl ⟨rfl, xs, us, n1, n2, .inr ⟨by rw [e1, e2]; exact hf, rfl, rfl⟩⟩⟩

set_option maxHeartbeats 4000000 in
theorem ofAddQ (q q' : QV) (d d' : QD) (w : World) (h : AllAr w [(q.num, d.num), (q.den, d.den)]) (h' : AllAr w [(q'.num, d'.num), (q'.den, d'.den)]) :
    Calls Tryz.prog 25 #[.agg #[.bool q.num.g, .slice q.num.a q.num.n q.num.c, .bool q.den.g, .slice q.den.a q.den.n q.den.c], .agg #[.bool q'.num.g, .slice q'.num.a q'.num.n q'.num.c, .bool q'.den.g, .slice q'.den.a q'.den.n q'.den.c], .func (Fn.func 26) #[] #[], .func (Fn.func 27) #[] #[]] w (RetQ w (AnsQ (gQ d && gQ d') (lowN (nQ d * dQ d' + nQ d' * dQ d) (dQ d * dQ d')) (lowD (nQ d * dQ d' + nQ d' * dQ d) (dQ d * dQ d')))) := by
  have H1 := hide h
  have H2 := hide h'
  clear h h'
  cases hg1 : gQ d
  · have G1 := hide (fun w1 (k : AllAr w1 [(q.num, d.num), (q.den, d.den)]) => goodQI q d w1 k)
    rw [hg1] at G1
    rw [Bool.false_and]
    clear hg1
    have B0 := hide (show Below w.heap.size w (((w.alloc (.cells #[.bool q.num.g, .slice q.num.a q.num.n q.num.c, .bool q.den.g, .slice q.den.a q.den.n q.den.c] 27)).alloc (.cells #[.bool q'.num.g, .slice q'.num.a q'.num.n q'.num.c, .bool q'.den.g, .slice q'.den.a q'.den.n q'.den.c] 27)).alloc (.cells #[.bool false, .slice none 0 0, .bool false, .slice none 0 0] 27)) from ((((Below.refl _ _).alloc (by simp) _).alloc (by simp) _).alloc (by simp <;> omega) _))
    go_enter Tryz.func25, Tryz.ntmps25
    go_wp2_with fail
    refine (unhide G1 _ ((unhide H1).later (unhide B0))).mono ?_
    rintro e w1 ⟨rfl, hb⟩
    have s1 : w.heap.size + 1 + 1 < w1.heap.size := by have := hb.size; simp at this; omega
    have k2_0 : w1.cell? ⟨w.heap.size + 1 + 1, 0, none⟩ = some (.bool false) := cell_later hb (by simp [go_sem])
    have k2_1 : w1.cell? ⟨w.heap.size + 1 + 1, 1, none⟩ = some (.slice none 0 0) := cell_later hb (by simp [go_sem])
    have k2_2 : w1.cell? ⟨w.heap.size + 1 + 1, 2, none⟩ = some (.bool false) := cell_later hb (by simp [go_sem])
    have k2_3 : w1.cell? ⟨w.heap.size + 1 + 1, 3, none⟩ = some (.slice none 0 0) := cell_later hb (by simp [go_sem])
    have z2 : ∀ o, w1.frozen? ⟨w.heap.size + 1 + 1, o, none⟩ = false := fun o => frozen_later hb (by simp) (by simp [go_sem])
    have HB := hide (below_on (unhide B0) hb)
    clear hb
    go_upto_region 3 with fail
    have hb : Below w1.heap.size w1 (w1.alloc (.cells #[.bool false, .slice none 0 0, .bool false, .slice none 0 0] 27)) := ((Below.refl _ _).alloc (by simp) _)
    have k3_0 : (w1.alloc (.cells #[.bool false, .slice none 0 0, .bool false, .slice none 0 0] 27)).cell? ⟨w1.heap.size, 0, none⟩ = some (.bool false) := by simp [go_sem]
    have k3_1 : (w1.alloc (.cells #[.bool false, .slice none 0 0, .bool false, .slice none 0 0] 27)).cell? ⟨w1.heap.size, 1, none⟩ = some (.slice none 0 0) := by simp [go_sem]
    have k3_2 : (w1.alloc (.cells #[.bool false, .slice none 0 0, .bool false, .slice none 0 0] 27)).cell? ⟨w1.heap.size, 2, none⟩ = some (.bool false) := by simp [go_sem]
    have k3_3 : (w1.alloc (.cells #[.bool false, .slice none 0 0, .bool false, .slice none 0 0] 27)).cell? ⟨w1.heap.size, 3, none⟩ = some (.slice none 0 0) := by simp [go_sem]
    replace k2_0 : (w1.alloc (.cells #[.bool false, .slice none 0 0, .bool false, .slice none 0 0] 27)).cell? ⟨w.heap.size + 1 + 1, 0, none⟩ = some (.bool false) := (ca_other k2_0)
    replace k2_1 : (w1.alloc (.cells #[.bool false, .slice none 0 0, .bool false, .slice none 0 0] 27)).cell? ⟨w.heap.size + 1 + 1, 1, none⟩ = some (.slice none 0 0) := (ca_other k2_1)
    replace k2_2 : (w1.alloc (.cells #[.bool false, .slice none 0 0, .bool false, .slice none 0 0] 27)).cell? ⟨w.heap.size + 1 + 1, 2, none⟩ = some (.bool false) := (ca_other k2_2)
    replace k2_3 : (w1.alloc (.cells #[.bool false, .slice none 0 0, .bool false, .slice none 0 0] 27)).cell? ⟨w.heap.size + 1 + 1, 3, none⟩ = some (.slice none 0 0) := (ca_other k2_3)
    replace z2 : ∀ o, (w1.alloc (.cells #[.bool false, .slice none 0 0, .bool false, .slice none 0 0] 27)).frozen? ⟨w.heap.size + 1 + 1, o, none⟩ = false := fun o => frozen_later hb (by omega) (z2 o)
    replace HB := hide (below_on (unhide HB) hb)
    have szwz := hb.size
    clear hb
    generalize (w1.alloc (.cells #[.bool false, .slice none 0 0, .bool false, .slice none 0 0] 27)) = wz at *
    go_wp2
    refine bodyPost_ret (v := .tuple #[.agg #[.bool false, .slice none 0 0, .bool false, .slice none 0 0], .bool false]) (by simp [results, Tryz.results25, go_sem, k2_0, k2_1, k2_2, k2_3]) rfl ?_
    exact retQ_fin (v := (⟨⟨false, none, 0, 0⟩, ⟨false, none, 0, 0⟩⟩ : QV)) (d := (⟨⟨false, []⟩, ⟨false, []⟩⟩ : QD)) (R := w.heap.size + 1 + 1) (by omega) (unhide HB) (metQ_but (w5 := wz) (v := (⟨⟨false, none, 0, 0⟩, ⟨false, none, 0, 0⟩⟩ : QV)) (G := w.heap.size + 1 + 1)) (zeroQ _ _ _) (ansQ_none _ _)
  · cases hg2 : gQ d'
    · have G1 := hide (fun w1 (k : AllAr w1 [(q.num, d.num), (q.den, d.den)]) => goodQI q d w1 k)
      have G2 := hide (fun w1 (k : AllAr w1 [(q'.num, d'.num), (q'.den, d'.den)]) => goodQI q' d' w1 k)
      rw [hg1] at G1
      rw [hg2] at G2
      rw [Bool.true_and]
      clear hg1 hg2
      have B0 := hide (show Below w.heap.size w (((w.alloc (.cells #[.bool q.num.g, .slice q.num.a q.num.n q.num.c, .bool q.den.g, .slice q.den.a q.den.n q.den.c] 27)).alloc (.cells #[.bool q'.num.g, .slice q'.num.a q'.num.n q'.num.c, .bool q'.den.g, .slice q'.den.a q'.den.n q'.den.c] 27)).alloc (.cells #[.bool false, .slice none 0 0, .bool false, .slice none 0 0] 27)) from ((((Below.refl _ _).alloc (by simp) _).alloc (by simp) _).alloc (by simp <;> omega) _))
      go_enter Tryz.func25, Tryz.ntmps25
      go_wp2_with fail
      refine (unhide G1 _ ((unhide H1).later (unhide B0))).mono ?_
      rintro e w1 ⟨rfl, hb⟩
      have s1 : w.heap.size + 1 + 1 < w1.heap.size := by have := hb.size; simp at this; omega
      have k1_0 : w1.cell? ⟨w.heap.size + 1, 0, none⟩ = some (.bool q'.num.g) := cell_later hb (by simp [go_sem])
      have k1_1 : w1.cell? ⟨w.heap.size + 1, 1, none⟩ = some (.slice q'.num.a q'.num.n q'.num.c) := cell_later hb (by simp [go_sem])
      have k1_2 : w1.cell? ⟨w.heap.size + 1, 2, none⟩ = some (.bool q'.den.g) := cell_later hb (by simp [go_sem])
      have k1_3 : w1.cell? ⟨w.heap.size + 1, 3, none⟩ = some (.slice q'.den.a q'.den.n q'.den.c) := cell_later hb (by simp [go_sem])
      have k2_0 : w1.cell? ⟨w.heap.size + 1 + 1, 0, none⟩ = some (.bool false) := cell_later hb (by simp [go_sem])
      have k2_1 : w1.cell? ⟨w.heap.size + 1 + 1, 1, none⟩ = some (.slice none 0 0) := cell_later hb (by simp [go_sem])
      have k2_2 : w1.cell? ⟨w.heap.size + 1 + 1, 2, none⟩ = some (.bool false) := cell_later hb (by simp [go_sem])
      have k2_3 : w1.cell? ⟨w.heap.size + 1 + 1, 3, none⟩ = some (.slice none 0 0) := cell_later hb (by simp [go_sem])
      have z2 : ∀ o, w1.frozen? ⟨w.heap.size + 1 + 1, o, none⟩ = false := fun o => frozen_later hb (by simp) (by simp [go_sem])
      have HB := hide (below_on (unhide B0) hb)
      clear hb
      go_wp2_with fail
      refine (unhide G2 _ ((unhide H2).later (unhide HB))).mono ?_
      rintro e w2 ⟨rfl, hb⟩
      have s2 := hb.size
      replace z2 := fun o => frozen_later hb (World.block_lt_of_cell? _ _ k2_0) (z2 o)
      replace k2_0 := cell_later hb k2_0
      replace k2_1 := cell_later hb k2_1
      replace k2_2 := cell_later hb k2_2
      replace k2_3 := cell_later hb k2_3
      clear k1_0 k1_1 k1_2 k1_3
      replace HB := hide (below_on (unhide HB) hb)
      clear hb
      go_upto_region 3 with fail
      have hb : Below w2.heap.size w2 (w2.alloc (.cells #[.bool false, .slice none 0 0, .bool false, .slice none 0 0] 27)) := ((Below.refl _ _).alloc (by simp) _)
      have k3_0 : (w2.alloc (.cells #[.bool false, .slice none 0 0, .bool false, .slice none 0 0] 27)).cell? ⟨w2.heap.size, 0, none⟩ = some (.bool false) := by simp [go_sem]
      have k3_1 : (w2.alloc (.cells #[.bool false, .slice none 0 0, .bool false, .slice none 0 0] 27)).cell? ⟨w2.heap.size, 1, none⟩ = some (.slice none 0 0) := by simp [go_sem]
      have k3_2 : (w2.alloc (.cells #[.bool false, .slice none 0 0, .bool false, .slice none 0 0] 27)).cell? ⟨w2.heap.size, 2, none⟩ = some (.bool false) := by simp [go_sem]
      have k3_3 : (w2.alloc (.cells #[.bool false, .slice none 0 0, .bool false, .slice none 0 0] 27)).cell? ⟨w2.heap.size, 3, none⟩ = some (.slice none 0 0) := by simp [go_sem]
      replace k2_0 : (w2.alloc (.cells #[.bool false, .slice none 0 0, .bool false, .slice none 0 0] 27)).cell? ⟨w.heap.size + 1 + 1, 0, none⟩ = some (.bool false) := (ca_other k2_0)
      replace k2_1 : (w2.alloc (.cells #[.bool false, .slice none 0 0, .bool false, .slice none 0 0] 27)).cell? ⟨w.heap.size + 1 + 1, 1, none⟩ = some (.slice none 0 0) := (ca_other k2_1)
      replace k2_2 : (w2.alloc (.cells #[.bool false, .slice none 0 0, .bool false, .slice none 0 0] 27)).cell? ⟨w.heap.size + 1 + 1, 2, none⟩ = some (.bool false) := (ca_other k2_2)
      replace k2_3 : (w2.alloc (.cells #[.bool false, .slice none 0 0, .bool false, .slice none 0 0] 27)).cell? ⟨w.heap.size + 1 + 1, 3, none⟩ = some (.slice none 0 0) := (ca_other k2_3)
      replace z2 : ∀ o, (w2.alloc (.cells #[.bool false, .slice none 0 0, .bool false, .slice none 0 0] 27)).frozen? ⟨w.heap.size + 1 + 1, o, none⟩ = false := fun o => frozen_later hb (by omega) (z2 o)
      replace HB := hide (below_on (unhide HB) hb)
      have szwz := hb.size
      clear hb
      generalize (w2.alloc (.cells #[.bool false, .slice none 0 0, .bool false, .slice none 0 0] 27)) = wz at *
      go_wp2
      refine bodyPost_ret (v := .tuple #[.agg #[.bool false, .slice none 0 0, .bool false, .slice none 0 0], .bool false]) (by simp [results, Tryz.results25, go_sem, k2_0, k2_1, k2_2, k2_3]) rfl ?_
      exact retQ_fin (v := (⟨⟨false, none, 0, 0⟩, ⟨false, none, 0, 0⟩⟩ : QV)) (d := (⟨⟨false, []⟩, ⟨false, []⟩⟩ : QD)) (R := w.heap.size + 1 + 1) (by omega) (unhide HB) (metQ_but (w5 := wz) (v := (⟨⟨false, none, 0, 0⟩, ⟨false, none, 0, 0⟩⟩ : QV)) (G := w.heap.size + 1 + 1)) (zeroQ _ _ _) (ansQ_none _ _)
    · have G1 := hide (fun w1 (k : AllAr w1 [(q.num, d.num), (q.den, d.den)]) => goodQI q d w1 k)
      have G2 := hide (fun w1 (k : AllAr w1 [(q'.num, d'.num), (q'.den, d'.den)]) => goodQI q' d' w1 k)
      rw [hg1] at G1
      rw [hg2] at G2
      have I1 := isGood_of (unhide H1) hg1
      have I2 := isGood_of (unhide H2) hg2
      have NZ : Hid (dQ d * dQ d' ≠ 0) := hide (Int.mul_ne_zero (by have := I1.pos; omega) (by have := I2.pos; omega))
      have J1 := hide I1
      have J2 := hide I2
      rw [Bool.true_and]
      clear hg1 hg2 I1 I2
      have B0 := hide (show Below w.heap.size w (((w.alloc (.cells #[.bool q.num.g, .slice q.num.a q.num.n q.num.c, .bool q.den.g, .slice q.den.a q.den.n q.den.c] 27)).alloc (.cells #[.bool q'.num.g, .slice q'.num.a q'.num.n q'.num.c, .bool q'.den.g, .slice q'.den.a q'.den.n q'.den.c] 27)).alloc (.cells #[.bool false, .slice none 0 0, .bool false, .slice none 0 0] 27)) from ((((Below.refl _ _).alloc (by simp) _).alloc (by simp) _).alloc (by simp <;> omega) _))
      go_enter Tryz.func25, Tryz.ntmps25
      go_wp2_with fail
      refine (unhide G1 _ ((unhide H1).later (unhide B0))).mono ?_
      rintro e w1 ⟨rfl, hb⟩
      have s1 : w.heap.size + 1 + 1 < w1.heap.size := by have := hb.size; simp at this; omega
      have k0_0 : w1.cell? ⟨w.heap.size, 0, none⟩ = some (.bool q.num.g) := cell_later hb (by simp [go_sem])
      have k0_1 : w1.cell? ⟨w.heap.size, 1, none⟩ = some (.slice q.num.a q.num.n q.num.c) := cell_later hb (by simp [go_sem])
      have k0_2 : w1.cell? ⟨w.heap.size, 2, none⟩ = some (.bool q.den.g) := cell_later hb (by simp [go_sem])
      have k0_3 : w1.cell? ⟨w.heap.size, 3, none⟩ = some (.slice q.den.a q.den.n q.den.c) := cell_later hb (by simp [go_sem])
      have k1_0 : w1.cell? ⟨w.heap.size + 1, 0, none⟩ = some (.bool q'.num.g) := cell_later hb (by simp [go_sem])
      have k1_1 : w1.cell? ⟨w.heap.size + 1, 1, none⟩ = some (.slice q'.num.a q'.num.n q'.num.c) := cell_later hb (by simp [go_sem])
      have k1_2 : w1.cell? ⟨w.heap.size + 1, 2, none⟩ = some (.bool q'.den.g) := cell_later hb (by simp [go_sem])
      have k1_3 : w1.cell? ⟨w.heap.size + 1, 3, none⟩ = some (.slice q'.den.a q'.den.n q'.den.c) := cell_later hb (by simp [go_sem])
      have k2_0 : w1.cell? ⟨w.heap.size + 1 + 1, 0, none⟩ = some (.bool false) := cell_later hb (by simp [go_sem])
      have k2_1 : w1.cell? ⟨w.heap.size + 1 + 1, 1, none⟩ = some (.slice none 0 0) := cell_later hb (by simp [go_sem])
      have k2_2 : w1.cell? ⟨w.heap.size + 1 + 1, 2, none⟩ = some (.bool false) := cell_later hb (by simp [go_sem])
      have k2_3 : w1.cell? ⟨w.heap.size + 1 + 1, 3, none⟩ = some (.slice none 0 0) := cell_later hb (by simp [go_sem])
      have z2 : ∀ o, w1.frozen? ⟨w.heap.size + 1 + 1, o, none⟩ = false := fun o => frozen_later hb (by simp) (by simp [go_sem])
      have HB := hide (below_on (unhide B0) hb)
      clear hb
      go_wp2_with fail
      refine (unhide G2 _ ((unhide H2).later (unhide HB))).mono ?_
      rintro e w2 ⟨rfl, hb⟩
      have s2 := hb.size
      replace z2 := fun o => frozen_later hb (World.block_lt_of_cell? _ _ k2_0) (z2 o)
      replace k0_0 := cell_later hb k0_0
      replace k0_1 := cell_later hb k0_1
      replace k0_2 := cell_later hb k0_2
      replace k0_3 := cell_later hb k0_3
      replace k1_0 := cell_later hb k1_0
      replace k1_1 := cell_later hb k1_1
      replace k1_2 := cell_later hb k1_2
      replace k1_3 := cell_later hb k1_3
      replace k2_0 := cell_later hb k2_0
      replace k2_1 := cell_later hb k2_1
      replace k2_2 := cell_later hb k2_2
      replace k2_3 := cell_later hb k2_3
      replace HB := hide (below_on (unhide HB) hb)
      clear hb
      go_wp2_with fail
      refine (addQI q q' _ _ _ _ _ ((unhide J1).is.later (unhide HB)) ((unhide J2).is.later (unhide HB)) (unhide NZ) ((unhide J1).kn.mono (by omega)) ((unhide J1).kd.mono (by omega)) ((unhide J2).kn.mono (by omega)) ((unhide J2).kd.mono (by omega))).mono ?_
      rintro e w3 ⟨r, zs, us, rfl, hb, or, ar, nz, nu⟩
      replace or : AllOA _ _ _ _ := ⟨or, ar⟩
      have s3 := hb.size
      have RM : r.den.n ≤ maxLen := Nat.le_trans ar.tail.head.ar.cap ar.tail.head.ar.top
      have NN := hide (And.intro nz nu)
      replace z2 := fun o => frozen_later hb (World.block_lt_of_cell? _ _ k2_0) (z2 o)
      replace k2_0 := cell_later hb k2_0
      replace k2_1 := cell_later hb k2_1
      replace k2_2 := cell_later hb k2_2
      replace k2_3 := cell_later hb k2_3
      clear k0_0 k0_1 k0_2 k0_3 k1_0 k1_1 k1_2 k1_3
      have OR := hide (or)
      replace HB := hide (below_on (unhide HB) hb)
      clear hb
      clear or ar nz nu
      go_wp2_with fail
      refine (whereQ r _ _ zs us w2.heap.size w3.heap.size _ (unhide OR) (Nat.le_refl _) RM (unhide NN).1 (unhide NN).2 (by have := lowD_pos (N := nQ d * dQ d' + nQ d' * dQ d) (unhide NZ); omega)).mono ?_
      rintro e w4 ⟨v, dv, ok, rfl, hb, ov, hu⟩
      have s4 := hb.size
      have UU := hide hu
      replace z2 := fun o => frozen_later hb (World.block_lt_of_cell? _ _ k2_0) (z2 o)
      replace k2_0 := cell_later hb k2_0
      replace k2_1 := cell_later hb k2_1
      replace k2_2 := cell_later hb k2_2
      replace k2_3 := cell_later hb k2_3
      replace OR := hide ((unhide OR).later hb)
      have OV := hide (ov)
      replace HB := hide (below_on (unhide HB) hb)
      clear hb
      clear ov hu
      go_wp2
      refine bodyPost_ret (v := .tuple #[.agg #[.bool v.num.g, .slice v.num.a v.num.n v.num.c, .bool v.den.g, .slice v.den.a v.den.n v.den.c], .bool ok]) (by simp [results, Tryz.results25, go_sem, k2_0, k2_1, k2_2, k2_3]) rfl ?_
      exact retQ_fin (v := v) (d := dv) (R := w.heap.size + 1 + 1) (by omega) (unhide HB) (metQ_but (w5 := w4) (v := v) (G := w.heap.size + 1 + 1)) ((unhide OV).wide (by omega) (by omega)) (unhide UU)

set_option maxHeartbeats 4000000 in
theorem ofSubQ (q q' : QV) (d d' : QD) (w : World) (h : AllAr w [(q.num, d.num), (q.den, d.den)]) (h' : AllAr w [(q'.num, d'.num), (q'.den, d'.den)]) :
    Calls Tryz.prog 25 #[.agg #[.bool q.num.g, .slice q.num.a q.num.n q.num.c, .bool q.den.g, .slice q.den.a q.den.n q.den.c], .agg #[.bool q'.num.g, .slice q'.num.a q'.num.n q'.num.c, .bool q'.den.g, .slice q'.den.a q'.den.n q'.den.c], .func (Fn.func 31) #[] #[], .func (Fn.func 27) #[] #[]] w (RetQ w (AnsQ (gQ d && gQ d') (lowN (nQ d * dQ d' - nQ d' * dQ d) (dQ d * dQ d')) (lowD (nQ d * dQ d' - nQ d' * dQ d) (dQ d * dQ d')))) := by
  have H1 := hide h
  have H2 := hide h'
  clear h h'
  cases hg1 : gQ d
  · have G1 := hide (fun w1 (k : AllAr w1 [(q.num, d.num), (q.den, d.den)]) => goodQI q d w1 k)
    rw [hg1] at G1
    rw [Bool.false_and]
    clear hg1
    have B0 := hide (show Below w.heap.size w (((w.alloc (.cells #[.bool q.num.g, .slice q.num.a q.num.n q.num.c, .bool q.den.g, .slice q.den.a q.den.n q.den.c] 27)).alloc (.cells #[.bool q'.num.g, .slice q'.num.a q'.num.n q'.num.c, .bool q'.den.g, .slice q'.den.a q'.den.n q'.den.c] 27)).alloc (.cells #[.bool false, .slice none 0 0, .bool false, .slice none 0 0] 27)) from ((((Below.refl _ _).alloc (by simp) _).alloc (by simp) _).alloc (by simp <;> omega) _))
    go_enter Tryz.func25, Tryz.ntmps25
    go_wp2_with fail
    refine (unhide G1 _ ((unhide H1).later (unhide B0))).mono ?_
    rintro e w1 ⟨rfl, hb⟩
    have s1 : w.heap.size + 1 + 1 < w1.heap.size := by have := hb.size; simp at this; omega
    have k2_0 : w1.cell? ⟨w.heap.size + 1 + 1, 0, none⟩ = some (.bool false) := cell_later hb (by simp [go_sem])
    have k2_1 : w1.cell? ⟨w.heap.size + 1 + 1, 1, none⟩ = some (.slice none 0 0) := cell_later hb (by simp [go_sem])
    have k2_2 : w1.cell? ⟨w.heap.size + 1 + 1, 2, none⟩ = some (.bool false) := cell_later hb (by simp [go_sem])
    have k2_3 : w1.cell? ⟨w.heap.size + 1 + 1, 3, none⟩ = some (.slice none 0 0) := cell_later hb (by simp [go_sem])
    have z2 : ∀ o, w1.frozen? ⟨w.heap.size + 1 + 1, o, none⟩ = false := fun o => frozen_later hb (by simp) (by simp [go_sem])
    have HB := hide (below_on (unhide B0) hb)
    clear hb
    go_upto_region 3 with fail
    have hb : Below w1.heap.size w1 (w1.alloc (.cells #[.bool false, .slice none 0 0, .bool false, .slice none 0 0] 27)) := ((Below.refl _ _).alloc (by simp) _)
    have k3_0 : (w1.alloc (.cells #[.bool false, .slice none 0 0, .bool false, .slice none 0 0] 27)).cell? ⟨w1.heap.size, 0, none⟩ = some (.bool false) := by simp [go_sem]
    have k3_1 : (w1.alloc (.cells #[.bool false, .slice none 0 0, .bool false, .slice none 0 0] 27)).cell? ⟨w1.heap.size, 1, none⟩ = some (.slice none 0 0) := by simp [go_sem]
    have k3_2 : (w1.alloc (.cells #[.bool false, .slice none 0 0, .bool false, .slice none 0 0] 27)).cell? ⟨w1.heap.size, 2, none⟩ = some (.bool false) := by simp [go_sem]
    have k3_3 : (w1.alloc (.cells #[.bool false, .slice none 0 0, .bool false, .slice none 0 0] 27)).cell? ⟨w1.heap.size, 3, none⟩ = some (.slice none 0 0) := by simp [go_sem]
    replace k2_0 : (w1.alloc (.cells #[.bool false, .slice none 0 0, .bool false, .slice none 0 0] 27)).cell? ⟨w.heap.size + 1 + 1, 0, none⟩ = some (.bool false) := (ca_other k2_0)
    replace k2_1 : (w1.alloc (.cells #[.bool false, .slice none 0 0, .bool false, .slice none 0 0] 27)).cell? ⟨w.heap.size + 1 + 1, 1, none⟩ = some (.slice none 0 0) := (ca_other k2_1)
    replace k2_2 : (w1.alloc (.cells #[.bool false, .slice none 0 0, .bool false, .slice none 0 0] 27)).cell? ⟨w.heap.size + 1 + 1, 2, none⟩ = some (.bool false) := (ca_other k2_2)
    replace k2_3 : (w1.alloc (.cells #[.bool false, .slice none 0 0, .bool false, .slice none 0 0] 27)).cell? ⟨w.heap.size + 1 + 1, 3, none⟩ = some (.slice none 0 0) := (ca_other k2_3)
    replace z2 : ∀ o, (w1.alloc (.cells #[.bool false, .slice none 0 0, .bool false, .slice none 0 0] 27)).frozen? ⟨w.heap.size + 1 + 1, o, none⟩ = false := fun o => frozen_later hb (by omega) (z2 o)
    replace HB := hide (below_on (unhide HB) hb)
    have szwz := hb.size
    clear hb
    generalize (w1.alloc (.cells #[.bool false, .slice none 0 0, .bool false, .slice none 0 0] 27)) = wz at *
    go_wp2
    refine bodyPost_ret (v := .tuple #[.agg #[.bool false, .slice none 0 0, .bool false, .slice none 0 0], .bool false]) (by simp [results, Tryz.results25, go_sem, k2_0, k2_1, k2_2, k2_3]) rfl ?_
    exact retQ_fin (v := (⟨⟨false, none, 0, 0⟩, ⟨false, none, 0, 0⟩⟩ : QV)) (d := (⟨⟨false, []⟩, ⟨false, []⟩⟩ : QD)) (R := w.heap.size + 1 + 1) (by omega) (unhide HB) (metQ_but (w5 := wz) (v := (⟨⟨false, none, 0, 0⟩, ⟨false, none, 0, 0⟩⟩ : QV)) (G := w.heap.size + 1 + 1)) (zeroQ _ _ _) (ansQ_none _ _)
  · cases hg2 : gQ d'
    · have G1 := hide (fun w1 (k : AllAr w1 [(q.num, d.num), (q.den, d.den)]) => goodQI q d w1 k)
      have G2 := hide (fun w1 (k : AllAr w1 [(q'.num, d'.num), (q'.den, d'.den)]) => goodQI q' d' w1 k)
      rw [hg1] at G1
      rw [hg2] at G2
      rw [Bool.true_and]
      clear hg1 hg2
      have B0 := hide (show Below w.heap.size w (((w.alloc (.cells #[.bool q.num.g, .slice q.num.a q.num.n q.num.c, .bool q.den.g, .slice q.den.a q.den.n q.den.c] 27)).alloc (.cells #[.bool q'.num.g, .slice q'.num.a q'.num.n q'.num.c, .bool q'.den.g, .slice q'.den.a q'.den.n q'.den.c] 27)).alloc (.cells #[.bool false, .slice none 0 0, .bool false, .slice none 0 0] 27)) from ((((Below.refl _ _).alloc (by simp) _).alloc (by simp) _).alloc (by simp <;> omega) _))
      go_enter Tryz.func25, Tryz.ntmps25
      go_wp2_with fail
      refine (unhide G1 _ ((unhide H1).later (unhide B0))).mono ?_
      rintro e w1 ⟨rfl, hb⟩
      have s1 : w.heap.size + 1 + 1 < w1.heap.size := by have := hb.size; simp at this; omega
      have k1_0 : w1.cell? ⟨w.heap.size + 1, 0, none⟩ = some (.bool q'.num.g) := cell_later hb (by simp [go_sem])
      have k1_1 : w1.cell? ⟨w.heap.size + 1, 1, none⟩ = some (.slice q'.num.a q'.num.n q'.num.c) := cell_later hb (by simp [go_sem])
      have k1_2 : w1.cell? ⟨w.heap.size + 1, 2, none⟩ = some (.bool q'.den.g) := cell_later hb (by simp [go_sem])
      have k1_3 : w1.cell? ⟨w.heap.size + 1, 3, none⟩ = some (.slice q'.den.a q'.den.n q'.den.c) := cell_later hb (by simp [go_sem])
      have k2_0 : w1.cell? ⟨w.heap.size + 1 + 1, 0, none⟩ = some (.bool false) := cell_later hb (by simp [go_sem])
      have k2_1 : w1.cell? ⟨w.heap.size + 1 + 1, 1, none⟩ = some (.slice none 0 0) := cell_later hb (by simp [go_sem])
      have k2_2 : w1.cell? ⟨w.heap.size + 1 + 1, 2, none⟩ = some (.bool false) := cell_later hb (by simp [go_sem])
      have k2_3 : w1.cell? ⟨w.heap.size + 1 + 1, 3, none⟩ = some (.slice none 0 0) := cell_later hb (by simp [go_sem])
      have z2 : ∀ o, w1.frozen? ⟨w.heap.size + 1 + 1, o, none⟩ = false := fun o => frozen_later hb (by simp) (by simp [go_sem])
      have HB := hide (below_on (unhide B0) hb)
      clear hb
      go_wp2_with fail
      refine (unhide G2 _ ((unhide H2).later (unhide HB))).mono ?_
      rintro e w2 ⟨rfl, hb⟩
      have s2 := hb.size
      replace z2 := fun o => frozen_later hb (World.block_lt_of_cell? _ _ k2_0) (z2 o)
      replace k2_0 := cell_later hb k2_0
      replace k2_1 := cell_later hb k2_1
      replace k2_2 := cell_later hb k2_2
      replace k2_3 := cell_later hb k2_3
      clear k1_0 k1_1 k1_2 k1_3
      replace HB := hide (below_on (unhide HB) hb)
      clear hb
      go_upto_region 3 with fail
      have hb : Below w2.heap.size w2 (w2.alloc (.cells #[.bool false, .slice none 0 0, .bool false, .slice none 0 0] 27)) := ((Below.refl _ _).alloc (by simp) _)
      have k3_0 : (w2.alloc (.cells #[.bool false, .slice none 0 0, .bool false, .slice none 0 0] 27)).cell? ⟨w2.heap.size, 0, none⟩ = some (.bool false) := by simp [go_sem]
      have k3_1 : (w2.alloc (.cells #[.bool false, .slice none 0 0, .bool false, .slice none 0 0] 27)).cell? ⟨w2.heap.size, 1, none⟩ = some (.slice none 0 0) := by simp [go_sem]
      have k3_2 : (w2.alloc (.cells #[.bool false, .slice none 0 0, .bool false, .slice none 0 0] 27)).cell? ⟨w2.heap.size, 2, none⟩ = some (.bool false) := by simp [go_sem]
      have k3_3 : (w2.alloc (.cells #[.bool false, .slice none 0 0, .bool false, .slice none 0 0] 27)).cell? ⟨w2.heap.size, 3, none⟩ = some (.slice none 0 0) := by simp [go_sem]
      replace k2_0 : (w2.alloc (.cells #[.bool false, .slice none 0 0, .bool false, .slice none 0 0] 27)).cell? ⟨w.heap.size + 1 + 1, 0, none⟩ = some (.bool false) := (ca_other k2_0)
      replace k2_1 : (w2.alloc (.cells #[.bool false, .slice none 0 0, .bool false, .slice none 0 0] 27)).cell? ⟨w.heap.size + 1 + 1, 1, none⟩ = some (.slice none 0 0) := (ca_other k2_1)
      replace k2_2 : (w2.alloc (.cells #[.bool false, .slice none 0 0, .bool false, .slice none 0 0] 27)).cell? ⟨w.heap.size + 1 + 1, 2, none⟩ = some (.bool false) := (ca_other k2_2)
      replace k2_3 : (w2.alloc (.cells #[.bool false, .slice none 0 0, .bool false, .slice none 0 0] 27)).cell? ⟨w.heap.size + 1 + 1, 3, none⟩ = some (.slice none 0 0) := (ca_other k2_3)
      replace z2 : ∀ o, (w2.alloc (.cells #[.bool false, .slice none 0 0, .bool false, .slice none 0 0] 27)).frozen? ⟨w.heap.size + 1 + 1, o, none⟩ = false := fun o => frozen_later hb (by omega) (z2 o)
      replace HB := hide (below_on (unhide HB) hb)
      have szwz := hb.size
      clear hb
      generalize (w2.alloc (.cells #[.bool false, .slice none 0 0, .bool false, .slice none 0 0] 27)) = wz at *
      go_wp2
      refine bodyPost_ret (v := .tuple #[.agg #[.bool false, .slice none 0 0, .bool false, .slice none 0 0], .bool false]) (by simp [results, Tryz.results25, go_sem, k2_0, k2_1, k2_2, k2_3]) rfl ?_
      exact retQ_fin (v := (⟨⟨false, none, 0, 0⟩, ⟨false, none, 0, 0⟩⟩ : QV)) (d := (⟨⟨false, []⟩, ⟨false, []⟩⟩ : QD)) (R := w.heap.size + 1 + 1) (by omega) (unhide HB) (metQ_but (w5 := wz) (v := (⟨⟨false, none, 0, 0⟩, ⟨false, none, 0, 0⟩⟩ : QV)) (G := w.heap.size + 1 + 1)) (zeroQ _ _ _) (ansQ_none _ _)
    · have G1 := hide (fun w1 (k : AllAr w1 [(q.num, d.num), (q.den, d.den)]) => goodQI q d w1 k)
      have G2 := hide (fun w1 (k : AllAr w1 [(q'.num, d'.num), (q'.den, d'.den)]) => goodQI q' d' w1 k)
      rw [hg1] at G1
      rw [hg2] at G2
      have I1 := isGood_of (unhide H1) hg1
      have I2 := isGood_of (unhide H2) hg2
      have NZ : Hid (dQ d * dQ d' ≠ 0) := hide (Int.mul_ne_zero (by have := I1.pos; omega) (by have := I2.pos; omega))
      have J1 := hide I1
      have J2 := hide I2
      rw [Bool.true_and]
      clear hg1 hg2 I1 I2
      have B0 := hide (show Below w.heap.size w (((w.alloc (.cells #[.bool q.num.g, .slice q.num.a q.num.n q.num.c, .bool q.den.g, .slice q.den.a q.den.n q.den.c] 27)).alloc (.cells #[.bool q'.num.g, .slice q'.num.a q'.num.n q'.num.c, .bool q'.den.g, .slice q'.den.a q'.den.n q'.den.c] 27)).alloc (.cells #[.bool false, .slice none 0 0, .bool false, .slice none 0 0] 27)) from ((((Below.refl _ _).alloc (by simp) _).alloc (by simp) _).alloc (by simp <;> omega) _))
      go_enter Tryz.func25, Tryz.ntmps25
      go_wp2_with fail
      refine (unhide G1 _ ((unhide H1).later (unhide B0))).mono ?_
      rintro e w1 ⟨rfl, hb⟩
      have s1 : w.heap.size + 1 + 1 < w1.heap.size := by have := hb.size; simp at this; omega
      have k0_0 : w1.cell? ⟨w.heap.size, 0, none⟩ = some (.bool q.num.g) := cell_later hb (by simp [go_sem])
      have k0_1 : w1.cell? ⟨w.heap.size, 1, none⟩ = some (.slice q.num.a q.num.n q.num.c) := cell_later hb (by simp [go_sem])
      have k0_2 : w1.cell? ⟨w.heap.size, 2, none⟩ = some (.bool q.den.g) := cell_later hb (by simp [go_sem])
      have k0_3 : w1.cell? ⟨w.heap.size, 3, none⟩ = some (.slice q.den.a q.den.n q.den.c) := cell_later hb (by simp [go_sem])
      have k1_0 : w1.cell? ⟨w.heap.size + 1, 0, none⟩ = some (.bool q'.num.g) := cell_later hb (by simp [go_sem])
      have k1_1 : w1.cell? ⟨w.heap.size + 1, 1, none⟩ = some (.slice q'.num.a q'.num.n q'.num.c) := cell_later hb (by simp [go_sem])
      have k1_2 : w1.cell? ⟨w.heap.size + 1, 2, none⟩ = some (.bool q'.den.g) := cell_later hb (by simp [go_sem])
      have k1_3 : w1.cell? ⟨w.heap.size + 1, 3, none⟩ = some (.slice q'.den.a q'.den.n q'.den.c) := cell_later hb (by simp [go_sem])
      have k2_0 : w1.cell? ⟨w.heap.size + 1 + 1, 0, none⟩ = some (.bool false) := cell_later hb (by simp [go_sem])
      have k2_1 : w1.cell? ⟨w.heap.size + 1 + 1, 1, none⟩ = some (.slice none 0 0) := cell_later hb (by simp [go_sem])
      have k2_2 : w1.cell? ⟨w.heap.size + 1 + 1, 2, none⟩ = some (.bool false) := cell_later hb (by simp [go_sem])
      have k2_3 : w1.cell? ⟨w.heap.size + 1 + 1, 3, none⟩ = some (.slice none 0 0) := cell_later hb (by simp [go_sem])
      have z2 : ∀ o, w1.frozen? ⟨w.heap.size + 1 + 1, o, none⟩ = false := fun o => frozen_later hb (by simp) (by simp [go_sem])
      have HB := hide (below_on (unhide B0) hb)
      clear hb
      go_wp2_with fail
      refine (unhide G2 _ ((unhide H2).later (unhide HB))).mono ?_
      rintro e w2 ⟨rfl, hb⟩
      have s2 := hb.size
      replace z2 := fun o => frozen_later hb (World.block_lt_of_cell? _ _ k2_0) (z2 o)
      replace k0_0 := cell_later hb k0_0
      replace k0_1 := cell_later hb k0_1
      replace k0_2 := cell_later hb k0_2
      replace k0_3 := cell_later hb k0_3
      replace k1_0 := cell_later hb k1_0
      replace k1_1 := cell_later hb k1_1
      replace k1_2 := cell_later hb k1_2
      replace k1_3 := cell_later hb k1_3
      replace k2_0 := cell_later hb k2_0
      replace k2_1 := cell_later hb k2_1
      replace k2_2 := cell_later hb k2_2
      replace k2_3 := cell_later hb k2_3
      replace HB := hide (below_on (unhide HB) hb)
      clear hb
      go_wp2_with fail
      refine (subQI q q' _ _ _ _ _ ((unhide J1).is.later (unhide HB)) ((unhide J2).is.later (unhide HB)) (unhide NZ) ((unhide J1).kn.mono (by omega)) ((unhide J1).kd.mono (by omega)) ((unhide J2).kn.mono (by omega)) ((unhide J2).kd.mono (by omega))).mono ?_
      rintro e w3 ⟨r, zs, us, rfl, hb, or, ar, nz, nu⟩
      replace or : AllOA _ _ _ _ := ⟨or, ar⟩
      have s3 := hb.size
      have RM : r.den.n ≤ maxLen := Nat.le_trans ar.tail.head.ar.cap ar.tail.head.ar.top
      have NN := hide (And.intro nz nu)
      replace z2 := fun o => frozen_later hb (World.block_lt_of_cell? _ _ k2_0) (z2 o)
      replace k2_0 := cell_later hb k2_0
      replace k2_1 := cell_later hb k2_1
      replace k2_2 := cell_later hb k2_2
      replace k2_3 := cell_later hb k2_3
      clear k0_0 k0_1 k0_2 k0_3 k1_0 k1_1 k1_2 k1_3
      have OR := hide (or)
      replace HB := hide (below_on (unhide HB) hb)
      clear hb
      clear or ar nz nu
      go_wp2_with fail
      refine (whereQ r _ _ zs us w2.heap.size w3.heap.size _ (unhide OR) (Nat.le_refl _) RM (unhide NN).1 (unhide NN).2 (by have := lowD_pos (N := nQ d * dQ d' - nQ d' * dQ d) (unhide NZ); omega)).mono ?_
      rintro e w4 ⟨v, dv, ok, rfl, hb, ov, hu⟩
      have s4 := hb.size
      have UU := hide hu
      replace z2 := fun o => frozen_later hb (World.block_lt_of_cell? _ _ k2_0) (z2 o)
      replace k2_0 := cell_later hb k2_0
      replace k2_1 := cell_later hb k2_1
      replace k2_2 := cell_later hb k2_2
      replace k2_3 := cell_later hb k2_3
      replace OR := hide ((unhide OR).later hb)
      have OV := hide (ov)
      replace HB := hide (below_on (unhide HB) hb)
      clear hb
      clear ov hu
      go_wp2
      refine bodyPost_ret (v := .tuple #[.agg #[.bool v.num.g, .slice v.num.a v.num.n v.num.c, .bool v.den.g, .slice v.den.a v.den.n v.den.c], .bool ok]) (by simp [results, Tryz.results25, go_sem, k2_0, k2_1, k2_2, k2_3]) rfl ?_
      exact retQ_fin (v := v) (d := dv) (R := w.heap.size + 1 + 1) (by omega) (unhide HB) (metQ_but (w5 := w4) (v := v) (G := w.heap.size + 1 + 1)) ((unhide OV).wide (by omega) (by omega)) (unhide UU)

set_option maxHeartbeats 4000000 in
theorem ofMulQ (q q' : QV) (d d' : QD) (w : World) (h : AllAr w [(q.num, d.num), (q.den, d.den)]) (h' : AllAr w [(q'.num, d'.num), (q'.den, d'.den)]) :
    Calls Tryz.prog 25 #[.agg #[.bool q.num.g, .slice q.num.a q.num.n q.num.c, .bool q.den.g, .slice q.den.a q.den.n q.den.c], .agg #[.bool q'.num.g, .slice q'.num.a q'.num.n q'.num.c, .bool q'.den.g, .slice q'.den.a q'.den.n q'.den.c], .func (Fn.func 33) #[] #[], .func (Fn.func 27) #[] #[]] w (RetQ w (AnsQ (gQ d && gQ d') (lowN (nQ d * nQ d') (dQ d * dQ d')) (lowD (nQ d * nQ d') (dQ d * dQ d')))) := by
  have H1 := hide h
  have H2 := hide h'
  clear h h'
  cases hg1 : gQ d
  · have G1 := hide (fun w1 (k : AllAr w1 [(q.num, d.num), (q.den, d.den)]) => goodQI q d w1 k)
    rw [hg1] at G1
    rw [Bool.false_and]
    clear hg1
    have B0 := hide (show Below w.heap.size w (((w.alloc (.cells #[.bool q.num.g, .slice q.num.a q.num.n q.num.c, .bool q.den.g, .slice q.den.a q.den.n q.den.c] 27)).alloc (.cells #[.bool q'.num.g, .slice q'.num.a q'.num.n q'.num.c, .bool q'.den.g, .slice q'.den.a q'.den.n q'.den.c] 27)).alloc (.cells #[.bool false, .slice none 0 0, .bool false, .slice none 0 0] 27)) from ((((Below.refl _ _).alloc (by simp) _).alloc (by simp) _).alloc (by simp <;> omega) _))
    go_enter Tryz.func25, Tryz.ntmps25
    go_wp2_with fail
    refine (unhide G1 _ ((unhide H1).later (unhide B0))).mono ?_
    rintro e w1 ⟨rfl, hb⟩
    have s1 : w.heap.size + 1 + 1 < w1.heap.size := by have := hb.size; simp at this; omega
    have k2_0 : w1.cell? ⟨w.heap.size + 1 + 1, 0, none⟩ = some (.bool false) := cell_later hb (by simp [go_sem])
    have k2_1 : w1.cell? ⟨w.heap.size + 1 + 1, 1, none⟩ = some (.slice none 0 0) := cell_later hb (by simp [go_sem])
    have k2_2 : w1.cell? ⟨w.heap.size + 1 + 1, 2, none⟩ = some (.bool false) := cell_later hb (by simp [go_sem])
    have k2_3 : w1.cell? ⟨w.heap.size + 1 + 1, 3, none⟩ = some (.slice none 0 0) := cell_later hb (by simp [go_sem])
    have z2 : ∀ o, w1.frozen? ⟨w.heap.size + 1 + 1, o, none⟩ = false := fun o => frozen_later hb (by simp) (by simp [go_sem])
    have HB := hide (below_on (unhide B0) hb)
    clear hb
    go_upto_region 3 with fail
    have hb : Below w1.heap.size w1 (w1.alloc (.cells #[.bool false, .slice none 0 0, .bool false, .slice none 0 0] 27)) := ((Below.refl _ _).alloc (by simp) _)
    have k3_0 : (w1.alloc (.cells #[.bool false, .slice none 0 0, .bool false, .slice none 0 0] 27)).cell? ⟨w1.heap.size, 0, none⟩ = some (.bool false) := by simp [go_sem]
    have k3_1 : (w1.alloc (.cells #[.bool false, .slice none 0 0, .bool false, .slice none 0 0] 27)).cell? ⟨w1.heap.size, 1, none⟩ = some (.slice none 0 0) := by simp [go_sem]
    have k3_2 : (w1.alloc (.cells #[.bool false, .slice none 0 0, .bool false, .slice none 0 0] 27)).cell? ⟨w1.heap.size, 2, none⟩ = some (.bool false) := by simp [go_sem]
    have k3_3 : (w1.alloc (.cells #[.bool false, .slice none 0 0, .bool false, .slice none 0 0] 27)).cell? ⟨w1.heap.size, 3, none⟩ = some (.slice none 0 0) := by simp [go_sem]
    replace k2_0 : (w1.alloc (.cells #[.bool false, .slice none 0 0, .bool false, .slice none 0 0] 27)).cell? ⟨w.heap.size + 1 + 1, 0, none⟩ = some (.bool false) := (ca_other k2_0)
    replace k2_1 : (w1.alloc (.cells #[.bool false, .slice none 0 0, .bool false, .slice none 0 0] 27)).cell? ⟨w.heap.size + 1 + 1, 1, none⟩ = some (.slice none 0 0) := (ca_other k2_1)
    replace k2_2 : (w1.alloc (.cells #[.bool false, .slice none 0 0, .bool false, .slice none 0 0] 27)).cell? ⟨w.heap.size + 1 + 1, 2, none⟩ = some (.bool false) := (ca_other k2_2)
    replace k2_3 : (w1.alloc (.cells #[.bool false, .slice none 0 0, .bool false, .slice none 0 0] 27)).cell? ⟨w.heap.size + 1 + 1, 3, none⟩ = some (.slice none 0 0) := (ca_other k2_3)
    replace z2 : ∀ o, (w1.alloc (.cells #[.bool false, .slice none 0 0, .bool false, .slice none 0 0] 27)).frozen? ⟨w.heap.size + 1 + 1, o, none⟩ = false := fun o => frozen_later hb (by omega) (z2 o)
    replace HB := hide (below_on (unhide HB) hb)
    have szwz := hb.size
    clear hb
    generalize (w1.alloc (.cells #[.bool false, .slice none 0 0, .bool false, .slice none 0 0] 27)) = wz at *
    go_wp2
    refine bodyPost_ret (v := .tuple #[.agg #[.bool false, .slice none 0 0, .bool false, .slice none 0 0], .bool false]) (by simp [results, Tryz.results25, go_sem, k2_0, k2_1, k2_2, k2_3]) rfl ?_
    exact retQ_fin (v := (⟨⟨false, none, 0, 0⟩, ⟨false, none, 0, 0⟩⟩ : QV)) (d := (⟨⟨false, []⟩, ⟨false, []⟩⟩ : QD)) (R := w.heap.size + 1 + 1) (by omega) (unhide HB) (metQ_but (w5 := wz) (v := (⟨⟨false, none, 0, 0⟩, ⟨false, none, 0, 0⟩⟩ : QV)) (G := w.heap.size + 1 + 1)) (zeroQ _ _ _) (ansQ_none _ _)
  · cases hg2 : gQ d'
    · have G1 := hide (fun w1 (k : AllAr w1 [(q.num, d.num), (q.den, d.den)]) => goodQI q d w1 k)
      have G2 := hide (fun w1 (k : AllAr w1 [(q'.num, d'.num), (q'.den, d'.den)]) => goodQI q' d' w1 k)
      rw [hg1] at G1
      rw [hg2] at G2
      rw [Bool.true_and]
      clear hg1 hg2
      have B0 := hide (show Below w.heap.size w (((w.alloc (.cells #[.bool q.num.g, .slice q.num.a q.num.n q.num.c, .bool q.den.g, .slice q.den.a q.den.n q.den.c] 27)).alloc (.cells #[.bool q'.num.g, .slice q'.num.a q'.num.n q'.num.c, .bool q'.den.g, .slice q'.den.a q'.den.n q'.den.c] 27)).alloc (.cells #[.bool false, .slice none 0 0, .bool false, .slice none 0 0] 27)) from ((((Below.refl _ _).alloc (by simp) _).alloc (by simp) _).alloc (by simp <;> omega) _))
      go_enter Tryz.func25, Tryz.ntmps25
      go_wp2_with fail
      refine (unhide G1 _ ((unhide H1).later (unhide B0))).mono ?_
      rintro e w1 ⟨rfl, hb⟩
      have s1 : w.heap.size + 1 + 1 < w1.heap.size := by have := hb.size; simp at this; omega
      have k1_0 : w1.cell? ⟨w.heap.size + 1, 0, none⟩ = some (.bool q'.num.g) := cell_later hb (by simp [go_sem])
      have k1_1 : w1.cell? ⟨w.heap.size + 1, 1, none⟩ = some (.slice q'.num.a q'.num.n q'.num.c) := cell_later hb (by simp [go_sem])
      have k1_2 : w1.cell? ⟨w.heap.size + 1, 2, none⟩ = some (.bool q'.den.g) := cell_later hb (by simp [go_sem])
      have k1_3 : w1.cell? ⟨w.heap.size + 1, 3, none⟩ = some (.slice q'.den.a q'.den.n q'.den.c) := cell_later hb (by simp [go_sem])
      have k2_0 : w1.cell? ⟨w.heap.size + 1 + 1, 0, none⟩ = some (.bool false) := cell_later hb (by simp [go_sem])
      have k2_1 : w1.cell? ⟨w.heap.size + 1 + 1, 1, none⟩ = some (.slice none 0 0) := cell_later hb (by simp [go_sem])
      have k2_2 : w1.cell? ⟨w.heap.size + 1 + 1, 2, none⟩ = some (.bool false) := cell_later hb (by simp [go_sem])
      have k2_3 : w1.cell? ⟨w.heap.size + 1 + 1, 3, none⟩ = some (.slice none 0 0) := cell_later hb (by simp [go_sem])
      have z2 : ∀ o, w1.frozen? ⟨w.heap.size + 1 + 1, o, none⟩ = false := fun o => frozen_later hb (by simp) (by simp [go_sem])
      have HB := hide (below_on (unhide B0) hb)
      clear hb
      go_wp2_with fail
      refine (unhide G2 _ ((unhide H2).later (unhide HB))).mono ?_
      rintro e w2 ⟨rfl, hb⟩
      have s2 := hb.size
      replace z2 := fun o => frozen_later hb (World.block_lt_of_cell? _ _ k2_0) (z2 o)
      replace k2_0 := cell_later hb k2_0
      replace k2_1 := cell_later hb k2_1
      replace k2_2 := cell_later hb k2_2
      replace k2_3 := cell_later hb k2_3
      clear k1_0 k1_1 k1_2 k1_3
      replace HB := hide (below_on (unhide HB) hb)
      clear hb
      go_upto_region 3 with fail
      have hb : Below w2.heap.size w2 (w2.alloc (.cells #[.bool false, .slice none 0 0, .bool false, .slice none 0 0] 27)) := ((Below.refl _ _).alloc (by simp) _)
      have k3_0 : (w2.alloc (.cells #[.bool false, .slice none 0 0, .bool false, .slice none 0 0] 27)).cell? ⟨w2.heap.size, 0, none⟩ = some (.bool false) := by simp [go_sem]
      have k3_1 : (w2.alloc (.cells #[.bool false, .slice none 0 0, .bool false, .slice none 0 0] 27)).cell? ⟨w2.heap.size, 1, none⟩ = some (.slice none 0 0) := by simp [go_sem]
      have k3_2 : (w2.alloc (.cells #[.bool false, .slice none 0 0, .bool false, .slice none 0 0] 27)).cell? ⟨w2.heap.size, 2, none⟩ = some (.bool false) := by simp [go_sem]
      have k3_3 : (w2.alloc (.cells #[.bool false, .slice none 0 0, .bool false, .slice none 0 0] 27)).cell? ⟨w2.heap.size, 3, none⟩ = some (.slice none 0 0) := by simp [go_sem]
      replace k2_0 : (w2.alloc (.cells #[.bool false, .slice none 0 0, .bool false, .slice none 0 0] 27)).cell? ⟨w.heap.size + 1 + 1, 0, none⟩ = some (.bool false) := (ca_other k2_0)
      replace k2_1 : (w2.alloc (.cells #[.bool false, .slice none 0 0, .bool false, .slice none 0 0] 27)).cell? ⟨w.heap.size + 1 + 1, 1, none⟩ = some (.slice none 0 0) := (ca_other k2_1)
      replace k2_2 : (w2.alloc (.cells #[.bool false, .slice none 0 0, .bool false, .slice none 0 0] 27)).cell? ⟨w.heap.size + 1 + 1, 2, none⟩ = some (.bool false) := (ca_other k2_2)
      replace k2_3 : (w2.alloc (.cells #[.bool false, .slice none 0 0, .bool false, .slice none 0 0] 27)).cell? ⟨w.heap.size + 1 + 1, 3, none⟩ = some (.slice none 0 0) := (ca_other k2_3)
      replace z2 : ∀ o, (w2.alloc (.cells #[.bool false, .slice none 0 0, .bool false, .slice none 0 0] 27)).frozen? ⟨w.heap.size + 1 + 1, o, none⟩ = false := fun o => frozen_later hb (by omega) (z2 o)
      replace HB := hide (below_on (unhide HB) hb)
      have szwz := hb.size
      clear hb
      generalize (w2.alloc (.cells #[.bool false, .slice none 0 0, .bool false, .slice none 0 0] 27)) = wz at *
      go_wp2
      refine bodyPost_ret (v := .tuple #[.agg #[.bool false, .slice none 0 0, .bool false, .slice none 0 0], .bool false]) (by simp [results, Tryz.results25, go_sem, k2_0, k2_1, k2_2, k2_3]) rfl ?_
      exact retQ_fin (v := (⟨⟨false, none, 0, 0⟩, ⟨false, none, 0, 0⟩⟩ : QV)) (d := (⟨⟨false, []⟩, ⟨false, []⟩⟩ : QD)) (R := w.heap.size + 1 + 1) (by omega) (unhide HB) (metQ_but (w5 := wz) (v := (⟨⟨false, none, 0, 0⟩, ⟨false, none, 0, 0⟩⟩ : QV)) (G := w.heap.size + 1 + 1)) (zeroQ _ _ _) (ansQ_none _ _)
    · have G1 := hide (fun w1 (k : AllAr w1 [(q.num, d.num), (q.den, d.den)]) => goodQI q d w1 k)
      have G2 := hide (fun w1 (k : AllAr w1 [(q'.num, d'.num), (q'.den, d'.den)]) => goodQI q' d' w1 k)
      rw [hg1] at G1
      rw [hg2] at G2
      have I1 := isGood_of (unhide H1) hg1
      have I2 := isGood_of (unhide H2) hg2
      have NZ : Hid (dQ d * dQ d' ≠ 0) := hide (Int.mul_ne_zero (by have := I1.pos; omega) (by have := I2.pos; omega))
      have J1 := hide I1
      have J2 := hide I2
      rw [Bool.true_and]
      clear hg1 hg2 I1 I2
      have B0 := hide (show Below w.heap.size w (((w.alloc (.cells #[.bool q.num.g, .slice q.num.a q.num.n q.num.c, .bool q.den.g, .slice q.den.a q.den.n q.den.c] 27)).alloc (.cells #[.bool q'.num.g, .slice q'.num.a q'.num.n q'.num.c, .bool q'.den.g, .slice q'.den.a q'.den.n q'.den.c] 27)).alloc (.cells #[.bool false, .slice none 0 0, .bool false, .slice none 0 0] 27)) from ((((Below.refl _ _).alloc (by simp) _).alloc (by simp) _).alloc (by simp <;> omega) _))
      go_enter Tryz.func25, Tryz.ntmps25
      go_wp2_with fail
      refine (unhide G1 _ ((unhide H1).later (unhide B0))).mono ?_
      rintro e w1 ⟨rfl, hb⟩
      have s1 : w.heap.size + 1 + 1 < w1.heap.size := by have := hb.size; simp at this; omega
      have k0_0 : w1.cell? ⟨w.heap.size, 0, none⟩ = some (.bool q.num.g) := cell_later hb (by simp [go_sem])
      have k0_1 : w1.cell? ⟨w.heap.size, 1, none⟩ = some (.slice q.num.a q.num.n q.num.c) := cell_later hb (by simp [go_sem])
      have k0_2 : w1.cell? ⟨w.heap.size, 2, none⟩ = some (.bool q.den.g) := cell_later hb (by simp [go_sem])
      have k0_3 : w1.cell? ⟨w.heap.size, 3, none⟩ = some (.slice q.den.a q.den.n q.den.c) := cell_later hb (by simp [go_sem])
      have k1_0 : w1.cell? ⟨w.heap.size + 1, 0, none⟩ = some (.bool q'.num.g) := cell_later hb (by simp [go_sem])
      have k1_1 : w1.cell? ⟨w.heap.size + 1, 1, none⟩ = some (.slice q'.num.a q'.num.n q'.num.c) := cell_later hb (by simp [go_sem])
      have k1_2 : w1.cell? ⟨w.heap.size + 1, 2, none⟩ = some (.bool q'.den.g) := cell_later hb (by simp [go_sem])
      have k1_3 : w1.cell? ⟨w.heap.size + 1, 3, none⟩ = some (.slice q'.den.a q'.den.n q'.den.c) := cell_later hb (by simp [go_sem])
      have k2_0 : w1.cell? ⟨w.heap.size + 1 + 1, 0, none⟩ = some (.bool false) := cell_later hb (by simp [go_sem])
      have k2_1 : w1.cell? ⟨w.heap.size + 1 + 1, 1, none⟩ = some (.slice none 0 0) := cell_later hb (by simp [go_sem])
      have k2_2 : w1.cell? ⟨w.heap.size + 1 + 1, 2, none⟩ = some (.bool false) := cell_later hb (by simp [go_sem])
      have k2_3 : w1.cell? ⟨w.heap.size + 1 + 1, 3, none⟩ = some (.slice none 0 0) := cell_later hb (by simp [go_sem])
      have z2 : ∀ o, w1.frozen? ⟨w.heap.size + 1 + 1, o, none⟩ = false := fun o => frozen_later hb (by simp) (by simp [go_sem])
      have HB := hide (below_on (unhide B0) hb)
      clear hb
      go_wp2_with fail
      refine (unhide G2 _ ((unhide H2).later (unhide HB))).mono ?_
      rintro e w2 ⟨rfl, hb⟩
      have s2 := hb.size
      replace z2 := fun o => frozen_later hb (World.block_lt_of_cell? _ _ k2_0) (z2 o)
      replace k0_0 := cell_later hb k0_0
      replace k0_1 := cell_later hb k0_1
      replace k0_2 := cell_later hb k0_2
      replace k0_3 := cell_later hb k0_3
      replace k1_0 := cell_later hb k1_0
      replace k1_1 := cell_later hb k1_1
      replace k1_2 := cell_later hb k1_2
      replace k1_3 := cell_later hb k1_3
      replace k2_0 := cell_later hb k2_0
      replace k2_1 := cell_later hb k2_1
      replace k2_2 := cell_later hb k2_2
      replace k2_3 := cell_later hb k2_3
      replace HB := hide (below_on (unhide HB) hb)
      clear hb
      go_wp2_with fail
      refine (mulQI q q' _ _ _ _ _ ((unhide J1).is.later (unhide HB)) ((unhide J2).is.later (unhide HB)) (unhide NZ) ((unhide J1).kn.mono (by omega)) ((unhide J1).kd.mono (by omega)) ((unhide J2).kn.mono (by omega)) ((unhide J2).kd.mono (by omega))).mono ?_
      rintro e w3 ⟨r, zs, us, rfl, hb, or, ar, nz, nu⟩
      replace or : AllOA _ _ _ _ := ⟨or, ar⟩
      have s3 := hb.size
      have RM : r.den.n ≤ maxLen := Nat.le_trans ar.tail.head.ar.cap ar.tail.head.ar.top
      have NN := hide (And.intro nz nu)
      replace z2 := fun o => frozen_later hb (World.block_lt_of_cell? _ _ k2_0) (z2 o)
      replace k2_0 := cell_later hb k2_0
      replace k2_1 := cell_later hb k2_1
      replace k2_2 := cell_later hb k2_2
      replace k2_3 := cell_later hb k2_3
      clear k0_0 k0_1 k0_2 k0_3 k1_0 k1_1 k1_2 k1_3
      have OR := hide (or)
      replace HB := hide (below_on (unhide HB) hb)
      clear hb
      clear or ar nz nu
      go_wp2_with fail
      refine (whereQ r _ _ zs us w2.heap.size w3.heap.size _ (unhide OR) (Nat.le_refl _) RM (unhide NN).1 (unhide NN).2 (by have := lowD_pos (N := nQ d * nQ d') (unhide NZ); omega)).mono ?_
      rintro e w4 ⟨v, dv, ok, rfl, hb, ov, hu⟩
      have s4 := hb.size
      have UU := hide hu
      replace z2 := fun o => frozen_later hb (World.block_lt_of_cell? _ _ k2_0) (z2 o)
      replace k2_0 := cell_later hb k2_0
      replace k2_1 := cell_later hb k2_1
      replace k2_2 := cell_later hb k2_2
      replace k2_3 := cell_later hb k2_3
      replace OR := hide ((unhide OR).later hb)
      have OV := hide (ov)
      replace HB := hide (below_on (unhide HB) hb)
      clear hb
      clear ov hu
      go_wp2
      refine bodyPost_ret (v := .tuple #[.agg #[.bool v.num.g, .slice v.num.a v.num.n v.num.c, .bool v.den.g, .slice v.den.a v.den.n v.den.c], .bool ok]) (by simp [results, Tryz.results25, go_sem, k2_0, k2_1, k2_2, k2_3]) rfl ?_
      exact retQ_fin (v := v) (d := dv) (R := w.heap.size + 1 + 1) (by omega) (unhide HB) (metQ_but (w5 := w4) (v := v) (G := w.heap.size + 1 + 1)) ((unhide OV).wide (by omega) (by omega)) (unhide UU)

set_option maxHeartbeats 4000000 in
theorem ofDivQ (q q' : QV) (d d' : QD) (w : World) (h : AllAr w [(q.num, d.num), (q.den, d.den)]) (h' : AllAr w [(q'.num, d'.num), (q'.den, d'.den)]) (hz : gQ d' = true → nQ d' ≠ 0) :
    Calls Tryz.prog 25 #[.agg #[.bool q.num.g, .slice q.num.a q.num.n q.num.c, .bool q.den.g, .slice q.den.a q.den.n q.den.c], .agg #[.bool q'.num.g, .slice q'.num.a q'.num.n q'.num.c, .bool q'.den.g, .slice q'.den.a q'.den.n q'.den.c], .func (Fn.func 36) #[] #[], .func (Fn.func 27) #[] #[]] w (RetQ w (AnsQ (gQ d && gQ d') (lowN (nQ d * dQ d') (dQ d * nQ d')) (lowD (nQ d * dQ d') (dQ d * nQ d')))) := by
  have H1 := hide h
  have H2 := hide h'
  clear h h'
  cases hg1 : gQ d
  · have G1 := hide (fun w1 (k : AllAr w1 [(q.num, d.num), (q.den, d.den)]) => goodQI q d w1 k)
    rw [hg1] at G1
    rw [Bool.false_and]
    clear hg1
    have B0 := hide (show Below w.heap.size w (((w.alloc (.cells #[.bool q.num.g, .slice q.num.a q.num.n q.num.c, .bool q.den.g, .slice q.den.a q.den.n q.den.c] 27)).alloc (.cells #[.bool q'.num.g, .slice q'.num.a q'.num.n q'.num.c, .bool q'.den.g, .slice q'.den.a q'.den.n q'.den.c] 27)).alloc (.cells #[.bool false, .slice none 0 0, .bool false, .slice none 0 0] 27)) from ((((Below.refl _ _).alloc (by simp) _).alloc (by simp) _).alloc (by simp <;> omega) _))
    go_enter Tryz.func25, Tryz.ntmps25
    go_wp2_with fail
    refine (unhide G1 _ ((unhide H1).later (unhide B0))).mono ?_
    rintro e w1 ⟨rfl, hb⟩
    have s1 : w.heap.size + 1 + 1 < w1.heap.size := by have := hb.size; simp at this; omega
    have k2_0 : w1.cell? ⟨w.heap.size + 1 + 1, 0, none⟩ = some (.bool false) := cell_later hb (by simp [go_sem])
    have k2_1 : w1.cell? ⟨w.heap.size + 1 + 1, 1, none⟩ = some (.slice none 0 0) := cell_later hb (by simp [go_sem])
    have k2_2 : w1.cell? ⟨w.heap.size + 1 + 1, 2, none⟩ = some (.bool false) := cell_later hb (by simp [go_sem])
    have k2_3 : w1.cell? ⟨w.heap.size + 1 + 1, 3, none⟩ = some (.slice none 0 0) := cell_later hb (by simp [go_sem])
    have z2 : ∀ o, w1.frozen? ⟨w.heap.size + 1 + 1, o, none⟩ = false := fun o => frozen_later hb (by simp) (by simp [go_sem])
    have HB := hide (below_on (unhide B0) hb)
    clear hb
    go_upto_region 3 with fail
    have hb : Below w1.heap.size w1 (w1.alloc (.cells #[.bool false, .slice none 0 0, .bool false, .slice none 0 0] 27)) := ((Below.refl _ _).alloc (by simp) _)
    have k3_0 : (w1.alloc (.cells #[.bool false, .slice none 0 0, .bool false, .slice none 0 0] 27)).cell? ⟨w1.heap.size, 0, none⟩ = some (.bool false) := by simp [go_sem]
    have k3_1 : (w1.alloc (.cells #[.bool false, .slice none 0 0, .bool false, .slice none 0 0] 27)).cell? ⟨w1.heap.size, 1, none⟩ = some (.slice none 0 0) := by simp [go_sem]
    have k3_2 : (w1.alloc (.cells #[.bool false, .slice none 0 0, .bool false, .slice none 0 0] 27)).cell? ⟨w1.heap.size, 2, none⟩ = some (.bool false) := by simp [go_sem]
    have k3_3 : (w1.alloc (.cells #[.bool false, .slice none 0 0, .bool false, .slice none 0 0] 27)).cell? ⟨w1.heap.size, 3, none⟩ = some (.slice none 0 0) := by simp [go_sem]
    replace k2_0 : (w1.alloc (.cells #[.bool false, .slice none 0 0, .bool false, .slice none 0 0] 27)).cell? ⟨w.heap.size + 1 + 1, 0, none⟩ = some (.bool false) := (ca_other k2_0)
    replace k2_1 : (w1.alloc (.cells #[.bool false, .slice none 0 0, .bool false, .slice none 0 0] 27)).cell? ⟨w.heap.size + 1 + 1, 1, none⟩ = some (.slice none 0 0) := (ca_other k2_1)
    replace k2_2 : (w1.alloc (.cells #[.bool false, .slice none 0 0, .bool false, .slice none 0 0] 27)).cell? ⟨w.heap.size + 1 + 1, 2, none⟩ = some (.bool false) := (ca_other k2_2)
    replace k2_3 : (w1.alloc (.cells #[.bool false, .slice none 0 0, .bool false, .slice none 0 0] 27)).cell? ⟨w.heap.size + 1 + 1, 3, none⟩ = some (.slice none 0 0) := (ca_other k2_3)
    replace z2 : ∀ o, (w1.alloc (.cells #[.bool false, .slice none 0 0, .bool false, .slice none 0 0] 27)).frozen? ⟨w.heap.size + 1 + 1, o, none⟩ = false := fun o => frozen_later hb (by omega) (z2 o)
    replace HB := hide (below_on (unhide HB) hb)
    have szwz := hb.size
    clear hb
    generalize (w1.alloc (.cells #[.bool false, .slice none 0 0, .bool false, .slice none 0 0] 27)) = wz at *
    go_wp2
    refine bodyPost_ret (v := .tuple #[.agg #[.bool false, .slice none 0 0, .bool false, .slice none 0 0], .bool false]) (by simp [results, Tryz.results25, go_sem, k2_0, k2_1, k2_2, k2_3]) rfl ?_
    exact retQ_fin (v := (⟨⟨false, none, 0, 0⟩, ⟨false, none, 0, 0⟩⟩ : QV)) (d := (⟨⟨false, []⟩, ⟨false, []⟩⟩ : QD)) (R := w.heap.size + 1 + 1) (by omega) (unhide HB) (metQ_but (w5 := wz) (v := (⟨⟨false, none, 0, 0⟩, ⟨false, none, 0, 0⟩⟩ : QV)) (G := w.heap.size + 1 + 1)) (zeroQ _ _ _) (ansQ_none _ _)
  · cases hg2 : gQ d'
    · have G1 := hide (fun w1 (k : AllAr w1 [(q.num, d.num), (q.den, d.den)]) => goodQI q d w1 k)
      have G2 := hide (fun w1 (k : AllAr w1 [(q'.num, d'.num), (q'.den, d'.den)]) => goodQI q' d' w1 k)
      rw [hg1] at G1
      rw [hg2] at G2
      rw [Bool.true_and]
      clear hg1 hg2
      have B0 := hide (show Below w.heap.size w (((w.alloc (.cells #[.bool q.num.g, .slice q.num.a q.num.n q.num.c, .bool q.den.g, .slice q.den.a q.den.n q.den.c] 27)).alloc (.cells #[.bool q'.num.g, .slice q'.num.a q'.num.n q'.num.c, .bool q'.den.g, .slice q'.den.a q'.den.n q'.den.c] 27)).alloc (.cells #[.bool false, .slice none 0 0, .bool false, .slice none 0 0] 27)) from ((((Below.refl _ _).alloc (by simp) _).alloc (by simp) _).alloc (by simp <;> omega) _))
      go_enter Tryz.func25, Tryz.ntmps25
      go_wp2_with fail
      refine (unhide G1 _ ((unhide H1).later (unhide B0))).mono ?_
      rintro e w1 ⟨rfl, hb⟩
      have s1 : w.heap.size + 1 + 1 < w1.heap.size := by have := hb.size; simp at this; omega
      have k1_0 : w1.cell? ⟨w.heap.size + 1, 0, none⟩ = some (.bool q'.num.g) := cell_later hb (by simp [go_sem])
      have k1_1 : w1.cell? ⟨w.heap.size + 1, 1, none⟩ = some (.slice q'.num.a q'.num.n q'.num.c) := cell_later hb (by simp [go_sem])
      have k1_2 : w1.cell? ⟨w.heap.size + 1, 2, none⟩ = some (.bool q'.den.g) := cell_later hb (by simp [go_sem])
      have k1_3 : w1.cell? ⟨w.heap.size + 1, 3, none⟩ = some (.slice q'.den.a q'.den.n q'.den.c) := cell_later hb (by simp [go_sem])
      have k2_0 : w1.cell? ⟨w.heap.size + 1 + 1, 0, none⟩ = some (.bool false) := cell_later hb (by simp [go_sem])
      have k2_1 : w1.cell? ⟨w.heap.size + 1 + 1, 1, none⟩ = some (.slice none 0 0) := cell_later hb (by simp [go_sem])
      have k2_2 : w1.cell? ⟨w.heap.size + 1 + 1, 2, none⟩ = some (.bool false) := cell_later hb (by simp [go_sem])
      have k2_3 : w1.cell? ⟨w.heap.size + 1 + 1, 3, none⟩ = some (.slice none 0 0) := cell_later hb (by simp [go_sem])
      have z2 : ∀ o, w1.frozen? ⟨w.heap.size + 1 + 1, o, none⟩ = false := fun o => frozen_later hb (by simp) (by simp [go_sem])
      have HB := hide (below_on (unhide B0) hb)
      clear hb
      go_wp2_with fail
      refine (unhide G2 _ ((unhide H2).later (unhide HB))).mono ?_
      rintro e w2 ⟨rfl, hb⟩
      have s2 := hb.size
      replace z2 := fun o => frozen_later hb (World.block_lt_of_cell? _ _ k2_0) (z2 o)
      replace k2_0 := cell_later hb k2_0
      replace k2_1 := cell_later hb k2_1
      replace k2_2 := cell_later hb k2_2
      replace k2_3 := cell_later hb k2_3
      clear k1_0 k1_1 k1_2 k1_3
      replace HB := hide (below_on (unhide HB) hb)
      clear hb
      go_upto_region 3 with fail
      have hb : Below w2.heap.size w2 (w2.alloc (.cells #[.bool false, .slice none 0 0, .bool false, .slice none 0 0] 27)) := ((Below.refl _ _).alloc (by simp) _)
      have k3_0 : (w2.alloc (.cells #[.bool false, .slice none 0 0, .bool false, .slice none 0 0] 27)).cell? ⟨w2.heap.size, 0, none⟩ = some (.bool false) := by simp [go_sem]
      have k3_1 : (w2.alloc (.cells #[.bool false, .slice none 0 0, .bool false, .slice none 0 0] 27)).cell? ⟨w2.heap.size, 1, none⟩ = some (.slice none 0 0) := by simp [go_sem]
      have k3_2 : (w2.alloc (.cells #[.bool false, .slice none 0 0, .bool false, .slice none 0 0] 27)).cell? ⟨w2.heap.size, 2, none⟩ = some (.bool false) := by simp [go_sem]
      have k3_3 : (w2.alloc (.cells #[.bool false, .slice none 0 0, .bool false, .slice none 0 0] 27)).cell? ⟨w2.heap.size, 3, none⟩ = some (.slice none 0 0) := by simp [go_sem]
      replace k2_0 : (w2.alloc (.cells #[.bool false, .slice none 0 0, .bool false, .slice none 0 0] 27)).cell? ⟨w.heap.size + 1 + 1, 0, none⟩ = some (.bool false) := (ca_other k2_0)
      replace k2_1 : (w2.alloc (.cells #[.bool false, .slice none 0 0, .bool false, .slice none 0 0] 27)).cell? ⟨w.heap.size + 1 + 1, 1, none⟩ = some (.slice none 0 0) := (ca_other k2_1)
      replace k2_2 : (w2.alloc (.cells #[.bool false, .slice none 0 0, .bool false, .slice none 0 0] 27)).cell? ⟨w.heap.size + 1 + 1, 2, none⟩ = some (.bool false) := (ca_other k2_2)
      replace k2_3 : (w2.alloc (.cells #[.bool false, .slice none 0 0, .bool false, .slice none 0 0] 27)).cell? ⟨w.heap.size + 1 + 1, 3, none⟩ = some (.slice none 0 0) := (ca_other k2_3)
      replace z2 : ∀ o, (w2.alloc (.cells #[.bool false, .slice none 0 0, .bool false, .slice none 0 0] 27)).frozen? ⟨w.heap.size + 1 + 1, o, none⟩ = false := fun o => frozen_later hb (by omega) (z2 o)
      replace HB := hide (below_on (unhide HB) hb)
      have szwz := hb.size
      clear hb
      generalize (w2.alloc (.cells #[.bool false, .slice none 0 0, .bool false, .slice none 0 0] 27)) = wz at *
      go_wp2
      refine bodyPost_ret (v := .tuple #[.agg #[.bool false, .slice none 0 0, .bool false, .slice none 0 0], .bool false]) (by simp [results, Tryz.results25, go_sem, k2_0, k2_1, k2_2, k2_3]) rfl ?_
      exact retQ_fin (v := (⟨⟨false, none, 0, 0⟩, ⟨false, none, 0, 0⟩⟩ : QV)) (d := (⟨⟨false, []⟩, ⟨false, []⟩⟩ : QD)) (R := w.heap.size + 1 + 1) (by omega) (unhide HB) (metQ_but (w5 := wz) (v := (⟨⟨false, none, 0, 0⟩, ⟨false, none, 0, 0⟩⟩ : QV)) (G := w.heap.size + 1 + 1)) (zeroQ _ _ _) (ansQ_none _ _)
    · have G1 := hide (fun w1 (k : AllAr w1 [(q.num, d.num), (q.den, d.den)]) => goodQI q d w1 k)
      have G2 := hide (fun w1 (k : AllAr w1 [(q'.num, d'.num), (q'.den, d'.den)]) => goodQI q' d' w1 k)
      rw [hg1] at G1
      rw [hg2] at G2
      have I1 := isGood_of (unhide H1) hg1
      have I2 := isGood_of (unhide H2) hg2
      have NZ : Hid (dQ d * nQ d' ≠ 0) := hide (Int.mul_ne_zero (by have := I1.pos; omega) (hz hg2))
      have J1 := hide I1
      have J2 := hide I2
      rw [Bool.true_and]
      clear hg1 hg2 I1 I2 hz
      have B0 := hide (show Below w.heap.size w (((w.alloc (.cells #[.bool q.num.g, .slice q.num.a q.num.n q.num.c, .bool q.den.g, .slice q.den.a q.den.n q.den.c] 27)).alloc (.cells #[.bool q'.num.g, .slice q'.num.a q'.num.n q'.num.c, .bool q'.den.g, .slice q'.den.a q'.den.n q'.den.c] 27)).alloc (.cells #[.bool false, .slice none 0 0, .bool false, .slice none 0 0] 27)) from ((((Below.refl _ _).alloc (by simp) _).alloc (by simp) _).alloc (by simp <;> omega) _))
      go_enter Tryz.func25, Tryz.ntmps25
      go_wp2_with fail
      refine (unhide G1 _ ((unhide H1).later (unhide B0))).mono ?_
      rintro e w1 ⟨rfl, hb⟩
      have s1 : w.heap.size + 1 + 1 < w1.heap.size := by have := hb.size; simp at this; omega
      have k0_0 : w1.cell? ⟨w.heap.size, 0, none⟩ = some (.bool q.num.g) := cell_later hb (by simp [go_sem])
      have k0_1 : w1.cell? ⟨w.heap.size, 1, none⟩ = some (.slice q.num.a q.num.n q.num.c) := cell_later hb (by simp [go_sem])
      have k0_2 : w1.cell? ⟨w.heap.size, 2, none⟩ = some (.bool q.den.g) := cell_later hb (by simp [go_sem])
      have k0_3 : w1.cell? ⟨w.heap.size, 3, none⟩ = some (.slice q.den.a q.den.n q.den.c) := cell_later hb (by simp [go_sem])
      have k1_0 : w1.cell? ⟨w.heap.size + 1, 0, none⟩ = some (.bool q'.num.g) := cell_later hb (by simp [go_sem])
      have k1_1 : w1.cell? ⟨w.heap.size + 1, 1, none⟩ = some (.slice q'.num.a q'.num.n q'.num.c) := cell_later hb (by simp [go_sem])
      have k1_2 : w1.cell? ⟨w.heap.size + 1, 2, none⟩ = some (.bool q'.den.g) := cell_later hb (by simp [go_sem])
      have k1_3 : w1.cell? ⟨w.heap.size + 1, 3, none⟩ = some (.slice q'.den.a q'.den.n q'.den.c) := cell_later hb (by simp [go_sem])
      have k2_0 : w1.cell? ⟨w.heap.size + 1 + 1, 0, none⟩ = some (.bool false) := cell_later hb (by simp [go_sem])
      have k2_1 : w1.cell? ⟨w.heap.size + 1 + 1, 1, none⟩ = some (.slice none 0 0) := cell_later hb (by simp [go_sem])
      have k2_2 : w1.cell? ⟨w.heap.size + 1 + 1, 2, none⟩ = some (.bool false) := cell_later hb (by simp [go_sem])
      have k2_3 : w1.cell? ⟨w.heap.size + 1 + 1, 3, none⟩ = some (.slice none 0 0) := cell_later hb (by simp [go_sem])
      have z2 : ∀ o, w1.frozen? ⟨w.heap.size + 1 + 1, o, none⟩ = false := fun o => frozen_later hb (by simp) (by simp [go_sem])
      have HB := hide (below_on (unhide B0) hb)
      clear hb
      go_wp2_with fail
      refine (unhide G2 _ ((unhide H2).later (unhide HB))).mono ?_
      rintro e w2 ⟨rfl, hb⟩
      have s2 := hb.size
      replace z2 := fun o => frozen_later hb (World.block_lt_of_cell? _ _ k2_0) (z2 o)
      replace k0_0 := cell_later hb k0_0
      replace k0_1 := cell_later hb k0_1
      replace k0_2 := cell_later hb k0_2
      replace k0_3 := cell_later hb k0_3
      replace k1_0 := cell_later hb k1_0
      replace k1_1 := cell_later hb k1_1
      replace k1_2 := cell_later hb k1_2
      replace k1_3 := cell_later hb k1_3
      replace k2_0 := cell_later hb k2_0
      replace k2_1 := cell_later hb k2_1
      replace k2_2 := cell_later hb k2_2
      replace k2_3 := cell_later hb k2_3
      replace HB := hide (below_on (unhide HB) hb)
      clear hb
      go_wp2_with fail
      refine (divQI q q' _ _ _ _ _ ((unhide J1).is.later (unhide HB)) ((unhide J2).is.later (unhide HB)) (unhide NZ) ((unhide J1).kn.mono (by omega)) ((unhide J1).kd.mono (by omega)) ((unhide J2).kn.mono (by omega)) ((unhide J2).kd.mono (by omega))).mono ?_
      rintro e w3 ⟨r, zs, us, rfl, hb, or, ar, nz, nu⟩
      replace or : AllOA _ _ _ _ := ⟨or, ar⟩
      have s3 := hb.size
      have RM : r.den.n ≤ maxLen := Nat.le_trans ar.tail.head.ar.cap ar.tail.head.ar.top
      have NN := hide (And.intro nz nu)
      replace z2 := fun o => frozen_later hb (World.block_lt_of_cell? _ _ k2_0) (z2 o)
      replace k2_0 := cell_later hb k2_0
      replace k2_1 := cell_later hb k2_1
      replace k2_2 := cell_later hb k2_2
      replace k2_3 := cell_later hb k2_3
      clear k0_0 k0_1 k0_2 k0_3 k1_0 k1_1 k1_2 k1_3
      have OR := hide (or)
      replace HB := hide (below_on (unhide HB) hb)
      clear hb
      clear or ar nz nu
      go_wp2_with fail
      refine (whereQ r _ _ zs us w2.heap.size w3.heap.size _ (unhide OR) (Nat.le_refl _) RM (unhide NN).1 (unhide NN).2 (by have := lowD_pos (N := nQ d * dQ d') (unhide NZ); omega)).mono ?_
      rintro e w4 ⟨v, dv, ok, rfl, hb, ov, hu⟩
      have s4 := hb.size
      have UU := hide hu
      replace z2 := fun o => frozen_later hb (World.block_lt_of_cell? _ _ k2_0) (z2 o)
      replace k2_0 := cell_later hb k2_0
      replace k2_1 := cell_later hb k2_1
      replace k2_2 := cell_later hb k2_2
      replace k2_3 := cell_later hb k2_3
      replace OR := hide ((unhide OR).later hb)
      have OV := hide (ov)
      replace HB := hide (below_on (unhide HB) hb)
      clear hb
      clear ov hu
      go_wp2
      refine bodyPost_ret (v := .tuple #[.agg #[.bool v.num.g, .slice v.num.a v.num.n v.num.c, .bool v.den.g, .slice v.den.a v.den.n v.den.c], .bool ok]) (by simp [results, Tryz.results25, go_sem, k2_0, k2_1, k2_2, k2_3]) rfl ?_
      exact retQ_fin (v := v) (d := dv) (R := w.heap.size + 1 + 1) (by omega) (unhide HB) (metQ_but (w5 := w4) (v := v) (G := w.heap.size + 1 + 1)) ((unhide OV).wide (by omega) (by omega)) (unhide UU)

set_option maxHeartbeats 2000000 in
theorem AddRI (q q' : QV) (d d' : QD) (w : World) (h : AllAr w [(q.num, d.num), (q.den, d.den)]) (h' : AllAr w [(q'.num, d'.num), (q'.den, d'.den)]) :
    Calls Tryz.prog 5 #[.agg #[.bool q.num.g, .slice q.num.a q.num.n q.num.c, .bool q.den.g, .slice q.den.a q.den.n q.den.c], .agg #[.bool q'.num.g, .slice q'.num.a q'.num.n q'.num.c, .bool q'.den.g, .slice q'.den.a q'.den.n q'.den.c]] w (RetQ w (AnsQ (gQ d && gQ d') (lowN (nQ d * dQ d' + nQ d' * dQ d) (dQ d * dQ d')) (lowD (nQ d * dQ d' + nQ d' * dQ d) (dQ d * dQ d')))) := by
  have H1 := hide h
  have H2 := hide h'
  clear h h'
  have B0 := hide (show Below w.heap.size w (((w.alloc (.cells #[.bool q.num.g, .slice q.num.a q.num.n q.num.c, .bool q.den.g, .slice q.den.a q.den.n q.den.c] 27)).alloc (.cells #[.bool q'.num.g, .slice q'.num.a q'.num.n q'.num.c, .bool q'.den.g, .slice q'.den.a q'.den.n q'.den.c] 27)).alloc (.cells #[.bool false, .slice none 0 0, .bool false, .slice none 0 0] 27)) from ((((Below.refl _ _).alloc (by simp) _).alloc (by simp) _).alloc (by simp <;> omega) _))
  go_enter Tryz.func5, Tryz.ntmps5
  go_wp2_with fail
  refine (ofAddQ q q' d d' _ ((unhide H1).later (unhide B0)) ((unhide H2).later (unhide B0))).mono ?_
  rintro e w2 ⟨v, dv, ok, rfl, hb, ov, hu⟩
  have s2 : w.heap.size + 1 + 1 < w2.heap.size := by have := hb.size; simp at this; omega
  have UU := hide hu
  have k2_0 : w2.cell? ⟨w.heap.size + 1 + 1, 0, none⟩ = some (.bool false) := cell_later hb (by simp [go_sem])
  have k2_1 : w2.cell? ⟨w.heap.size + 1 + 1, 1, none⟩ = some (.slice none 0 0) := cell_later hb (by simp [go_sem])
  have k2_2 : w2.cell? ⟨w.heap.size + 1 + 1, 2, none⟩ = some (.bool false) := cell_later hb (by simp [go_sem])
  have k2_3 : w2.cell? ⟨w.heap.size + 1 + 1, 3, none⟩ = some (.slice none 0 0) := cell_later hb (by simp [go_sem])
  have z2 : ∀ o, w2.frozen? ⟨w.heap.size + 1 + 1, o, none⟩ = false := fun o => frozen_later hb (by simp) (by simp [go_sem])
  have OV := hide (ov)
  have HB := hide (below_on (unhide B0) hb)
  clear hb
  clear ov hu
  go_wp2
  refine bodyPost_ret (v := .tuple #[.agg #[.bool v.num.g, .slice v.num.a v.num.n v.num.c, .bool v.den.g, .slice v.den.a v.den.n v.den.c], .bool ok]) (by simp [results, Tryz.results5, go_sem, k2_0, k2_1, k2_2, k2_3]) rfl ?_
  exact retQ_fin (v := v) (d := dv) (R := w.heap.size + 1 + 1) (by omega) (unhide HB) (metQ_but (w5 := w2) (v := v) (G := w.heap.size + 1 + 1)) ((unhide OV).wide (by simp) (by omega)) (unhide UU)

set_option maxHeartbeats 2000000 in
theorem SubRI (q q' : QV) (d d' : QD) (w : World) (h : AllAr w [(q.num, d.num), (q.den, d.den)]) (h' : AllAr w [(q'.num, d'.num), (q'.den, d'.den)]) :
    Calls Tryz.prog 7 #[.agg #[.bool q.num.g, .slice q.num.a q.num.n q.num.c, .bool q.den.g, .slice q.den.a q.den.n q.den.c], .agg #[.bool q'.num.g, .slice q'.num.a q'.num.n q'.num.c, .bool q'.den.g, .slice q'.den.a q'.den.n q'.den.c]] w (RetQ w (AnsQ (gQ d && gQ d') (lowN (nQ d * dQ d' - nQ d' * dQ d) (dQ d * dQ d')) (lowD (nQ d * dQ d' - nQ d' * dQ d) (dQ d * dQ d')))) := by
  have H1 := hide h
  have H2 := hide h'
  clear h h'
  have B0 := hide (show Below w.heap.size w (((w.alloc (.cells #[.bool q.num.g, .slice q.num.a q.num.n q.num.c, .bool q.den.g, .slice q.den.a q.den.n q.den.c] 27)).alloc (.cells #[.bool q'.num.g, .slice q'.num.a q'.num.n q'.num.c, .bool q'.den.g, .slice q'.den.a q'.den.n q'.den.c] 27)).alloc (.cells #[.bool false, .slice none 0 0, .bool false, .slice none 0 0] 27)) from ((((Below.refl _ _).alloc (by simp) _).alloc (by simp) _).alloc (by simp <;> omega) _))
  go_enter Tryz.func7, Tryz.ntmps7
  go_wp2_with fail
  refine (ofSubQ q q' d d' _ ((unhide H1).later (unhide B0)) ((unhide H2).later (unhide B0))).mono ?_
  rintro e w2 ⟨v, dv, ok, rfl, hb, ov, hu⟩
  have s2 : w.heap.size + 1 + 1 < w2.heap.size := by have := hb.size; simp at this; omega
  have UU := hide hu
  have k2_0 : w2.cell? ⟨w.heap.size + 1 + 1, 0, none⟩ = some (.bool false) := cell_later hb (by simp [go_sem])
  have k2_1 : w2.cell? ⟨w.heap.size + 1 + 1, 1, none⟩ = some (.slice none 0 0) := cell_later hb (by simp [go_sem])
  have k2_2 : w2.cell? ⟨w.heap.size + 1 + 1, 2, none⟩ = some (.bool false) := cell_later hb (by simp [go_sem])
  have k2_3 : w2.cell? ⟨w.heap.size + 1 + 1, 3, none⟩ = some (.slice none 0 0) := cell_later hb (by simp [go_sem])
  have z2 : ∀ o, w2.frozen? ⟨w.heap.size + 1 + 1, o, none⟩ = false := fun o => frozen_later hb (by simp) (by simp [go_sem])
  have OV := hide (ov)
  have HB := hide (below_on (unhide B0) hb)
  clear hb
  clear ov hu
  go_wp2
  refine bodyPost_ret (v := .tuple #[.agg #[.bool v.num.g, .slice v.num.a v.num.n v.num.c, .bool v.den.g, .slice v.den.a v.den.n v.den.c], .bool ok]) (by simp [results, Tryz.results7, go_sem, k2_0, k2_1, k2_2, k2_3]) rfl ?_
  exact retQ_fin (v := v) (d := dv) (R := w.heap.size + 1 + 1) (by omega) (unhide HB) (metQ_but (w5 := w2) (v := v) (G := w.heap.size + 1 + 1)) ((unhide OV).wide (by simp) (by omega)) (unhide UU)

set_option maxHeartbeats 2000000 in
theorem MulRI (q q' : QV) (d d' : QD) (w : World) (h : AllAr w [(q.num, d.num), (q.den, d.den)]) (h' : AllAr w [(q'.num, d'.num), (q'.den, d'.den)]) :
    Calls Tryz.prog 9 #[.agg #[.bool q.num.g, .slice q.num.a q.num.n q.num.c, .bool q.den.g, .slice q.den.a q.den.n q.den.c], .agg #[.bool q'.num.g, .slice q'.num.a q'.num.n q'.num.c, .bool q'.den.g, .slice q'.den.a q'.den.n q'.den.c]] w (RetQ w (AnsQ (gQ d && gQ d') (lowN (nQ d * nQ d') (dQ d * dQ d')) (lowD (nQ d * nQ d') (dQ d * dQ d')))) := by
  have H1 := hide h
  have H2 := hide h'
  clear h h'
  have B0 := hide (show Below w.heap.size w (((w.alloc (.cells #[.bool q.num.g, .slice q.num.a q.num.n q.num.c, .bool q.den.g, .slice q.den.a q.den.n q.den.c] 27)).alloc (.cells #[.bool q'.num.g, .slice q'.num.a q'.num.n q'.num.c, .bool q'.den.g, .slice q'.den.a q'.den.n q'.den.c] 27)).alloc (.cells #[.bool false, .slice none 0 0, .bool false, .slice none 0 0] 27)) from ((((Below.refl _ _).alloc (by simp) _).alloc (by simp) _).alloc (by simp <;> omega) _))
  go_enter Tryz.func9, Tryz.ntmps9
  go_wp2_with fail
  refine (ofMulQ q q' d d' _ ((unhide H1).later (unhide B0)) ((unhide H2).later (unhide B0))).mono ?_
  rintro e w2 ⟨v, dv, ok, rfl, hb, ov, hu⟩
  have s2 : w.heap.size + 1 + 1 < w2.heap.size := by have := hb.size; simp at this; omega
  have UU := hide hu
  have k2_0 : w2.cell? ⟨w.heap.size + 1 + 1, 0, none⟩ = some (.bool false) := cell_later hb (by simp [go_sem])
  have k2_1 : w2.cell? ⟨w.heap.size + 1 + 1, 1, none⟩ = some (.slice none 0 0) := cell_later hb (by simp [go_sem])
  have k2_2 : w2.cell? ⟨w.heap.size + 1 + 1, 2, none⟩ = some (.bool false) := cell_later hb (by simp [go_sem])
  have k2_3 : w2.cell? ⟨w.heap.size + 1 + 1, 3, none⟩ = some (.slice none 0 0) := cell_later hb (by simp [go_sem])
  have z2 : ∀ o, w2.frozen? ⟨w.heap.size + 1 + 1, o, none⟩ = false := fun o => frozen_later hb (by simp) (by simp [go_sem])
  have OV := hide (ov)
  have HB := hide (below_on (unhide B0) hb)
  clear hb
  clear ov hu
  go_wp2
  refine bodyPost_ret (v := .tuple #[.agg #[.bool v.num.g, .slice v.num.a v.num.n v.num.c, .bool v.den.g, .slice v.den.a v.den.n v.den.c], .bool ok]) (by simp [results, Tryz.results9, go_sem, k2_0, k2_1, k2_2, k2_3]) rfl ?_
  exact retQ_fin (v := v) (d := dv) (R := w.heap.size + 1 + 1) (by omega) (unhide HB) (metQ_but (w5 := w2) (v := v) (G := w.heap.size + 1 + 1)) ((unhide OV).wide (by simp) (by omega)) (unhide UU)

set_option maxHeartbeats 2000000 in
theorem DivRI (q q' : QV) (d d' : QD) (w : World) (h : AllAr w [(q.num, d.num), (q.den, d.den)]) (h' : AllAr w [(q'.num, d'.num), (q'.den, d'.den)]) :
    Calls Tryz.prog 11 #[.agg #[.bool q.num.g, .slice q.num.a q.num.n q.num.c, .bool q.den.g, .slice q.den.a q.den.n q.den.c], .agg #[.bool q'.num.g, .slice q'.num.a q'.num.n q'.num.c, .bool q'.den.g, .slice q'.den.a q'.den.n q'.den.c]] w (RetQ w (AnsQ ((gQ d && gQ d') && decide (nQ d' ≠ 0)) (lowN (nQ d * dQ d') (dQ d * nQ d')) (lowD (nQ d * dQ d') (dQ d * nQ d')))) := by
  have H1 := hide h
  have H2 := hide h'
  clear h h'
  by_cases hz0 : q'.num.n = 0
  · have e0 : ((gQ d && gQ d') && decide (nQ d' ≠ 0)) = false := by
      cases hg : gQ d'
      · simp
      · have hi := (isGood_of (unhide H2) hg).is.1.zero_iff.1 hz0
        simp [hi]
    rw [e0]
    have NO := hide (fun w1 => nought_any q'.num.g q'.num.a q'.num.n q'.num.c w1 (Nat.le_trans (unhide H2).head.ar.cap (unhide H2).head.ar.top))
    rw [show decide (q'.num.n = 0) = true from decide_eq_true hz0] at NO
    clear hz0 e0
    have B0 := hide (show Below w.heap.size w (((w.alloc (.cells #[.bool q.num.g, .slice q.num.a q.num.n q.num.c, .bool q.den.g, .slice q.den.a q.den.n q.den.c] 27)).alloc (.cells #[.bool q'.num.g, .slice q'.num.a q'.num.n q'.num.c, .bool q'.den.g, .slice q'.den.a q'.den.n q'.den.c] 27)).alloc (.cells #[.bool false, .slice none 0 0, .bool false, .slice none 0 0] 27)) from ((((Below.refl _ _).alloc (by simp) _).alloc (by simp) _).alloc (by simp <;> omega) _))
    go_enter Tryz.func11, Tryz.ntmps11
    go_wp2_with fail
    refine (unhide NO _).mono ?_
    rintro e w1 ⟨rfl, hb⟩
    have s1 : w.heap.size + 1 + 1 < w1.heap.size := by have := hb.size; simp at this; omega
    have k2_0 : w1.cell? ⟨w.heap.size + 1 + 1, 0, none⟩ = some (.bool false) := cell_later hb (by simp [go_sem])
    have k2_1 : w1.cell? ⟨w.heap.size + 1 + 1, 1, none⟩ = some (.slice none 0 0) := cell_later hb (by simp [go_sem])
    have k2_2 : w1.cell? ⟨w.heap.size + 1 + 1, 2, none⟩ = some (.bool false) := cell_later hb (by simp [go_sem])
    have k2_3 : w1.cell? ⟨w.heap.size + 1 + 1, 3, none⟩ = some (.slice none 0 0) := cell_later hb (by simp [go_sem])
    have z2 : ∀ o, w1.frozen? ⟨w.heap.size + 1 + 1, o, none⟩ = false := fun o => frozen_later hb (by simp) (by simp [go_sem])
    have HB := hide (below_on (unhide B0) hb)
    clear hb
    go_wp2
    refine bodyPost_ret (v := .tuple #[.agg #[.bool false, .slice none 0 0, .bool false, .slice none 0 0], .bool false]) (by simp [results, Tryz.results11, go_sem, k2_0, k2_1, k2_2, k2_3]) rfl ?_
    exact retQ_fin (v := (⟨⟨false, none, 0, 0⟩, ⟨false, none, 0, 0⟩⟩ : QV)) (d := (⟨⟨false, []⟩, ⟨false, []⟩⟩ : QD)) (R := w.heap.size + 1 + 1) (by omega) (unhide HB) (metQ_but (w5 := w1) (v := (⟨⟨false, none, 0, 0⟩, ⟨false, none, 0, 0⟩⟩ : QV)) (G := w.heap.size + 1 + 1)) (zeroQ _ _ _) (ansQ_none _ _)
  · have hz1 : gQ d' = true → nQ d' ≠ 0 := fun hg e => hz0 ((isGood_of (unhide H2) hg).is.1.zero_iff.2 e)
    have e0 : ((gQ d && gQ d') && decide (nQ d' ≠ 0)) = (gQ d && gQ d') := by
      cases hg : gQ d'
      · simp
      · simp [hz1 hg]
    rw [e0]
    have NO := hide (fun w1 => nought_any q'.num.g q'.num.a q'.num.n q'.num.c w1 (Nat.le_trans (unhide H2).head.ar.cap (unhide H2).head.ar.top))
    rw [show decide (q'.num.n = 0) = false from decide_eq_false hz0] at NO
    have HZ := hide hz1
    clear hz0 hz1 e0
    have B0 := hide (show Below w.heap.size w (((w.alloc (.cells #[.bool q.num.g, .slice q.num.a q.num.n q.num.c, .bool q.den.g, .slice q.den.a q.den.n q.den.c] 27)).alloc (.cells #[.bool q'.num.g, .slice q'.num.a q'.num.n q'.num.c, .bool q'.den.g, .slice q'.den.a q'.den.n q'.den.c] 27)).alloc (.cells #[.bool false, .slice none 0 0, .bool false, .slice none 0 0] 27)) from ((((Below.refl _ _).alloc (by simp) _).alloc (by simp) _).alloc (by simp <;> omega) _))
    go_enter Tryz.func11, Tryz.ntmps11
    go_wp2_with fail
    refine (unhide NO _).mono ?_
    rintro e w1 ⟨rfl, hb⟩
    have s1 : w.heap.size + 1 + 1 < w1.heap.size := by have := hb.size; simp at this; omega
    have k0_0 : w1.cell? ⟨w.heap.size, 0, none⟩ = some (.bool q.num.g) := cell_later hb (by simp [go_sem])
    have k0_1 : w1.cell? ⟨w.heap.size, 1, none⟩ = some (.slice q.num.a q.num.n q.num.c) := cell_later hb (by simp [go_sem])
    have k0_2 : w1.cell? ⟨w.heap.size, 2, none⟩ = some (.bool q.den.g) := cell_later hb (by simp [go_sem])
    have k0_3 : w1.cell? ⟨w.heap.size, 3, none⟩ = some (.slice q.den.a q.den.n q.den.c) := cell_later hb (by simp [go_sem])
    have k1_0 : w1.cell? ⟨w.heap.size + 1, 0, none⟩ = some (.bool q'.num.g) := cell_later hb (by simp [go_sem])
    have k1_1 : w1.cell? ⟨w.heap.size + 1, 1, none⟩ = some (.slice q'.num.a q'.num.n q'.num.c) := cell_later hb (by simp [go_sem])
    have k1_2 : w1.cell? ⟨w.heap.size + 1, 2, none⟩ = some (.bool q'.den.g) := cell_later hb (by simp [go_sem])
    have k1_3 : w1.cell? ⟨w.heap.size + 1, 3, none⟩ = some (.slice q'.den.a q'.den.n q'.den.c) := cell_later hb (by simp [go_sem])
    have k2_0 : w1.cell? ⟨w.heap.size + 1 + 1, 0, none⟩ = some (.bool false) := cell_later hb (by simp [go_sem])
    have k2_1 : w1.cell? ⟨w.heap.size + 1 + 1, 1, none⟩ = some (.slice none 0 0) := cell_later hb (by simp [go_sem])
    have k2_2 : w1.cell? ⟨w.heap.size + 1 + 1, 2, none⟩ = some (.bool false) := cell_later hb (by simp [go_sem])
    have k2_3 : w1.cell? ⟨w.heap.size + 1 + 1, 3, none⟩ = some (.slice none 0 0) := cell_later hb (by simp [go_sem])
    have z2 : ∀ o, w1.frozen? ⟨w.heap.size + 1 + 1, o, none⟩ = false := fun o => frozen_later hb (by simp) (by simp [go_sem])
    have HB := hide (below_on (unhide B0) hb)
    clear hb
    go_wp2_with fail
    refine (ofDivQ q q' d d' _ ((unhide H1).later (unhide HB)) ((unhide H2).later (unhide HB)) (unhide HZ)).mono ?_
    rintro e w2 ⟨v, dv, ok, rfl, hb, ov, hu⟩
    have s2 := hb.size
    have UU := hide hu
    replace z2 := fun o => frozen_later hb (World.block_lt_of_cell? _ _ k2_0) (z2 o)
    replace k2_0 := cell_later hb k2_0
    replace k2_1 := cell_later hb k2_1
    replace k2_2 := cell_later hb k2_2
    replace k2_3 := cell_later hb k2_3
    clear k0_0 k0_1 k0_2 k0_3 k1_0 k1_1 k1_2 k1_3
    have OV := hide (ov)
    replace HB := hide (below_on (unhide HB) hb)
    clear hb
    clear ov hu
    go_wp2
    refine bodyPost_ret (v := .tuple #[.agg #[.bool v.num.g, .slice v.num.a v.num.n v.num.c, .bool v.den.g, .slice v.den.a v.den.n v.den.c], .bool ok]) (by simp [results, Tryz.results11, go_sem, k2_0, k2_1, k2_2, k2_3]) rfl ?_
    exact retQ_fin (v := v) (d := dv) (R := w.heap.size + 1 + 1) (by omega) (unhide HB) (metQ_but (w5 := w2) (v := v) (G := w.heap.size + 1 + 1)) ((unhide OV).wide (by omega) (by omega)) (unhide UU)

set_option maxHeartbeats 4000000 in
theorem fitsQS (q : QV) (N D : Int) (w : World) (h : IsQ w q N D) (hD : 0 < D) :
    Calls Tryz.prog 29 #[.agg #[.bool q.num.g, .slice q.num.a q.num.n q.num.c, .bool q.den.g, .slice q.den.a q.den.n q.den.c]] w (RetQ w (AnsQ true N D)) := by
  obtain ⟨⟨xs, a1, n1⟩, ⟨us, a2, n2⟩⟩ := h
  have X1 := hide a1.ar
  have X2 := hide a2.ar
  have SG : Hid (sU q.num.g (N.natAbs : Int) = N ∧ sU false (D.natAbs : Int) = D) := hide ⟨by rw [a1.sg]; unfold sU; by_cases e : N < 0 <;> simp [e] <;> omega, by unfold sU; simp; omega⟩
  have VV : Hid (N.natAbs = N.natAbs ∧ D.natAbs = D.natAbs) := hide ⟨rfl, rfl⟩
  have LL : Hid (xs.length = q.num.n ∧ us.length = q.den.n) := hide ⟨a1.ar.len, a2.ar.len⟩
  have N1 := hide n1
  have N2 := hide n2
  clear a1 a2 n1 n2
  by_cases hf : q.num.n ≤ 40 ∧ q.den.n ≤ 40
  · have t1 : decide ((40 : Int) < (q.num.n : Int)) = false := by simp; omega
    have t2 : decide ((40 : Int) < (q.den.n : Int)) = false := by simp; omega
    have l1 : q.num.n ≤ 1048576 := by omega
    have l2 : q.den.n ≤ 1048576 := by omega
    have HF := hide hf
    clear hf
    go_enter Tryz.func29, Tryz.ntmps29
    go_upto_region 3 with fail
    have hb : Below w.heap.size w ((w.alloc (.cells #[.bool q.num.g, .slice q.num.a q.num.n q.num.c, .bool q.den.g, .slice q.den.a q.den.n q.den.c] 27)).alloc (.cells #[.bool false, .slice none 0 0, .bool false, .slice none 0 0] 27)) := (((Below.refl _ _).alloc (by simp) _).alloc (by simp) _)
    have k0_0 : ((w.alloc (.cells #[.bool q.num.g, .slice q.num.a q.num.n q.num.c, .bool q.den.g, .slice q.den.a q.den.n q.den.c] 27)).alloc (.cells #[.bool false, .slice none 0 0, .bool false, .slice none 0 0] 27)).cell? ⟨w.heap.size, 0, none⟩ = some (.bool q.num.g) := by simp [go_sem]
    have k0_1 : ((w.alloc (.cells #[.bool q.num.g, .slice q.num.a q.num.n q.num.c, .bool q.den.g, .slice q.den.a q.den.n q.den.c] 27)).alloc (.cells #[.bool false, .slice none 0 0, .bool false, .slice none 0 0] 27)).cell? ⟨w.heap.size, 1, none⟩ = some (.slice q.num.a q.num.n q.num.c) := by simp [go_sem]
    have k0_3 : ((w.alloc (.cells #[.bool q.num.g, .slice q.num.a q.num.n q.num.c, .bool q.den.g, .slice q.den.a q.den.n q.den.c] 27)).alloc (.cells #[.bool false, .slice none 0 0, .bool false, .slice none 0 0] 27)).cell? ⟨w.heap.size, 3, none⟩ = some (.slice q.den.a q.den.n q.den.c) := by simp [go_sem]
    have k1_0 : ((w.alloc (.cells #[.bool q.num.g, .slice q.num.a q.num.n q.num.c, .bool q.den.g, .slice q.den.a q.den.n q.den.c] 27)).alloc (.cells #[.bool false, .slice none 0 0, .bool false, .slice none 0 0] 27)).cell? ⟨w.heap.size + 1, 0, none⟩ = some (.bool false) := by simp [go_sem]
    have k1_1 : ((w.alloc (.cells #[.bool q.num.g, .slice q.num.a q.num.n q.num.c, .bool q.den.g, .slice q.den.a q.den.n q.den.c] 27)).alloc (.cells #[.bool false, .slice none 0 0, .bool false, .slice none 0 0] 27)).cell? ⟨w.heap.size + 1, 1, none⟩ = some (.slice none 0 0) := by simp [go_sem]
    have k1_2 : ((w.alloc (.cells #[.bool q.num.g, .slice q.num.a q.num.n q.num.c, .bool q.den.g, .slice q.den.a q.den.n q.den.c] 27)).alloc (.cells #[.bool false, .slice none 0 0, .bool false, .slice none 0 0] 27)).cell? ⟨w.heap.size + 1, 2, none⟩ = some (.bool false) := by simp [go_sem]
    have k1_3 : ((w.alloc (.cells #[.bool q.num.g, .slice q.num.a q.num.n q.num.c, .bool q.den.g, .slice q.den.a q.den.n q.den.c] 27)).alloc (.cells #[.bool false, .slice none 0 0, .bool false, .slice none 0 0] 27)).cell? ⟨w.heap.size + 1, 3, none⟩ = some (.slice none 0 0) := by simp [go_sem]
    have z1 : ∀ o, ((w.alloc (.cells #[.bool q.num.g, .slice q.num.a q.num.n q.num.c, .bool q.den.g, .slice q.den.a q.den.n q.den.c] 27)).alloc (.cells #[.bool false, .slice none 0 0, .bool false, .slice none 0 0] 27)).frozen? ⟨w.heap.size + 1, o, none⟩ = false := fun o => by simp [go_sem]
    have A1 := hide ((unhide X1).later hb)
    have A2 := hide ((unhide X2).later hb)
    have szw0 : w.heap.size + 2 ≤ ((w.alloc (.cells #[.bool q.num.g, .slice q.num.a q.num.n q.num.c, .bool q.den.g, .slice q.den.a q.den.n q.den.c] 27)).alloc (.cells #[.bool false, .slice none 0 0, .bool false, .slice none 0 0] 27)).heap.size := by simp
    have HB := hide hb
    clear hb
    generalize ((w.alloc (.cells #[.bool q.num.g, .slice q.num.a q.num.n q.num.c, .bool q.den.g, .slice q.den.a q.den.n q.den.c] 27)).alloc (.cells #[.bool false, .slice none 0 0, .bool false, .slice none 0 0] 27)) = w0 at *
    have ne0_1 : w.heap.size ≠ w.heap.size + 1 := by omega
    go_region_held3 (fun w' => w'.cell? ⟨w.heap.size, 0, none⟩ = some (.bool q.num.g) ∧ w'.cell? ⟨w.heap.size, 1, none⟩ = some (.slice q.num.a q.num.n q.num.c) ∧ w'.cell? ⟨w.heap.size, 3, none⟩ = some (.slice q.den.a q.den.n q.den.c)) (with_reducible (first | exact ⟨k0_0, k0_1, k0_3⟩ | exact ⟨cd_other k0_0, cd_other k0_1, cd_other k0_3⟩ | exact ⟨cs_other (cs_other (cs_other (cs_other (k0_0) ne0_1) ne0_1) ne0_1) ne0_1, cs_other (cs_other (cs_other (cs_other (k0_1) ne0_1) ne0_1) ne0_1) ne0_1, cs_other (cs_other (cs_other (cs_other (k0_3) ne0_1) ne0_1) ne0_1) ne0_1⟩ | fail))
      (first
      | (go_at_call_of 67 (Value.bool q.num.g); refine (makeS_v _ q.num.a q.num.n q.num.c xs _ _ ?_ (unhide N1) l1).mono ?_; exact (unhide A1).later (Below.refl _ _).drew; rintro e w1 ⟨x1, rfl, hb, ow1, ar1⟩; have hbx : Below w0.heap.size w0 w1 := below_of_drew hb; have szw1 := hbx.size; replace z1 := fun o => frozen_later hbx (World.block_lt_of_cell? _ _ k1_0) (z1 o); replace k0_0 := cell_later hbx k0_0; replace k0_1 := cell_later hbx k0_1; replace k0_3 := cell_later hbx k0_3; replace k1_0 := cell_later hbx k1_0; replace k1_1 := cell_later hbx k1_1; replace k1_2 := cell_later hbx k1_2; replace k1_3 := cell_later hbx k1_3; replace A1 := hide ((unhide A1).later hbx); replace A2 := hide ((unhide A2).later hbx); have eo := unhide SG; rw [eo.1] at ow1 ar1; replace ow1 : AllOA w0.heap.size w1.heap.size w1 [(x1, ⟨decide (N < 0), xs⟩)] := ⟨ow1, ar1⟩; clear ar1 eo; have O1 := hide (ow1); have HBr := hide hbx; clear hbx hb ow1)
      | (go_at_call_of 67 (Value.bool false); refine (makeS_v false q.den.a q.den.n q.den.c us _ _ ?_ (unhide N2) l2).mono ?_; exact (unhide A2).later (Below.refl _ _); rintro e w2 ⟨x2, rfl, hb, ow2, ar2⟩; have hbx : Below w1.heap.size w1 w2 := hb; have szw2 := hbx.size; replace z1 := fun o => frozen_later hbx (World.block_lt_of_cell? _ _ k1_0) (z1 o); replace k0_0 := cell_later hbx k0_0; replace k0_1 := cell_later hbx k0_1; replace k0_3 := cell_later hbx k0_3; replace k1_0 := cell_later hbx k1_0; replace k1_1 := cell_later hbx k1_1; replace k1_2 := cell_later hbx k1_2; replace k1_3 := cell_later hbx k1_3; replace A1 := hide ((unhide A1).later hbx); replace A2 := hide ((unhide A2).later hbx); replace O1 := hide ((unhide O1).later hbx); rw [(unhide SG).2] at ow2 ar2; replace ow2 : AllOA _ _ _ _ := ⟨ow2, ar2⟩; clear ar2; have O2 := hide (ow2); have HBr := hide (below_on (unhide HBr) hbx); clear hbx hb ow2))
    replace HB := hide (below_on (unhide HB) (unhide HBr))
    clear HBr
    have OO := hide (((unhide O1).join (unhide O2) (by omega) (by omega)).wide (lo' := w.heap.size + 1 + 1) (hi' := w2.heap.size) (by omega) (by omega))
    go_wp2
    refine bodyPost_ret (v := .tuple #[.agg #[.bool x1.g, .slice x1.a x1.n x1.c, .bool x2.g, .slice x2.a x2.n x2.c], .bool true]) (by simp [results, Tryz.results29, go_sem, k1_0, k1_1, k1_2, k1_3]) rfl ?_
    exact retQ_fin (v := ⟨x1, x2⟩) (d := ⟨⟨decide (N < 0), xs⟩, ⟨decide (D < 0), us⟩⟩) (R := w.heap.size + 1) (by omega) (unhide HB) (metQ_but (w5 := w2) (v := ⟨x1, x2⟩) (G := w.heap.size + 1)) (unhide OO) (.inl ⟨rfl, xs, us, unhide N1, unhide N2, .inl ⟨(unhide LL).1 ▸ (unhide HF).1, (unhide LL).2 ▸ (unhide HF).2, rfl, rfl⟩⟩)
  by_cases h1 : 40 < q.num.n
  · have t1 : decide ((40 : Int) < (q.num.n : Int)) = true := by simp; omega
    have HF := hide hf
    clear hf
    have HB := hide (show Below w.heap.size w ((w.alloc (.cells #[.bool q.num.g, .slice q.num.a q.num.n q.num.c, .bool q.den.g, .slice q.den.a q.den.n q.den.c] 27)).alloc (.cells #[.bool false, .slice none 0 0, .bool false, .slice none 0 0] 27)) from (((Below.refl _ _).alloc (by simp) _).alloc (by simp) _))
    go_enter Tryz.func29, Tryz.ntmps29
    go_wp2
    refine bodyPost_ret (v := .tuple #[.agg #[.bool false, .slice none 0 0, .bool false, .slice none 0 0], .bool false]) (by simp [results, Tryz.results29, go_sem]) rfl ?_
    exact ⟨(⟨⟨false, none, 0, 0⟩, ⟨false, none, 0, 0⟩⟩ : QV), (⟨⟨false, []⟩, ⟨false, []⟩⟩ : QD), false, rfl, unhide HB, zeroQ _ _ _, .inl ⟨rfl, xs, us, unhide N1, unhide N2, .inr ⟨by rw [(unhide LL).1, (unhide LL).2]; have := unhide HF; omega, rfl, rfl⟩⟩⟩
  · have t1 : decide ((40 : Int) < (q.num.n : Int)) = false := by simp; omega
    have t2 : decide ((40 : Int) < (q.den.n : Int)) = true := by simp; omega
    have HF := hide hf
    clear hf
    have HB := hide (show Below w.heap.size w ((w.alloc (.cells #[.bool q.num.g, .slice q.num.a q.num.n q.num.c, .bool q.den.g, .slice q.den.a q.den.n q.den.c] 27)).alloc (.cells #[.bool false, .slice none 0 0, .bool false, .slice none 0 0] 27)) from (((Below.refl _ _).alloc (by simp) _).alloc (by simp) _))
    go_enter Tryz.func29, Tryz.ntmps29
    go_wp2
    refine bodyPost_ret (v := .tuple #[.agg #[.bool false, .slice none 0 0, .bool false, .slice none 0 0], .bool false]) (by simp [results, Tryz.results29, go_sem]) rfl ?_
    exact ⟨(⟨⟨false, none, 0, 0⟩, ⟨false, none, 0, 0⟩⟩ : QV), (⟨⟨false, []⟩, ⟨false, []⟩⟩ : QD), false, rfl, unhide HB, zeroQ _ _ _, .inl ⟨rfl, xs, us, unhide N1, unhide N2, .inr ⟨by rw [(unhide LL).1, (unhide LL).2]; have := unhide HF; omega, rfl, rfl⟩⟩⟩

set_option maxHeartbeats 4000000 in
theorem AddRS (q q' : QV) (d d' : QD) (w : World) (h : AllAr w [(q.num, d.num), (q.den, d.den)]) (h' : AllAr w [(q'.num, d'.num), (q'.den, d'.den)]) :
    Calls Tryz.prog 6 #[.agg #[.bool q.num.g, .slice q.num.a q.num.n q.num.c, .bool q.den.g, .slice q.den.a q.den.n q.den.c], .agg #[.bool q'.num.g, .slice q'.num.a q'.num.n q'.num.c, .bool q'.den.g, .slice q'.den.a q'.den.n q'.den.c]] w (RetQ w (AnsQ (gQ d && gQ d') (lowN (nQ d * dQ d' + nQ d' * dQ d) (dQ d * dQ d')) (lowD (nQ d * dQ d' + nQ d' * dQ d) (dQ d * dQ d')))) := by
  have H1 := hide h
  have H2 := hide h'
  clear h h'
  have GB := hide (fun w1 (k : AllAr w1 [(q.num, d.num), (q.den, d.den)]) (k' : AllAr w1 [(q'.num, d'.num), (q'.den, d'.den)]) => bothQS q q' d d' w1 k k')
  cases hP : (gQ d && gQ d')
  · rw [hP] at GB
    clear hP
    have B0 := hide (show Below w.heap.size w (((w.alloc (.cells #[.bool q.num.g, .slice q.num.a q.num.n q.num.c, .bool q.den.g, .slice q.den.a q.den.n q.den.c] 27)).alloc (.cells #[.bool q'.num.g, .slice q'.num.a q'.num.n q'.num.c, .bool q'.den.g, .slice q'.den.a q'.den.n q'.den.c] 27)).alloc (.cells #[.bool false, .slice none 0 0, .bool false, .slice none 0 0] 27)) from ((((Below.refl _ _).alloc (by simp) _).alloc (by simp) _).alloc (by simp <;> omega) _))
    go_enter Tryz.func6, Tryz.ntmps6
    go_wp2_with fail
    refine (unhide GB _ ((unhide H1).later (unhide B0)) ((unhide H2).later (unhide B0))).mono ?_
    rintro e w1 ⟨rfl, hb⟩
    have s1 : w.heap.size + 1 + 1 < w1.heap.size := by have := hb.size; simp at this; omega
    have k2_0 : w1.cell? ⟨w.heap.size + 1 + 1, 0, none⟩ = some (.bool false) := cell_later hb (by simp [go_sem])
    have k2_1 : w1.cell? ⟨w.heap.size + 1 + 1, 1, none⟩ = some (.slice none 0 0) := cell_later hb (by simp [go_sem])
    have k2_2 : w1.cell? ⟨w.heap.size + 1 + 1, 2, none⟩ = some (.bool false) := cell_later hb (by simp [go_sem])
    have k2_3 : w1.cell? ⟨w.heap.size + 1 + 1, 3, none⟩ = some (.slice none 0 0) := cell_later hb (by simp [go_sem])
    have z2 : ∀ o, w1.frozen? ⟨w.heap.size + 1 + 1, o, none⟩ = false := fun o => frozen_later hb (by simp) (by simp [go_sem])
    have HB := hide (below_on (unhide B0) hb)
    clear hb
    go_wp2
    refine bodyPost_ret (v := .tuple #[.agg #[.bool false, .slice none 0 0, .bool false, .slice none 0 0], .bool false]) (by simp [results, Tryz.results6, go_sem, k2_0, k2_1, k2_2, k2_3]) rfl ?_
    exact retQ_fin (v := (⟨⟨false, none, 0, 0⟩, ⟨false, none, 0, 0⟩⟩ : QV)) (d := (⟨⟨false, []⟩, ⟨false, []⟩⟩ : QD)) (R := w.heap.size + 1 + 1) (by omega) (unhide HB) (metQ_but (w5 := w1) (v := (⟨⟨false, none, 0, 0⟩, ⟨false, none, 0, 0⟩⟩ : QV)) (G := w.heap.size + 1 + 1)) (zeroQ _ _ _) (ansQ_none _ _)
  · have hg1 : gQ d = true := by revert hP; cases gQ d <;> simp
    have hg2 : gQ d' = true := by revert hP; cases gQ d' <;> simp
    have I1 := isGood_of (unhide H1) hg1
    have I2 := isGood_of (unhide H2) hg2
    have NZ : Hid (dQ d * dQ d' ≠ 0) := hide (Int.mul_ne_zero (by have := I1.pos; omega) (by have := I2.pos; omega))
    have J1 := hide I1
    have J2 := hide I2
    rw [hP] at GB

    clear hP hg1 hg2 I1 I2
    have B0 := hide (show Below w.heap.size w (((w.alloc (.cells #[.bool q.num.g, .slice q.num.a q.num.n q.num.c, .bool q.den.g, .slice q.den.a q.den.n q.den.c] 27)).alloc (.cells #[.bool q'.num.g, .slice q'.num.a q'.num.n q'.num.c, .bool q'.den.g, .slice q'.den.a q'.den.n q'.den.c] 27)).alloc (.cells #[.bool false, .slice none 0 0, .bool false, .slice none 0 0] 27)) from ((((Below.refl _ _).alloc (by simp) _).alloc (by simp) _).alloc (by simp <;> omega) _))
    go_enter Tryz.func6, Tryz.ntmps6
    go_wp2_with fail
    refine (unhide GB _ ((unhide H1).later (unhide B0)) ((unhide H2).later (unhide B0))).mono ?_
    rintro e w1 ⟨rfl, hb⟩
    have s1 : w.heap.size + 1 + 1 < w1.heap.size := by have := hb.size; simp at this; omega
    have k0_0 : w1.cell? ⟨w.heap.size, 0, none⟩ = some (.bool q.num.g) := cell_later hb (by simp [go_sem])
    have k0_1 : w1.cell? ⟨w.heap.size, 1, none⟩ = some (.slice q.num.a q.num.n q.num.c) := cell_later hb (by simp [go_sem])
    have k0_2 : w1.cell? ⟨w.heap.size, 2, none⟩ = some (.bool q.den.g) := cell_later hb (by simp [go_sem])
    have k0_3 : w1.cell? ⟨w.heap.size, 3, none⟩ = some (.slice q.den.a q.den.n q.den.c) := cell_later hb (by simp [go_sem])
    have k1_0 : w1.cell? ⟨w.heap.size + 1, 0, none⟩ = some (.bool q'.num.g) := cell_later hb (by simp [go_sem])
    have k1_1 : w1.cell? ⟨w.heap.size + 1, 1, none⟩ = some (.slice q'.num.a q'.num.n q'.num.c) := cell_later hb (by simp [go_sem])
    have k1_2 : w1.cell? ⟨w.heap.size + 1, 2, none⟩ = some (.bool q'.den.g) := cell_later hb (by simp [go_sem])
    have k1_3 : w1.cell? ⟨w.heap.size + 1, 3, none⟩ = some (.slice q'.den.a q'.den.n q'.den.c) := cell_later hb (by simp [go_sem])
    have k2_0 : w1.cell? ⟨w.heap.size + 1 + 1, 0, none⟩ = some (.bool false) := cell_later hb (by simp [go_sem])
    have k2_1 : w1.cell? ⟨w.heap.size + 1 + 1, 1, none⟩ = some (.slice none 0 0) := cell_later hb (by simp [go_sem])
    have k2_2 : w1.cell? ⟨w.heap.size + 1 + 1, 2, none⟩ = some (.bool false) := cell_later hb (by simp [go_sem])
    have k2_3 : w1.cell? ⟨w.heap.size + 1 + 1, 3, none⟩ = some (.slice none 0 0) := cell_later hb (by simp [go_sem])
    have z2 : ∀ o, w1.frozen? ⟨w.heap.size + 1 + 1, o, none⟩ = false := fun o => frozen_later hb (by simp) (by simp [go_sem])
    have HB := hide (below_on (unhide B0) hb)
    clear hb
    go_wp2_with fail
    refine (addQS q q' _ _ _ _ _ ((unhide J1).is.later (unhide HB)) ((unhide J2).is.later (unhide HB)) (unhide NZ) ((unhide J1).kn.mono (by omega)) ((unhide J1).kd.mono (by omega)) ((unhide J2).kn.mono (by omega)) ((unhide J2).kd.mono (by omega))).mono ?_
    rintro e w2 ⟨r, rfl, hb, or1, or2⟩
    have s2 := hb.size
    replace z2 := fun o => frozen_later hb (World.block_lt_of_cell? _ _ k2_0) (z2 o)
    replace k2_0 := cell_later hb k2_0
    replace k2_1 := cell_later hb k2_1
    replace k2_2 := cell_later hb k2_2
    replace k2_3 := cell_later hb k2_3
    clear k0_0 k0_1 k0_2 k0_3 k1_0 k1_1 k1_2 k1_3
    have OR1 := hide (or1)
    have OR2 := hide (or2)
    replace HB := hide (below_on (unhide HB) hb)
    clear hb
    clear or1 or2
    go_wp2_with fail
    refine (fitsQS r _ _ _ ⟨(unhide OR1).is, (unhide OR2).is⟩ (lowD_pos (unhide NZ))).mono ?_
    rintro e w3 ⟨v, dv, ok, rfl, hb, ov, hu⟩
    have s3 := hb.size
    have UU := hide hu
    replace z2 := fun o => frozen_later hb (World.block_lt_of_cell? _ _ k2_0) (z2 o)
    replace k2_0 := cell_later hb k2_0
    replace k2_1 := cell_later hb k2_1
    replace k2_2 := cell_later hb k2_2
    replace k2_3 := cell_later hb k2_3
    replace OR1 := hide ((unhide OR1).later hb)
    replace OR2 := hide ((unhide OR2).later hb)
    have OV := hide (ov)
    replace HB := hide (below_on (unhide HB) hb)
    clear hb
    clear ov hu
    go_wp2
    refine bodyPost_ret (v := .tuple #[.agg #[.bool v.num.g, .slice v.num.a v.num.n v.num.c, .bool v.den.g, .slice v.den.a v.den.n v.den.c], .bool ok]) (by simp [results, Tryz.results6, go_sem, k2_0, k2_1, k2_2, k2_3]) rfl ?_
    exact retQ_fin (v := v) (d := dv) (R := w.heap.size + 1 + 1) (by omega) (unhide HB) (metQ_but (w5 := w3) (v := v) (G := w.heap.size + 1 + 1)) ((unhide OV).wide (by omega) (by omega)) (unhide UU)

set_option maxHeartbeats 4000000 in
theorem SubRS (q q' : QV) (d d' : QD) (w : World) (h : AllAr w [(q.num, d.num), (q.den, d.den)]) (h' : AllAr w [(q'.num, d'.num), (q'.den, d'.den)]) :
    Calls Tryz.prog 8 #[.agg #[.bool q.num.g, .slice q.num.a q.num.n q.num.c, .bool q.den.g, .slice q.den.a q.den.n q.den.c], .agg #[.bool q'.num.g, .slice q'.num.a q'.num.n q'.num.c, .bool q'.den.g, .slice q'.den.a q'.den.n q'.den.c]] w (RetQ w (AnsQ (gQ d && gQ d') (lowN (nQ d * dQ d' - nQ d' * dQ d) (dQ d * dQ d')) (lowD (nQ d * dQ d' - nQ d' * dQ d) (dQ d * dQ d')))) := by
  have H1 := hide h
  have H2 := hide h'
  clear h h'
  have GB := hide (fun w1 (k : AllAr w1 [(q.num, d.num), (q.den, d.den)]) (k' : AllAr w1 [(q'.num, d'.num), (q'.den, d'.den)]) => bothQS q q' d d' w1 k k')
  cases hP : (gQ d && gQ d')
  · rw [hP] at GB
    clear hP
    have B0 := hide (show Below w.heap.size w (((w.alloc (.cells #[.bool q.num.g, .slice q.num.a q.num.n q.num.c, .bool q.den.g, .slice q.den.a q.den.n q.den.c] 27)).alloc (.cells #[.bool q'.num.g, .slice q'.num.a q'.num.n q'.num.c, .bool q'.den.g, .slice q'.den.a q'.den.n q'.den.c] 27)).alloc (.cells #[.bool false, .slice none 0 0, .bool false, .slice none 0 0] 27)) from ((((Below.refl _ _).alloc (by simp) _).alloc (by simp) _).alloc (by simp <;> omega) _))
    go_enter Tryz.func8, Tryz.ntmps8
    go_wp2_with fail
    refine (unhide GB _ ((unhide H1).later (unhide B0)) ((unhide H2).later (unhide B0))).mono ?_
    rintro e w1 ⟨rfl, hb⟩
    have s1 : w.heap.size + 1 + 1 < w1.heap.size := by have := hb.size; simp at this; omega
    have k2_0 : w1.cell? ⟨w.heap.size + 1 + 1, 0, none⟩ = some (.bool false) := cell_later hb (by simp [go_sem])
    have k2_1 : w1.cell? ⟨w.heap.size + 1 + 1, 1, none⟩ = some (.slice none 0 0) := cell_later hb (by simp [go_sem])
    have k2_2 : w1.cell? ⟨w.heap.size + 1 + 1, 2, none⟩ = some (.bool false) := cell_later hb (by simp [go_sem])
    have k2_3 : w1.cell? ⟨w.heap.size + 1 + 1, 3, none⟩ = some (.slice none 0 0) := cell_later hb (by simp [go_sem])
    have z2 : ∀ o, w1.frozen? ⟨w.heap.size + 1 + 1, o, none⟩ = false := fun o => frozen_later hb (by simp) (by simp [go_sem])
    have HB := hide (below_on (unhide B0) hb)
    clear hb
    go_wp2
    refine bodyPost_ret (v := .tuple #[.agg #[.bool false, .slice none 0 0, .bool false, .slice none 0 0], .bool false]) (by simp [results, Tryz.results8, go_sem, k2_0, k2_1, k2_2, k2_3]) rfl ?_
    exact retQ_fin (v := (⟨⟨false, none, 0, 0⟩, ⟨false, none, 0, 0⟩⟩ : QV)) (d := (⟨⟨false, []⟩, ⟨false, []⟩⟩ : QD)) (R := w.heap.size + 1 + 1) (by omega) (unhide HB) (metQ_but (w5 := w1) (v := (⟨⟨false, none, 0, 0⟩, ⟨false, none, 0, 0⟩⟩ : QV)) (G := w.heap.size + 1 + 1)) (zeroQ _ _ _) (ansQ_none _ _)
  · have hg1 : gQ d = true := by revert hP; cases gQ d <;> simp
    have hg2 : gQ d' = true := by revert hP; cases gQ d' <;> simp
    have I1 := isGood_of (unhide H1) hg1
    have I2 := isGood_of (unhide H2) hg2
    have NZ : Hid (dQ d * dQ d' ≠ 0) := hide (Int.mul_ne_zero (by have := I1.pos; omega) (by have := I2.pos; omega))
    have J1 := hide I1
    have J2 := hide I2
    rw [hP] at GB

    clear hP hg1 hg2 I1 I2
    have B0 := hide (show Below w.heap.size w (((w.alloc (.cells #[.bool q.num.g, .slice q.num.a q.num.n q.num.c, .bool q.den.g, .slice q.den.a q.den.n q.den.c] 27)).alloc (.cells #[.bool q'.num.g, .slice q'.num.a q'.num.n q'.num.c, .bool q'.den.g, .slice q'.den.a q'.den.n q'.den.c] 27)).alloc (.cells #[.bool false, .slice none 0 0, .bool false, .slice none 0 0] 27)) from ((((Below.refl _ _).alloc (by simp) _).alloc (by simp) _).alloc (by simp <;> omega) _))
    go_enter Tryz.func8, Tryz.ntmps8
    go_wp2_with fail
    refine (unhide GB _ ((unhide H1).later (unhide B0)) ((unhide H2).later (unhide B0))).mono ?_
    rintro e w1 ⟨rfl, hb⟩
    have s1 : w.heap.size + 1 + 1 < w1.heap.size := by have := hb.size; simp at this; omega
    have k0_0 : w1.cell? ⟨w.heap.size, 0, none⟩ = some (.bool q.num.g) := cell_later hb (by simp [go_sem])
    have k0_1 : w1.cell? ⟨w.heap.size, 1, none⟩ = some (.slice q.num.a q.num.n q.num.c) := cell_later hb (by simp [go_sem])
    have k0_2 : w1.cell? ⟨w.heap.size, 2, none⟩ = some (.bool q.den.g) := cell_later hb (by simp [go_sem])
    have k0_3 : w1.cell? ⟨w.heap.size, 3, none⟩ = some (.slice q.den.a q.den.n q.den.c) := cell_later hb (by simp [go_sem])
    have k1_0 : w1.cell? ⟨w.heap.size + 1, 0, none⟩ = some (.bool q'.num.g) := cell_later hb (by simp [go_sem])
    have k1_1 : w1.cell? ⟨w.heap.size + 1, 1, none⟩ = some (.slice q'.num.a q'.num.n q'.num.c) := cell_later hb (by simp [go_sem])
    have k1_2 : w1.cell? ⟨w.heap.size + 1, 2, none⟩ = some (.bool q'.den.g) := cell_later hb (by simp [go_sem])
    have k1_3 : w1.cell? ⟨w.heap.size + 1, 3, none⟩ = some (.slice q'.den.a q'.den.n q'.den.c) := cell_later hb (by simp [go_sem])
    have k2_0 : w1.cell? ⟨w.heap.size + 1 + 1, 0, none⟩ = some (.bool false) := cell_later hb (by simp [go_sem])
    have k2_1 : w1.cell? ⟨w.heap.size + 1 + 1, 1, none⟩ = some (.slice none 0 0) := cell_later hb (by simp [go_sem])
    have k2_2 : w1.cell? ⟨w.heap.size + 1 + 1, 2, none⟩ = some (.bool false) := cell_later hb (by simp [go_sem])
    have k2_3 : w1.cell? ⟨w.heap.size + 1 + 1, 3, none⟩ = some (.slice none 0 0) := cell_later hb (by simp [go_sem])
    have z2 : ∀ o, w1.frozen? ⟨w.heap.size + 1 + 1, o, none⟩ = false := fun o => frozen_later hb (by simp) (by simp [go_sem])
    have HB := hide (below_on (unhide B0) hb)
    clear hb
    go_wp2_with fail
    refine (subQS q q' _ _ _ _ _ ((unhide J1).is.later (unhide HB)) ((unhide J2).is.later (unhide HB)) (unhide NZ) ((unhide J1).kn.mono (by omega)) ((unhide J1).kd.mono (by omega)) ((unhide J2).kn.mono (by omega)) ((unhide J2).kd.mono (by omega))).mono ?_
    rintro e w2 ⟨r, rfl, hb, or1, or2⟩
    have s2 := hb.size
    replace z2 := fun o => frozen_later hb (World.block_lt_of_cell? _ _ k2_0) (z2 o)
    replace k2_0 := cell_later hb k2_0
    replace k2_1 := cell_later hb k2_1
    replace k2_2 := cell_later hb k2_2
    replace k2_3 := cell_later hb k2_3
    clear k0_0 k0_1 k0_2 k0_3 k1_0 k1_1 k1_2 k1_3
    have OR1 := hide (or1)
    have OR2 := hide (or2)
    replace HB := hide (below_on (unhide HB) hb)
    clear hb
    clear or1 or2
    go_wp2_with fail
    refine (fitsQS r _ _ _ ⟨(unhide OR1).is, (unhide OR2).is⟩ (lowD_pos (unhide NZ))).mono ?_
    rintro e w3 ⟨v, dv, ok, rfl, hb, ov, hu⟩
    have s3 := hb.size
    have UU := hide hu
    replace z2 := fun o => frozen_later hb (World.block_lt_of_cell? _ _ k2_0) (z2 o)
    replace k2_0 := cell_later hb k2_0
    replace k2_1 := cell_later hb k2_1
    replace k2_2 := cell_later hb k2_2
    replace k2_3 := cell_later hb k2_3
    replace OR1 := hide ((unhide OR1).later hb)
    replace OR2 := hide ((unhide OR2).later hb)
    have OV := hide (ov)
    replace HB := hide (below_on (unhide HB) hb)
    clear hb
    clear ov hu
    go_wp2
    refine bodyPost_ret (v := .tuple #[.agg #[.bool v.num.g, .slice v.num.a v.num.n v.num.c, .bool v.den.g, .slice v.den.a v.den.n v.den.c], .bool ok]) (by simp [results, Tryz.results8, go_sem, k2_0, k2_1, k2_2, k2_3]) rfl ?_
    exact retQ_fin (v := v) (d := dv) (R := w.heap.size + 1 + 1) (by omega) (unhide HB) (metQ_but (w5 := w3) (v := v) (G := w.heap.size + 1 + 1)) ((unhide OV).wide (by omega) (by omega)) (unhide UU)

set_option maxHeartbeats 4000000 in
theorem MulRS (q q' : QV) (d d' : QD) (w : World) (h : AllAr w [(q.num, d.num), (q.den, d.den)]) (h' : AllAr w [(q'.num, d'.num), (q'.den, d'.den)]) :
    Calls Tryz.prog 10 #[.agg #[.bool q.num.g, .slice q.num.a q.num.n q.num.c, .bool q.den.g, .slice q.den.a q.den.n q.den.c], .agg #[.bool q'.num.g, .slice q'.num.a q'.num.n q'.num.c, .bool q'.den.g, .slice q'.den.a q'.den.n q'.den.c]] w (RetQ w (AnsQ (gQ d && gQ d') (lowN (nQ d * nQ d') (dQ d * dQ d')) (lowD (nQ d * nQ d') (dQ d * dQ d')))) := by
  have H1 := hide h
  have H2 := hide h'
  clear h h'
  have GB := hide (fun w1 (k : AllAr w1 [(q.num, d.num), (q.den, d.den)]) (k' : AllAr w1 [(q'.num, d'.num), (q'.den, d'.den)]) => bothQS q q' d d' w1 k k')
  cases hP : (gQ d && gQ d')
  · rw [hP] at GB
    clear hP
    have B0 := hide (show Below w.heap.size w (((w.alloc (.cells #[.bool q.num.g, .slice q.num.a q.num.n q.num.c, .bool q.den.g, .slice q.den.a q.den.n q.den.c] 27)).alloc (.cells #[.bool q'.num.g, .slice q'.num.a q'.num.n q'.num.c, .bool q'.den.g, .slice q'.den.a q'.den.n q'.den.c] 27)).alloc (.cells #[.bool false, .slice none 0 0, .bool false, .slice none 0 0] 27)) from ((((Below.refl _ _).alloc (by simp) _).alloc (by simp) _).alloc (by simp <;> omega) _))
    go_enter Tryz.func10, Tryz.ntmps10
    go_wp2_with fail
    refine (unhide GB _ ((unhide H1).later (unhide B0)) ((unhide H2).later (unhide B0))).mono ?_
    rintro e w1 ⟨rfl, hb⟩
    have s1 : w.heap.size + 1 + 1 < w1.heap.size := by have := hb.size; simp at this; omega
    have k2_0 : w1.cell? ⟨w.heap.size + 1 + 1, 0, none⟩ = some (.bool false) := cell_later hb (by simp [go_sem])
    have k2_1 : w1.cell? ⟨w.heap.size + 1 + 1, 1, none⟩ = some (.slice none 0 0) := cell_later hb (by simp [go_sem])
    have k2_2 : w1.cell? ⟨w.heap.size + 1 + 1, 2, none⟩ = some (.bool false) := cell_later hb (by simp [go_sem])
    have k2_3 : w1.cell? ⟨w.heap.size + 1 + 1, 3, none⟩ = some (.slice none 0 0) := cell_later hb (by simp [go_sem])
    have z2 : ∀ o, w1.frozen? ⟨w.heap.size + 1 + 1, o, none⟩ = false := fun o => frozen_later hb (by simp) (by simp [go_sem])
    have HB := hide (below_on (unhide B0) hb)
    clear hb
    go_wp2
    refine bodyPost_ret (v := .tuple #[.agg #[.bool false, .slice none 0 0, .bool false, .slice none 0 0], .bool false]) (by simp [results, Tryz.results10, go_sem, k2_0, k2_1, k2_2, k2_3]) rfl ?_
    exact retQ_fin (v := (⟨⟨false, none, 0, 0⟩, ⟨false, none, 0, 0⟩⟩ : QV)) (d := (⟨⟨false, []⟩, ⟨false, []⟩⟩ : QD)) (R := w.heap.size + 1 + 1) (by omega) (unhide HB) (metQ_but (w5 := w1) (v := (⟨⟨false, none, 0, 0⟩, ⟨false, none, 0, 0⟩⟩ : QV)) (G := w.heap.size + 1 + 1)) (zeroQ _ _ _) (ansQ_none _ _)
  · have hg1 : gQ d = true := by revert hP; cases gQ d <;> simp
    have hg2 : gQ d' = true := by revert hP; cases gQ d' <;> simp
    have I1 := isGood_of (unhide H1) hg1
    have I2 := isGood_of (unhide H2) hg2
    have NZ : Hid (dQ d * dQ d' ≠ 0) := hide (Int.mul_ne_zero (by have := I1.pos; omega) (by have := I2.pos; omega))
    have J1 := hide I1
    have J2 := hide I2
    rw [hP] at GB

    clear hP hg1 hg2 I1 I2
    have B0 := hide (show Below w.heap.size w (((w.alloc (.cells #[.bool q.num.g, .slice q.num.a q.num.n q.num.c, .bool q.den.g, .slice q.den.a q.den.n q.den.c] 27)).alloc (.cells #[.bool q'.num.g, .slice q'.num.a q'.num.n q'.num.c, .bool q'.den.g, .slice q'.den.a q'.den.n q'.den.c] 27)).alloc (.cells #[.bool false, .slice none 0 0, .bool false, .slice none 0 0] 27)) from ((((Below.refl _ _).alloc (by simp) _).alloc (by simp) _).alloc (by simp <;> omega) _))
    go_enter Tryz.func10, Tryz.ntmps10
    go_wp2_with fail
    refine (unhide GB _ ((unhide H1).later (unhide B0)) ((unhide H2).later (unhide B0))).mono ?_
    rintro e w1 ⟨rfl, hb⟩
    have s1 : w.heap.size + 1 + 1 < w1.heap.size := by have := hb.size; simp at this; omega
    have k0_0 : w1.cell? ⟨w.heap.size, 0, none⟩ = some (.bool q.num.g) := cell_later hb (by simp [go_sem])
    have k0_1 : w1.cell? ⟨w.heap.size, 1, none⟩ = some (.slice q.num.a q.num.n q.num.c) := cell_later hb (by simp [go_sem])
    have k0_2 : w1.cell? ⟨w.heap.size, 2, none⟩ = some (.bool q.den.g) := cell_later hb (by simp [go_sem])
    have k0_3 : w1.cell? ⟨w.heap.size, 3, none⟩ = some (.slice q.den.a q.den.n q.den.c) := cell_later hb (by simp [go_sem])
    have k1_0 : w1.cell? ⟨w.heap.size + 1, 0, none⟩ = some (.bool q'.num.g) := cell_later hb (by simp [go_sem])
    have k1_1 : w1.cell? ⟨w.heap.size + 1, 1, none⟩ = some (.slice q'.num.a q'.num.n q'.num.c) := cell_later hb (by simp [go_sem])
    have k1_2 : w1.cell? ⟨w.heap.size + 1, 2, none⟩ = some (.bool q'.den.g) := cell_later hb (by simp [go_sem])
    have k1_3 : w1.cell? ⟨w.heap.size + 1, 3, none⟩ = some (.slice q'.den.a q'.den.n q'.den.c) := cell_later hb (by simp [go_sem])
    have k2_0 : w1.cell? ⟨w.heap.size + 1 + 1, 0, none⟩ = some (.bool false) := cell_later hb (by simp [go_sem])
    have k2_1 : w1.cell? ⟨w.heap.size + 1 + 1, 1, none⟩ = some (.slice none 0 0) := cell_later hb (by simp [go_sem])
    have k2_2 : w1.cell? ⟨w.heap.size + 1 + 1, 2, none⟩ = some (.bool false) := cell_later hb (by simp [go_sem])
    have k2_3 : w1.cell? ⟨w.heap.size + 1 + 1, 3, none⟩ = some (.slice none 0 0) := cell_later hb (by simp [go_sem])
    have z2 : ∀ o, w1.frozen? ⟨w.heap.size + 1 + 1, o, none⟩ = false := fun o => frozen_later hb (by simp) (by simp [go_sem])
    have HB := hide (below_on (unhide B0) hb)
    clear hb
    go_wp2_with fail
    refine (mulQS q q' _ _ _ _ _ ((unhide J1).is.later (unhide HB)) ((unhide J2).is.later (unhide HB)) (unhide NZ) ((unhide J1).kn.mono (by omega)) ((unhide J1).kd.mono (by omega)) ((unhide J2).kn.mono (by omega)) ((unhide J2).kd.mono (by omega))).mono ?_
    rintro e w2 ⟨r, rfl, hb, or1, or2⟩
    have s2 := hb.size
    replace z2 := fun o => frozen_later hb (World.block_lt_of_cell? _ _ k2_0) (z2 o)
    replace k2_0 := cell_later hb k2_0
    replace k2_1 := cell_later hb k2_1
    replace k2_2 := cell_later hb k2_2
    replace k2_3 := cell_later hb k2_3
    clear k0_0 k0_1 k0_2 k0_3 k1_0 k1_1 k1_2 k1_3
    have OR1 := hide (or1)
    have OR2 := hide (or2)
    replace HB := hide (below_on (unhide HB) hb)
    clear hb
    clear or1 or2
    go_wp2_with fail
    refine (fitsQS r _ _ _ ⟨(unhide OR1).is, (unhide OR2).is⟩ (lowD_pos (unhide NZ))).mono ?_
    rintro e w3 ⟨v, dv, ok, rfl, hb, ov, hu⟩
    have s3 := hb.size
    have UU := hide hu
    replace z2 := fun o => frozen_later hb (World.block_lt_of_cell? _ _ k2_0) (z2 o)
    replace k2_0 := cell_later hb k2_0
    replace k2_1 := cell_later hb k2_1
    replace k2_2 := cell_later hb k2_2
    replace k2_3 := cell_later hb k2_3
    replace OR1 := hide ((unhide OR1).later hb)
    replace OR2 := hide ((unhide OR2).later hb)
    have OV := hide (ov)
    replace HB := hide (below_on (unhide HB) hb)
    clear hb
    clear ov hu
    go_wp2
    refine bodyPost_ret (v := .tuple #[.agg #[.bool v.num.g, .slice v.num.a v.num.n v.num.c, .bool v.den.g, .slice v.den.a v.den.n v.den.c], .bool ok]) (by simp [results, Tryz.results10, go_sem, k2_0, k2_1, k2_2, k2_3]) rfl ?_
    exact retQ_fin (v := v) (d := dv) (R := w.heap.size + 1 + 1) (by omega) (unhide HB) (metQ_but (w5 := w3) (v := v) (G := w.heap.size + 1 + 1)) ((unhide OV).wide (by omega) (by omega)) (unhide UU)

set_option maxHeartbeats 4000000 in
theorem DivRS (q q' : QV) (d d' : QD) (w : World) (h : AllAr w [(q.num, d.num), (q.den, d.den)]) (h' : AllAr w [(q'.num, d'.num), (q'.den, d'.den)]) :
    Calls Tryz.prog 12 #[.agg #[.bool q.num.g, .slice q.num.a q.num.n q.num.c, .bool q.den.g, .slice q.den.a q.den.n q.den.c], .agg #[.bool q'.num.g, .slice q'.num.a q'.num.n q'.num.c, .bool q'.den.g, .slice q'.den.a q'.den.n q'.den.c]] w (RetQ w (AnsQ ((gQ d && gQ d') && decide (nQ d' ≠ 0)) (lowN (nQ d * dQ d') (dQ d * nQ d')) (lowD (nQ d * dQ d') (dQ d * nQ d')))) := by
  have H1 := hide h
  have H2 := hide h'
  clear h h'
  have GB := hide (fun w1 (k : AllAr w1 [(q.num, d.num), (q.den, d.den)]) (k' : AllAr w1 [(q'.num, d'.num), (q'.den, d'.den)]) => bothQS q q' d d' w1 k k')
  cases hP : (gQ d && gQ d')
  · rw [hP] at GB
    rw [Bool.false_and]
    clear hP
    have B0 := hide (show Below w.heap.size w (((w.alloc (.cells #[.bool q.num.g, .slice q.num.a q.num.n q.num.c, .bool q.den.g, .slice q.den.a q.den.n q.den.c] 27)).alloc (.cells #[.bool q'.num.g, .slice q'.num.a q'.num.n q'.num.c, .bool q'.den.g, .slice q'.den.a q'.den.n q'.den.c] 27)).alloc (.cells #[.bool false, .slice none 0 0, .bool false, .slice none 0 0] 27)) from ((((Below.refl _ _).alloc (by simp) _).alloc (by simp) _).alloc (by simp <;> omega) _))
    go_enter Tryz.func12, Tryz.ntmps12
    go_wp2_with fail
    refine (unhide GB _ ((unhide H1).later (unhide B0)) ((unhide H2).later (unhide B0))).mono ?_
    rintro e w1 ⟨rfl, hb⟩
    have s1 : w.heap.size + 1 + 1 < w1.heap.size := by have := hb.size; simp at this; omega
    have k2_0 : w1.cell? ⟨w.heap.size + 1 + 1, 0, none⟩ = some (.bool false) := cell_later hb (by simp [go_sem])
    have k2_1 : w1.cell? ⟨w.heap.size + 1 + 1, 1, none⟩ = some (.slice none 0 0) := cell_later hb (by simp [go_sem])
    have k2_2 : w1.cell? ⟨w.heap.size + 1 + 1, 2, none⟩ = some (.bool false) := cell_later hb (by simp [go_sem])
    have k2_3 : w1.cell? ⟨w.heap.size + 1 + 1, 3, none⟩ = some (.slice none 0 0) := cell_later hb (by simp [go_sem])
    have z2 : ∀ o, w1.frozen? ⟨w.heap.size + 1 + 1, o, none⟩ = false := fun o => frozen_later hb (by simp) (by simp [go_sem])
    have HB := hide (below_on (unhide B0) hb)
    clear hb
    go_wp2
    refine bodyPost_ret (v := .tuple #[.agg #[.bool false, .slice none 0 0, .bool false, .slice none 0 0], .bool false]) (by simp [results, Tryz.results12, go_sem, k2_0, k2_1, k2_2, k2_3]) rfl ?_
    exact retQ_fin (v := (⟨⟨false, none, 0, 0⟩, ⟨false, none, 0, 0⟩⟩ : QV)) (d := (⟨⟨false, []⟩, ⟨false, []⟩⟩ : QD)) (R := w.heap.size + 1 + 1) (by omega) (unhide HB) (metQ_but (w5 := w1) (v := (⟨⟨false, none, 0, 0⟩, ⟨false, none, 0, 0⟩⟩ : QV)) (G := w.heap.size + 1 + 1)) (zeroQ _ _ _) (ansQ_none _ _)
  · by_cases hz : nQ d' = 0
    · have hg2 : gQ d' = true := by revert hP; cases gQ d' <;> simp
      have hn : q'.num.n = 0 := (isGood_of (unhide H2) hg2).is.1.zero_iff.2 hz
      have hn0 : ((q'.num.n : Int) == 0) = true := by simp [hn]
      rw [hP] at GB
      rw [Bool.true_and, show decide (nQ d' ≠ 0) = false from decide_eq_false (fun e => e hz)]
      clear hP hg2 hz hn
      have B0 := hide (show Below w.heap.size w (((w.alloc (.cells #[.bool q.num.g, .slice q.num.a q.num.n q.num.c, .bool q.den.g, .slice q.den.a q.den.n q.den.c] 27)).alloc (.cells #[.bool q'.num.g, .slice q'.num.a q'.num.n q'.num.c, .bool q'.den.g, .slice q'.den.a q'.den.n q'.den.c] 27)).alloc (.cells #[.bool false, .slice none 0 0, .bool false, .slice none 0 0] 27)) from ((((Below.refl _ _).alloc (by simp) _).alloc (by simp) _).alloc (by simp <;> omega) _))
      go_enter Tryz.func12, Tryz.ntmps12
      go_wp2_with fail
      refine (unhide GB _ ((unhide H1).later (unhide B0)) ((unhide H2).later (unhide B0))).mono ?_
      rintro e w1 ⟨rfl, hb⟩
      have s1 : w.heap.size + 1 + 1 < w1.heap.size := by have := hb.size; simp at this; omega
      have k1_1 : w1.cell? ⟨w.heap.size + 1, 1, none⟩ = some (.slice q'.num.a q'.num.n q'.num.c) := cell_later hb (by simp [go_sem])
      have k2_0 : w1.cell? ⟨w.heap.size + 1 + 1, 0, none⟩ = some (.bool false) := cell_later hb (by simp [go_sem])
      have k2_1 : w1.cell? ⟨w.heap.size + 1 + 1, 1, none⟩ = some (.slice none 0 0) := cell_later hb (by simp [go_sem])
      have k2_2 : w1.cell? ⟨w.heap.size + 1 + 1, 2, none⟩ = some (.bool false) := cell_later hb (by simp [go_sem])
      have k2_3 : w1.cell? ⟨w.heap.size + 1 + 1, 3, none⟩ = some (.slice none 0 0) := cell_later hb (by simp [go_sem])
      have z2 : ∀ o, w1.frozen? ⟨w.heap.size + 1 + 1, o, none⟩ = false := fun o => frozen_later hb (by simp) (by simp [go_sem])
      have HB := hide (below_on (unhide B0) hb)
      clear hb
      go_wp2
      refine bodyPost_ret (v := .tuple #[.agg #[.bool false, .slice none 0 0, .bool false, .slice none 0 0], .bool false]) (by simp [results, Tryz.results12, go_sem, k2_0, k2_1, k2_2, k2_3]) rfl ?_
      exact retQ_fin (v := (⟨⟨false, none, 0, 0⟩, ⟨false, none, 0, 0⟩⟩ : QV)) (d := (⟨⟨false, []⟩, ⟨false, []⟩⟩ : QD)) (R := w.heap.size + 1 + 1) (by omega) (unhide HB) (metQ_but (w5 := w1) (v := (⟨⟨false, none, 0, 0⟩, ⟨false, none, 0, 0⟩⟩ : QV)) (G := w.heap.size + 1 + 1)) (zeroQ _ _ _) (ansQ_none _ _)
    · have hg1 : gQ d = true := by revert hP; cases gQ d <;> simp
      have hg2 : gQ d' = true := by revert hP; cases gQ d' <;> simp
      have I1 := isGood_of (unhide H1) hg1
      have I2 := isGood_of (unhide H2) hg2
      have hn0 : ((q'.num.n : Int) == 0) = false := by have := I2.is.1.zero_iff; simp; omega
      have NZ : Hid (dQ d * nQ d' ≠ 0) := hide (Int.mul_ne_zero (by have := I1.pos; omega) hz)
      have J1 := hide I1
      have J2 := hide I2
      rw [hP] at GB
      rw [Bool.true_and, show decide (nQ d' ≠ 0) = true from decide_eq_true hz]
      clear hP hg1 hg2 I1 I2 hz
      have B0 := hide (show Below w.heap.size w (((w.alloc (.cells #[.bool q.num.g, .slice q.num.a q.num.n q.num.c, .bool q.den.g, .slice q.den.a q.den.n q.den.c] 27)).alloc (.cells #[.bool q'.num.g, .slice q'.num.a q'.num.n q'.num.c, .bool q'.den.g, .slice q'.den.a q'.den.n q'.den.c] 27)).alloc (.cells #[.bool false, .slice none 0 0, .bool false, .slice none 0 0] 27)) from ((((Below.refl _ _).alloc (by simp) _).alloc (by simp) _).alloc (by simp <;> omega) _))
      go_enter Tryz.func12, Tryz.ntmps12
      go_wp2_with fail
      refine (unhide GB _ ((unhide H1).later (unhide B0)) ((unhide H2).later (unhide B0))).mono ?_
      rintro e w1 ⟨rfl, hb⟩
      have s1 : w.heap.size + 1 + 1 < w1.heap.size := by have := hb.size; simp at this; omega
      have k0_0 : w1.cell? ⟨w.heap.size, 0, none⟩ = some (.bool q.num.g) := cell_later hb (by simp [go_sem])
      have k0_1 : w1.cell? ⟨w.heap.size, 1, none⟩ = some (.slice q.num.a q.num.n q.num.c) := cell_later hb (by simp [go_sem])
      have k0_2 : w1.cell? ⟨w.heap.size, 2, none⟩ = some (.bool q.den.g) := cell_later hb (by simp [go_sem])
      have k0_3 : w1.cell? ⟨w.heap.size, 3, none⟩ = some (.slice q.den.a q.den.n q.den.c) := cell_later hb (by simp [go_sem])
      have k1_0 : w1.cell? ⟨w.heap.size + 1, 0, none⟩ = some (.bool q'.num.g) := cell_later hb (by simp [go_sem])
      have k1_1 : w1.cell? ⟨w.heap.size + 1, 1, none⟩ = some (.slice q'.num.a q'.num.n q'.num.c) := cell_later hb (by simp [go_sem])
      have k1_2 : w1.cell? ⟨w.heap.size + 1, 2, none⟩ = some (.bool q'.den.g) := cell_later hb (by simp [go_sem])
      have k1_3 : w1.cell? ⟨w.heap.size + 1, 3, none⟩ = some (.slice q'.den.a q'.den.n q'.den.c) := cell_later hb (by simp [go_sem])
      have k2_0 : w1.cell? ⟨w.heap.size + 1 + 1, 0, none⟩ = some (.bool false) := cell_later hb (by simp [go_sem])
      have k2_1 : w1.cell? ⟨w.heap.size + 1 + 1, 1, none⟩ = some (.slice none 0 0) := cell_later hb (by simp [go_sem])
      have k2_2 : w1.cell? ⟨w.heap.size + 1 + 1, 2, none⟩ = some (.bool false) := cell_later hb (by simp [go_sem])
      have k2_3 : w1.cell? ⟨w.heap.size + 1 + 1, 3, none⟩ = some (.slice none 0 0) := cell_later hb (by simp [go_sem])
      have z2 : ∀ o, w1.frozen? ⟨w.heap.size + 1 + 1, o, none⟩ = false := fun o => frozen_later hb (by simp) (by simp [go_sem])
      have HB := hide (below_on (unhide B0) hb)
      clear hb
      go_wp2_with fail
      refine (divQS q q' _ _ _ _ _ ((unhide J1).is.later (unhide HB)) ((unhide J2).is.later (unhide HB)) (unhide NZ) ((unhide J1).kn.mono (by omega)) ((unhide J1).kd.mono (by omega)) ((unhide J2).kn.mono (by omega)) ((unhide J2).kd.mono (by omega))).mono ?_
      rintro e w2 ⟨r, rfl, hb, or1, or2⟩
      have s2 := hb.size
      replace z2 := fun o => frozen_later hb (World.block_lt_of_cell? _ _ k2_0) (z2 o)
      replace k2_0 := cell_later hb k2_0
      replace k2_1 := cell_later hb k2_1
      replace k2_2 := cell_later hb k2_2
      replace k2_3 := cell_later hb k2_3
      clear k0_0 k0_1 k0_2 k0_3 k1_0 k1_1 k1_2 k1_3
      have OR1 := hide (or1)
      have OR2 := hide (or2)
      replace HB := hide (below_on (unhide HB) hb)
      clear hb
      clear or1 or2
      go_wp2_with fail
      refine (fitsQS r _ _ _ ⟨(unhide OR1).is, (unhide OR2).is⟩ (lowD_pos (unhide NZ))).mono ?_
      rintro e w3 ⟨v, dv, ok, rfl, hb, ov, hu⟩
      have s3 := hb.size
      have UU := hide hu
      replace z2 := fun o => frozen_later hb (World.block_lt_of_cell? _ _ k2_0) (z2 o)
      replace k2_0 := cell_later hb k2_0
      replace k2_1 := cell_later hb k2_1
      replace k2_2 := cell_later hb k2_2
      replace k2_3 := cell_later hb k2_3
      replace OR1 := hide ((unhide OR1).later hb)
      replace OR2 := hide ((unhide OR2).later hb)
      have OV := hide (ov)
      replace HB := hide (below_on (unhide HB) hb)
      clear hb
      clear ov hu
      go_wp2
      refine bodyPost_ret (v := .tuple #[.agg #[.bool v.num.g, .slice v.num.a v.num.n v.num.c, .bool v.den.g, .slice v.den.a v.den.n v.den.c], .bool ok]) (by simp [results, Tryz.results12, go_sem, k2_0, k2_1, k2_2, k2_3]) rfl ?_
      exact retQ_fin (v := v) (d := dv) (R := w.heap.size + 1 + 1) (by omega) (unhide HB) (metQ_but (w5 := w3) (v := v) (G := w.heap.size + 1 + 1)) ((unhide OV).wide (by omega) (by omega)) (unhide UU)
end Aq
end Go.Proofs.YtdgonpbponnnaaaGreatDoor
