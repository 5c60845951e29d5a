/- ReverseCurve: the program's and the specification's, at every list of points. No condition beyond those typed. Written by mkrv12.py. -/
import Derived.Test.YthmpikagenodjaaPkI13
import Derived.Test.YthmpikagenodjaaPkH13
import Derived.Deep.AppendLies
namespace Go.Proofs.Ythmpikagenodjaa
open Go.RowKit
set_option linter.unusedVariables false
set_option maxRecDepth 100000
set_option linter.unusedSimpArgs false

/-- What is read is this point. -/
structure IsDP (p : Rat × Rat) (d : SD) : Prop where
  g1 : d.lo.num.g = decide (nR p.1 < 0)
  n1 : Nm d.lo.num.xs (nR p.1).natAbs
  g2 : d.lo.den.g = decide (dR p.1 < 0)
  n2 : Nm d.lo.den.xs (dR p.1).natAbs
  g3 : d.hi.num.g = decide (nR p.2 < 0)
  n3 : Nm d.hi.num.xs (nR p.2).natAbs
  g4 : d.hi.den.g = decide (dR p.2 < 0)
  n4 : Nm d.hi.den.xs (dR p.2).natAbs
theorem IsDP.same {p : Rat × Rat} {d e : SD} (h : IsDP p d) (k : IsDP p e) : d = e := by
  obtain ⟨⟨⟨a1, b1⟩, ⟨a2, b2⟩⟩, ⟨⟨a3, b3⟩, ⟨a4, b4⟩⟩⟩ := d
  obtain ⟨⟨⟨c1, d1⟩, ⟨c2, d2⟩⟩, ⟨⟨c3, d3⟩, ⟨c4, d4⟩⟩⟩ := e
  have e1 : a1 = c1 := h.g1.trans k.g1.symm
  have e2 : a2 = c2 := h.g2.trans k.g2.symm
  have e3 : a3 = c3 := h.g3.trans k.g3.symm
  have e4 : a4 = c4 := h.g4.trans k.g4.symm
  have f1 : b1 = d1 := h.n1.same k.n1
  have f2 : b2 = d2 := h.n2.same k.n2
  have f3 : b3 = d3 := h.n3.same k.n3
  have f4 : b4 = d4 := h.n4.same k.n4
  rw [e1, e2, e3, e4, f1, f2, f3, f4]
theorem IsDP.is {w : World} {v : SV} {p : Rat × Rat} {d : SD} (h : IsDP p d) (ha : AllAr w [(v.lo.num, d.lo.num), (v.lo.den, d.lo.den), (v.hi.num, d.hi.num), (v.hi.den, d.hi.den)]) : IsPt w v p := by
  have e1 : d.lo.num = ⟨decide (nR p.1 < 0), d.lo.num.xs⟩ := by rw [← h.g1]
  have e2 : d.lo.den = ⟨decide (dR p.1 < 0), d.lo.den.xs⟩ := by rw [← h.g2]
  have e3 : d.hi.num = ⟨decide (nR p.2 < 0), d.hi.num.xs⟩ := by rw [← h.g3]
  have e4 : d.hi.den = ⟨decide (dR p.2 < 0), d.hi.den.xs⟩ := by rw [← h.g4]
  have a1 := ha.head
  have a2 := ha.tail.head
  have a3 := ha.tail.tail.head
  have a4 := ha.tail.tail.tail.head
  rw [e1] at a1
  rw [e2] at a2
  rw [e3] at a3
  rw [e4] at a4
  exact ⟨⟨⟨_, a1, h.n1⟩, ⟨_, a2, h.n2⟩⟩, ⟨⟨_, a3, h.n3⟩, ⟨_, a4, h.n4⟩⟩⟩
theorem IsDP.lens {p : Rat × Rat} {d : SD} {L : Nat} (h : IsDP p d) (k : BdP p L) : d.lo.num.xs.length ≤ L ∧ d.lo.den.xs.length ≤ L ∧ d.hi.num.xs.length ≤ L ∧ d.hi.den.xs.length ≤ L := ⟨h.n1.len_le k.x.n, h.n2.len_le k.x.d, h.n3.len_le k.y.n, h.n4.len_le k.y.d⟩
/-- .. these points. -/
structure IsC (ps : List (Rat × Rat)) (ds : List SD) : Prop where
  len : ds.length = ps.length
  at_ : ∀ (i : Nat) (p : Rat × Rat) (d : SD), ps[i]? = some p → ds[i]? = some d → IsDP p d
theorem IsC.same {ps : List (Rat × Rat)} {ds es : List SD} (h : IsC ps ds) (k : IsC ps es) : ds = es := by
  apply List.ext_getElem?
  intro i
  by_cases hi : i < ps.length
  · have h1 : i < ds.length := by rw [h.len]; exact hi
    have h2 : i < es.length := by rw [k.len]; exact hi
    rw [List.getElem?_eq_getElem h1, List.getElem?_eq_getElem h2]
    congr 1
    exact (h.at_ i ps[i] ds[i] (List.getElem?_eq_getElem hi) (List.getElem?_eq_getElem h1)).same (k.at_ i ps[i] es[i] (List.getElem?_eq_getElem hi) (List.getElem?_eq_getElem h2))
  · rw [List.getElem?_eq_none (by rw [h.len]; omega), List.getElem?_eq_none (by rw [k.len]; omega)]
/-- What a call answers: these points where they fit, or nothing. -/
def AnsC (P : Bool) (F : List SD → Bool) (ps : List (Rat × Rat)) (ds : List SD) (ok : Bool) : Prop := (P = true ∧ ∃ es, IsC ps es ∧ ((F es = true ∧ ok = true ∧ ds = es) ∨ (F es = false ∧ ok = false ∧ ds = []))) ∨ (P = false ∧ ok = false ∧ ds = [])
theorem AnsC.same {P : Bool} {F : List SD → Bool} {ps : List (Rat × Rat)} {d d' : List SD} {ok ok' : Bool} (h : AnsC P F ps d ok) (k : AnsC P F ps d' ok') : d = d' ∧ ok = ok' := by
  rcases h with ⟨p, es, h1, h2⟩ | ⟨p, h1, h2⟩ <;> rcases k with ⟨p', es', k1, k2⟩ | ⟨p', k1, k2⟩
  · obtain rfl := h1.same k1
    rcases h2 with ⟨a, b, c⟩ | ⟨a, b, c⟩ <;> rcases k2 with ⟨a', b', c'⟩ | ⟨a', b', c'⟩
    · exact ⟨c.trans c'.symm, b.trans b'.symm⟩
    · rw [a] at a'; cases a'
    · rw [a] at a'; cases a'
    · exact ⟨c.trans c'.symm, b.trans b'.symm⟩
  · rw [p] at p'; cases p'
  · rw [p] at p'; cases p'
  · exact ⟨h2.trans k2.symm, h1.trans k1.symm⟩
theorem owS_dp {w w' : World} {p : Rat × Rat} {e : Ending} (h : OutPt w p e w') : ∃ (v : SV) (d : SD), e = .returned (.agg #[.bool v.lo.num.g, .slice v.lo.num.a v.lo.num.n v.lo.num.c, .bool v.lo.den.g, .slice v.lo.den.a v.lo.den.n v.lo.den.c, .bool v.hi.num.g, .slice v.hi.num.a v.hi.num.n v.hi.num.c, .bool v.hi.den.g, .slice v.hi.den.a v.hi.den.n v.hi.den.c]) ∧ Below w.heap.size w w' ∧ AllOwn w.heap.size w'.heap.size w' [(v.lo.num, d.lo.num), (v.lo.den, d.lo.den), (v.hi.num, d.hi.num), (v.hi.den, d.hi.den)] ∧ AllAr w' [(v.lo.num, d.lo.num), (v.lo.den, d.lo.den), (v.hi.num, d.hi.num), (v.hi.den, d.hi.den)] ∧ IsDP p d := by
  obtain ⟨v, xs, us, ys, vs, rfl, hb, ho, ha, n1, n2, n3, n4⟩ := h
  exact ⟨v, ⟨⟨⟨_, xs⟩, ⟨_, us⟩⟩, ⟨⟨_, ys⟩, ⟨_, vs⟩⟩⟩, rfl, hb, ho, ha, ⟨rfl, n1, rfl, n2, rfl, n3, rfl, n4⟩⟩
/-- An answer of a call of the program's, with its data. -/
def OutD (w : World) (p : Rat × Rat) (e : Ending) (w' : World) : Prop := ∃ (v : SV) (d : SD), e = .returned (.agg #[.bool v.lo.num.g, .slice v.lo.num.a v.lo.num.n v.lo.num.c, .bool v.lo.den.g, .slice v.lo.den.a v.lo.den.n v.lo.den.c, .bool v.hi.num.g, .slice v.hi.num.a v.hi.num.n v.hi.num.c, .bool v.hi.den.g, .slice v.hi.den.a v.hi.den.n v.hi.den.c]) ∧ Below w.heap.size w w' ∧ AllOwn w.heap.size w'.heap.size w' [(v.lo.num, d.lo.num), (v.lo.den, d.lo.den), (v.hi.num, d.hi.num), (v.hi.den, d.hi.den)] ∧ AllAr w' [(v.lo.num, d.lo.num), (v.lo.den, d.lo.den), (v.hi.num, d.hi.num), (v.hi.den, d.hi.den)] ∧ IsDP p d
theorem calls_dp {f : Nat} {vs : Array Value} {w : World} {p : Rat × Rat} (h : Calls Try.prog f vs w (OutPt w p)) : Calls Try.prog f vs w (OutD w p) := h.mono fun e w' k => owS_dp k
theorem allSl_ar_mem {w : World} {l : List (SV × SD)} (h : ∀ p ∈ l, AllAr w [(p.1.lo.num, p.2.lo.num), (p.1.lo.den, p.2.lo.den), (p.1.hi.num, p.2.hi.num), (p.1.hi.den, p.2.hi.den)]) : AllAr w (zipPS l) := fun x hx => by
  obtain ⟨p, hp, hx⟩ := List.mem_flatMap.1 hx
  exact h p hp x hx
theorem rep_rowS {M : List Value} {us : List (SV × SD)} {n k : Nat} {u : SV} {d : SD} (hM : M.length = n * 8) (hn : us.length = n) (hk : k < n) (h : ∀ i (h : i < us.length), M[i * 8]? = some (.bool us[i].1.lo.num.g) ∧ M[i * 8 + 1]? = some (.slice us[i].1.lo.num.a us[i].1.lo.num.n us[i].1.lo.num.c) ∧ M[i * 8 + 2]? = some (.bool us[i].1.lo.den.g) ∧ M[i * 8 + 3]? = some (.slice us[i].1.lo.den.a us[i].1.lo.den.n us[i].1.lo.den.c) ∧ M[i * 8 + 4]? = some (.bool us[i].1.hi.num.g) ∧ M[i * 8 + 5]? = some (.slice us[i].1.hi.num.a us[i].1.hi.num.n us[i].1.hi.num.c) ∧ M[i * 8 + 6]? = some (.bool us[i].1.hi.den.g) ∧ M[i * 8 + 7]? = some (.slice us[i].1.hi.den.a us[i].1.hi.den.n us[i].1.hi.den.c)) :
    ∀ i (h : i < (us.set k (u, d)).length), ((((((((M.set (k * 8) (.bool u.lo.num.g)).set (k * 8 + 1) (.slice u.lo.num.a u.lo.num.n u.lo.num.c)).set (k * 8 + 2) (.bool u.lo.den.g)).set (k * 8 + 3) (.slice u.lo.den.a u.lo.den.n u.lo.den.c)).set (k * 8 + 4) (.bool u.hi.num.g)).set (k * 8 + 5) (.slice u.hi.num.a u.hi.num.n u.hi.num.c)).set (k * 8 + 6) (.bool u.hi.den.g)).set (k * 8 + 7) (.slice u.hi.den.a u.hi.den.n u.hi.den.c))[i * 8]? = some (.bool (us.set k (u, d))[i].1.lo.num.g) ∧ ((((((((M.set (k * 8) (.bool u.lo.num.g)).set (k * 8 + 1) (.slice u.lo.num.a u.lo.num.n u.lo.num.c)).set (k * 8 + 2) (.bool u.lo.den.g)).set (k * 8 + 3) (.slice u.lo.den.a u.lo.den.n u.lo.den.c)).set (k * 8 + 4) (.bool u.hi.num.g)).set (k * 8 + 5) (.slice u.hi.num.a u.hi.num.n u.hi.num.c)).set (k * 8 + 6) (.bool u.hi.den.g)).set (k * 8 + 7) (.slice u.hi.den.a u.hi.den.n u.hi.den.c))[i * 8 + 1]? = some (.slice (us.set k (u, d))[i].1.lo.num.a (us.set k (u, d))[i].1.lo.num.n (us.set k (u, d))[i].1.lo.num.c) ∧ ((((((((M.set (k * 8) (.bool u.lo.num.g)).set (k * 8 + 1) (.slice u.lo.num.a u.lo.num.n u.lo.num.c)).set (k * 8 + 2) (.bool u.lo.den.g)).set (k * 8 + 3) (.slice u.lo.den.a u.lo.den.n u.lo.den.c)).set (k * 8 + 4) (.bool u.hi.num.g)).set (k * 8 + 5) (.slice u.hi.num.a u.hi.num.n u.hi.num.c)).set (k * 8 + 6) (.bool u.hi.den.g)).set (k * 8 + 7) (.slice u.hi.den.a u.hi.den.n u.hi.den.c))[i * 8 + 2]? = some (.bool (us.set k (u, d))[i].1.lo.den.g) ∧ ((((((((M.set (k * 8) (.bool u.lo.num.g)).set (k * 8 + 1) (.slice u.lo.num.a u.lo.num.n u.lo.num.c)).set (k * 8 + 2) (.bool u.lo.den.g)).set (k * 8 + 3) (.slice u.lo.den.a u.lo.den.n u.lo.den.c)).set (k * 8 + 4) (.bool u.hi.num.g)).set (k * 8 + 5) (.slice u.hi.num.a u.hi.num.n u.hi.num.c)).set (k * 8 + 6) (.bool u.hi.den.g)).set (k * 8 + 7) (.slice u.hi.den.a u.hi.den.n u.hi.den.c))[i * 8 + 3]? = some (.slice (us.set k (u, d))[i].1.lo.den.a (us.set k (u, d))[i].1.lo.den.n (us.set k (u, d))[i].1.lo.den.c) ∧ ((((((((M.set (k * 8) (.bool u.lo.num.g)).set (k * 8 + 1) (.slice u.lo.num.a u.lo.num.n u.lo.num.c)).set (k * 8 + 2) (.bool u.lo.den.g)).set (k * 8 + 3) (.slice u.lo.den.a u.lo.den.n u.lo.den.c)).set (k * 8 + 4) (.bool u.hi.num.g)).set (k * 8 + 5) (.slice u.hi.num.a u.hi.num.n u.hi.num.c)).set (k * 8 + 6) (.bool u.hi.den.g)).set (k * 8 + 7) (.slice u.hi.den.a u.hi.den.n u.hi.den.c))[i * 8 + 4]? = some (.bool (us.set k (u, d))[i].1.hi.num.g) ∧ ((((((((M.set (k * 8) (.bool u.lo.num.g)).set (k * 8 + 1) (.slice u.lo.num.a u.lo.num.n u.lo.num.c)).set (k * 8 + 2) (.bool u.lo.den.g)).set (k * 8 + 3) (.slice u.lo.den.a u.lo.den.n u.lo.den.c)).set (k * 8 + 4) (.bool u.hi.num.g)).set (k * 8 + 5) (.slice u.hi.num.a u.hi.num.n u.hi.num.c)).set (k * 8 + 6) (.bool u.hi.den.g)).set (k * 8 + 7) (.slice u.hi.den.a u.hi.den.n u.hi.den.c))[i * 8 + 5]? = some (.slice (us.set k (u, d))[i].1.hi.num.a (us.set k (u, d))[i].1.hi.num.n (us.set k (u, d))[i].1.hi.num.c) ∧ ((((((((M.set (k * 8) (.bool u.lo.num.g)).set (k * 8 + 1) (.slice u.lo.num.a u.lo.num.n u.lo.num.c)).set (k * 8 + 2) (.bool u.lo.den.g)).set (k * 8 + 3) (.slice u.lo.den.a u.lo.den.n u.lo.den.c)).set (k * 8 + 4) (.bool u.hi.num.g)).set (k * 8 + 5) (.slice u.hi.num.a u.hi.num.n u.hi.num.c)).set (k * 8 + 6) (.bool u.hi.den.g)).set (k * 8 + 7) (.slice u.hi.den.a u.hi.den.n u.hi.den.c))[i * 8 + 6]? = some (.bool (us.set k (u, d))[i].1.hi.den.g) ∧ ((((((((M.set (k * 8) (.bool u.lo.num.g)).set (k * 8 + 1) (.slice u.lo.num.a u.lo.num.n u.lo.num.c)).set (k * 8 + 2) (.bool u.lo.den.g)).set (k * 8 + 3) (.slice u.lo.den.a u.lo.den.n u.lo.den.c)).set (k * 8 + 4) (.bool u.hi.num.g)).set (k * 8 + 5) (.slice u.hi.num.a u.hi.num.n u.hi.num.c)).set (k * 8 + 6) (.bool u.hi.den.g)).set (k * 8 + 7) (.slice u.hi.den.a u.hi.den.n u.hi.den.c))[i * 8 + 7]? = some (.slice (us.set k (u, d))[i].1.hi.den.a (us.set k (u, d))[i].1.hi.den.n (us.set k (u, d))[i].1.hi.den.c) := by
  intro i hi
  have hi' : i < us.length := by simpa using hi
  by_cases e : i = k
  · subst e
    rw [List.getElem_set_self]
    refine ⟨?_, ?_, ?_, ?_, ?_, ?_, ?_, ?_⟩
    · simp only [List.getElem?_set, List.length_set]; rw [if_neg (by omega), if_neg (by omega), if_neg (by omega), if_neg (by omega), if_neg (by omega), if_neg (by omega), if_neg (by omega)]; rw [if_pos trivial, if_pos (by omega)]
    · simp only [List.getElem?_set, List.length_set]; rw [if_neg (by omega), if_neg (by omega), if_neg (by omega), if_neg (by omega), if_neg (by omega), if_neg (by omega)]; rw [if_pos trivial, if_pos (by omega)]
    · simp only [List.getElem?_set, List.length_set]; rw [if_neg (by omega), if_neg (by omega), if_neg (by omega), if_neg (by omega), if_neg (by omega)]; rw [if_pos trivial, if_pos (by omega)]
    · simp only [List.getElem?_set, List.length_set]; rw [if_neg (by omega), if_neg (by omega), if_neg (by omega), if_neg (by omega)]; rw [if_pos trivial, if_pos (by omega)]
    · simp only [List.getElem?_set, List.length_set]; rw [if_neg (by omega), if_neg (by omega), if_neg (by omega)]; rw [if_pos trivial, if_pos (by omega)]
    · simp only [List.getElem?_set, List.length_set]; rw [if_neg (by omega), if_neg (by omega)]; rw [if_pos trivial, if_pos (by omega)]
    · simp only [List.getElem?_set, List.length_set]; rw [if_neg (by omega)]; rw [if_pos trivial, if_pos (by omega)]
    · simp only [List.getElem?_set, List.length_set]; rw [if_pos trivial, if_pos (by omega)]
  · have h1 := h i hi'
    rw [List.getElem_set_ne (Ne.symm e)]
    simp only [List.getElem?_set]
    refine ⟨?_, ?_, ?_, ?_, ?_, ?_, ?_, ?_⟩
    · rw [if_neg (by omega), if_neg (by omega), if_neg (by omega), if_neg (by omega), if_neg (by omega), if_neg (by omega), if_neg (by omega), if_neg (by omega)]; exact h1.1
    · rw [if_neg (by omega), if_neg (by omega), if_neg (by omega), if_neg (by omega), if_neg (by omega), if_neg (by omega), if_neg (by omega), if_neg (by omega)]; exact h1.2.1
    · rw [if_neg (by omega), if_neg (by omega), if_neg (by omega), if_neg (by omega), if_neg (by omega), if_neg (by omega), if_neg (by omega), if_neg (by omega)]; exact h1.2.2.1
    · rw [if_neg (by omega), if_neg (by omega), if_neg (by omega), if_neg (by omega), if_neg (by omega), if_neg (by omega), if_neg (by omega), if_neg (by omega)]; exact h1.2.2.2.1
    · rw [if_neg (by omega), if_neg (by omega), if_neg (by omega), if_neg (by omega), if_neg (by omega), if_neg (by omega), if_neg (by omega), if_neg (by omega)]; exact h1.2.2.2.2.1
    · rw [if_neg (by omega), if_neg (by omega), if_neg (by omega), if_neg (by omega), if_neg (by omega), if_neg (by omega), if_neg (by omega), if_neg (by omega)]; exact h1.2.2.2.2.2.1
    · rw [if_neg (by omega), if_neg (by omega), if_neg (by omega), if_neg (by omega), if_neg (by omega), if_neg (by omega), if_neg (by omega), if_neg (by omega)]; exact h1.2.2.2.2.2.2.1
    · rw [if_neg (by omega), if_neg (by omega), if_neg (by omega), if_neg (by omega), if_neg (by omega), if_neg (by omega), if_neg (by omega), if_neg (by omega)]; exact h1.2.2.2.2.2.2.2
theorem AllOwn.replZ {lo hi hi' : Nat} {w : World} {A R B U : List (BV × BD)} (h : AllOwn lo hi w (A ++ R ++ B)) (k : AllOwn hi hi' w U) (h1 : lo ≤ hi) (h2 : hi ≤ hi') : AllOwn lo hi' w (A ++ U ++ B) := by
  have hAp : (A ++ R).Pairwise Ap ∧ B.Pairwise Ap ∧ ∀ p ∈ A ++ R, ∀ q ∈ B, Ap p q := List.pairwise_append.1 h.ap
  have hA := (List.pairwise_append.1 hAp.1).1
  have oA : ∀ p ∈ A, OwB2 lo hi w p.1 p.2 := fun p hp => h.own p (List.mem_append_left _ (List.mem_append_left _ hp))
  have oB : ∀ p ∈ B, OwB2 lo hi w p.1 p.2 := fun p hp => h.own p (List.mem_append_right _ hp)
  refine ⟨fun p hp => ?_, List.pairwise_append.2 ⟨List.pairwise_append.2 ⟨hA, k.ap, fun p hp q hq => dis_parts (oA p hp).own (k.own q hq).own (.inl (Nat.le_refl _))⟩, hAp.2.1, fun p hp q hq => ?_⟩⟩
  · rcases List.mem_append.1 hp with hp | hp
    · rcases List.mem_append.1 hp with hp | hp
      · exact ⟨(oA p hp).sg, (oA p hp).own.wide (Nat.le_refl _) h2, (oA p hp).len⟩
      · exact ⟨(k.own p hp).sg, (k.own p hp).own.wide h1 (Nat.le_refl _), (k.own p hp).len⟩
    · exact ⟨(oB p hp).sg, (oB p hp).own.wide (Nat.le_refl _) h2, (oB p hp).len⟩
  · rcases List.mem_append.1 hp with hp | hp
    · exact hAp.2.2 p (List.mem_append_left _ hp) q hq
    · exact dis_parts (k.own p hp).own (oB q hq).own (.inr (Nat.le_refl _))
theorem zipS_set {us : List (SV × SD)} {k : Nat} {u : SV × SD} (h : k < us.length) : zipPS us = zipPS (us.take k) ++ zipPS [us[k]] ++ zipPS (us.drop (k + 1)) ∧ zipPS (us.set k u) = zipPS (us.take k) ++ zipPS [u] ++ zipPS (us.drop (k + 1)) := by
  constructor
  · rw [← zipPS_append, ← zipPS_append]
    congr 1
    rw [List.append_assoc]
    show us = us.take k ++ (us[k] :: us.drop (k + 1))
    rw [← List.drop_eq_getElem_cons h, List.take_append_drop]
  · rw [← zipPS_append, ← zipPS_append]
    congr 1
    rw [List.set_eq_take_append_cons_drop, if_pos h, List.append_assoc]
    rfl
/-- A row of n points that the call makes at block B, and fills: us are in it. -/
structure GrZ (B n : Nat) (w : World) (us : List (SV × SD)) : Prop where
  row : ∃ M, w.ownsRow B 52 8 (.slice (some ⟨B, 0, none⟩) n n) n M ∧ ∀ i (h : i < us.length), M[i * 8]? = some (.bool us[i].1.lo.num.g) ∧ M[i * 8 + 1]? = some (.slice us[i].1.lo.num.a us[i].1.lo.num.n us[i].1.lo.num.c) ∧ M[i * 8 + 2]? = some (.bool us[i].1.lo.den.g) ∧ M[i * 8 + 3]? = some (.slice us[i].1.lo.den.a us[i].1.lo.den.n us[i].1.lo.den.c) ∧ M[i * 8 + 4]? = some (.bool us[i].1.hi.num.g) ∧ M[i * 8 + 5]? = some (.slice us[i].1.hi.num.a us[i].1.hi.num.n us[i].1.hi.num.c) ∧ M[i * 8 + 6]? = some (.bool us[i].1.hi.den.g) ∧ M[i * 8 + 7]? = some (.slice us[i].1.hi.den.a us[i].1.hi.den.n us[i].1.hi.den.c)
  own : AllOwn (B + 1) w.heap.size w (zipPS us)
  ar : ∀ p ∈ us, AllAr w [(p.1.lo.num, p.2.lo.num), (p.1.lo.den, p.2.lo.den), (p.1.hi.num, p.2.hi.num), (p.1.hi.den, p.2.hi.den)]
  lt : B < w.heap.size
  len : us.length = n
theorem GrZ.later {B n : Nat} {w w' : World} {us : List (SV × SD)} (h : GrZ B n w us) (hb : Below w.heap.size w w') : GrZ B n w' us := by
  obtain ⟨M, hr, hM⟩ := h.row
  exact ⟨⟨M, ownsRow_laterS hr hb, hM⟩, (h.own.later hb).wide (Nat.le_refl _) hb.size, fun p hp => (h.ar p hp).later hb, Nat.lt_of_lt_of_le h.lt hb.size, h.len⟩
theorem GrZ.old {B n : Nat} {w : World} {us : List (SV × SD)} (h : GrZ B n w us) {o : Nat} (ho : o < n * 8) : ∃ x, w.cell? ⟨B, o, none⟩ = some x := by
  obtain ⟨M, hr, hM⟩ := h.row
  have hl := hr.1
  rw [hr.cellAt _ (by omega)]
  exact ⟨_, List.getElem?_eq_getElem (by omega)⟩
theorem GrZ.fz {B n : Nat} {w : World} {us : List (SV × SD)} (h : GrZ B n w us) (o : Nat) : w.frozen? ⟨B, o, none⟩ = false := by
  obtain ⟨M, hr, hM⟩ := h.row
  exact hr.frozenAt o
theorem GrZ.put {B n k : Nat} {wr w : World} {us : List (SV × SD)} {u : SV} {d : SD} (h : GrZ B n wr us) (hb : Below wr.heap.size wr w) (hk : k < n) (ho : AllOwn wr.heap.size w.heap.size w [(u.lo.num, d.lo.num), (u.lo.den, d.lo.den), (u.hi.num, d.hi.num), (u.hi.den, d.hi.den)]) (ha : AllAr w [(u.lo.num, d.lo.num), (u.lo.den, d.lo.den), (u.hi.num, d.hi.num), (u.hi.den, d.hi.den)]) :
    GrZ B n ((((((((w.setCell ⟨B, k * 8, none⟩ (.bool u.lo.num.g)).setCell ⟨B, k * 8 + 1, none⟩ (.slice u.lo.num.a u.lo.num.n u.lo.num.c)).setCell ⟨B, k * 8 + 2, none⟩ (.bool u.lo.den.g)).setCell ⟨B, k * 8 + 3, none⟩ (.slice u.lo.den.a u.lo.den.n u.lo.den.c)).setCell ⟨B, k * 8 + 4, none⟩ (.bool u.hi.num.g)).setCell ⟨B, k * 8 + 5, none⟩ (.slice u.hi.num.a u.hi.num.n u.hi.num.c)).setCell ⟨B, k * 8 + 6, none⟩ (.bool u.hi.den.g)).setCell ⟨B, k * 8 + 7, none⟩ (.slice u.hi.den.a u.hi.den.n u.hi.den.c)) (us.set k (u, d)) := by
  have h2 := h.later hb
  obtain ⟨M, hM, hL⟩ := h2.row
  have bt : But B (B + 1) w ((((((((w.setCell ⟨B, k * 8, none⟩ (.bool u.lo.num.g)).setCell ⟨B, k * 8 + 1, none⟩ (.slice u.lo.num.a u.lo.num.n u.lo.num.c)).setCell ⟨B, k * 8 + 2, none⟩ (.bool u.lo.den.g)).setCell ⟨B, k * 8 + 3, none⟩ (.slice u.lo.den.a u.lo.den.n u.lo.den.c)).setCell ⟨B, k * 8 + 4, none⟩ (.bool u.hi.num.g)).setCell ⟨B, k * 8 + 5, none⟩ (.slice u.hi.num.a u.hi.num.n u.hi.num.c)).setCell ⟨B, k * 8 + 6, none⟩ (.bool u.hi.den.g)).setCell ⟨B, k * 8 + 7, none⟩ (.slice u.hi.den.a u.hi.den.n u.hi.den.c)) := but_rowS
  have hkl : k < us.length := by rw [h.len]; exact hk
  have own := AllOwn.replZ (U := zipPS [(u, d)]) (by have := h.own.later hb; rw [(zipS_set (u := (u, d)) hkl).1] at this; exact this) (by rw [zipPS_one]; exact ho) (Nat.succ_le_of_lt h.lt) hb.size
  rw [← (zipS_set (u := (u, d)) hkl).2] at own
  have ar : AllAr w (zipPS (us.set k (u, d))) := allSl_ar_mem (fun p hp => by
    rcases List.mem_or_eq_of_mem_set hp with hp | rfl
    · exact h2.ar p hp
    · exact ha)
  refine ⟨⟨_, (World.ownsRow.stored (World.ownsRow.stored (World.ownsRow.stored (World.ownsRow.stored (World.ownsRow.stored (World.ownsRow.stored (World.ownsRow.stored (World.ownsRow.stored hM (k * 8) (.bool u.lo.num.g)).1 (k * 8 + 1) (.slice u.lo.num.a u.lo.num.n u.lo.num.c)).1 (k * 8 + 2) (.bool u.lo.den.g)).1 (k * 8 + 3) (.slice u.lo.den.a u.lo.den.n u.lo.den.c)).1 (k * 8 + 4) (.bool u.hi.num.g)).1 (k * 8 + 5) (.slice u.hi.num.a u.hi.num.n u.hi.num.c)).1 (k * 8 + 6) (.bool u.hi.den.g)).1 (k * 8 + 7) (.slice u.hi.den.a u.hi.den.n u.hi.den.c)).1, rep_rowS hM.1 h.len hk hL⟩, (own.but bt (.inr (Nat.le_refl _))).wide (Nat.le_refl _) bt.size, fun p hp x hx => ar_fin bt own ar (Nat.le_refl _) x (zipPS_mem hp hx), Nat.lt_of_lt_of_le h2.lt bt.size, by rw [List.length_set]; exact h.len⟩
theorem GrZ.bel {B n k : Nat} {w0 w : World} {u : SV} (hb : Below w0.heap.size w0 w) (hB : w0.heap.size ≤ B) : Below w0.heap.size w0 ((((((((w.setCell ⟨B, k * 8, none⟩ (.bool u.lo.num.g)).setCell ⟨B, k * 8 + 1, none⟩ (.slice u.lo.num.a u.lo.num.n u.lo.num.c)).setCell ⟨B, k * 8 + 2, none⟩ (.bool u.lo.den.g)).setCell ⟨B, k * 8 + 3, none⟩ (.slice u.lo.den.a u.lo.den.n u.lo.den.c)).setCell ⟨B, k * 8 + 4, none⟩ (.bool u.hi.num.g)).setCell ⟨B, k * 8 + 5, none⟩ (.slice u.hi.num.a u.hi.num.n u.hi.num.c)).setCell ⟨B, k * 8 + 6, none⟩ (.bool u.hi.den.g)).setCell ⟨B, k * 8 + 7, none⟩ (.slice u.hi.den.a u.hi.den.n u.hi.den.c)) := (but_rowS (w := w) (G := B) (k := k) (u := u)).below hb hB hb.size
def zSV : SV := ⟨⟨⟨false, none, 0, 0⟩, ⟨false, none, 0, 0⟩⟩, ⟨⟨false, none, 0, 0⟩, ⟨false, none, 0, 0⟩⟩⟩
def zSD : SD := ⟨⟨⟨false, []⟩, ⟨false, []⟩⟩, ⟨⟨false, []⟩, ⟨false, []⟩⟩⟩
theorem zips_zero (lo hi : Nat) (w : World) (n : Nat) : AllOwn lo hi w (zipPS (List.replicate n (zSV, zSD))) := by
  have mem : ∀ p ∈ zipPS (List.replicate n (zSV, zSD)), p = ((⟨false, none, 0, 0⟩ : BV), (⟨false, []⟩ : BD)) := fun p hp => by
    obtain ⟨q, hq, hp⟩ := List.mem_flatMap.1 hp
    obtain rfl := (List.mem_replicate.1 hq).2
    simpa [zSV, zSD] using hp
  refine ⟨fun p hp => ?_, List.pairwise_of_forall_mem_list (fun p hp q hq => ?_)⟩
  · rw [mem p hp]
    exact ⟨rfl, .inl rfl, rfl⟩
  · rw [mem p hp]
    exact .inl rfl
theorem zero_ar (w : World) : AllAr w [(zSV.lo.num, zSD.lo.num), (zSV.lo.den, zSD.lo.den), (zSV.hi.num, zSD.hi.num), (zSV.hi.den, zSD.hi.den)] := fun p hp => by
  have hp : p = ((⟨false, none, 0, 0⟩ : BV), (⟨false, []⟩ : BD)) := by simpa [zSV, zSD] using hp
  subst hp
  exact ⟨rfl, Arg.none w⟩
theorem GrZ.start {n : Nat} {w w1 : World} (hr : w1.ownsRow w.heap.size 52 8 (.slice (some ⟨w.heap.size, 0, none⟩) n n) n (madeCells #[.bool false, .slice none 0 0, .bool false, .slice none 0 0, .bool false, .slice none 0 0, .bool false, .slice none 0 0] (n * 8)).toList) (hb : Below w.heap.size w w1) : GrZ w.heap.size n w1 (List.replicate n (zSV, zSD)) := by
  have lt : w.heap.size < w1.heap.size := by
    rcases hr.2 with ⟨h', _⟩ | ⟨g', cap, cur, hv, _, hg, _⟩
    · simp at h'
    · simp only [Value.slice.injEq, Option.some.injEq, Addr.mk.injEq, and_true, true_and] at hv
      have := (Array.getElem?_eq_some_iff.1 hg).1
      omega
  refine ⟨⟨_, hr, fun i hi => ?_⟩, zips_zero _ _ _ _, fun p hp => ?_, lt, List.length_replicate⟩
  · have hi' : i < n := by simpa using hi
    have e : (List.replicate n (zSV, zSD))[i].1 = zSV := by rw [List.getElem_replicate]
    rw [e]
    refine ⟨?_, ?_, ?_, ?_, ?_, ?_, ?_, ?_⟩ <;> (unfold madeCells; simp only [Array.toList_map, Array.toList_range, List.getElem?_map]; rw [List.getElem?_range (by omega)]; simp [zSV, Nat.mul_add_mod, Nat.mul_mod_left]; try rfl)
  · obtain rfl := (List.mem_replicate.1 hp).2
    exact zero_ar w1
end Go.Proofs.Ythmpikagenodjaa
namespace Go.Proofs.Ythmpikagenodjaa
open Go.RowKit
set_option linter.unusedVariables false
set_option maxRecDepth 100000
set_option linter.unusedSimpArgs false

/-- The cells of some points, one after another. -/
def flatZ : List (SV × SD) → List Value
  | [] => []
  | p :: l => (Value.bool p.1.lo.num.g : Value) :: (Value.slice p.1.lo.num.a p.1.lo.num.n p.1.lo.num.c : Value) :: (Value.bool p.1.lo.den.g : Value) :: (Value.slice p.1.lo.den.a p.1.lo.den.n p.1.lo.den.c : Value) :: (Value.bool p.1.hi.num.g : Value) :: (Value.slice p.1.hi.num.a p.1.hi.num.n p.1.hi.num.c : Value) :: (Value.bool p.1.hi.den.g : Value) :: (Value.slice p.1.hi.den.a p.1.hi.den.n p.1.hi.den.c : Value) :: flatZ l
theorem flatZ_append (l l' : List (SV × SD)) : flatZ (l ++ l') = flatZ l ++ flatZ l' := by
  induction l with
  | nil => rfl
  | cons p l ih => simp only [List.cons_append, flatZ, ih]
theorem flatZ_get (l : List (SV × SD)) : ∀ i (h : i < l.length), (flatZ l)[i * 8]? = some (.bool l[i].1.lo.num.g) ∧ (flatZ l)[i * 8 + 1]? = some (.slice l[i].1.lo.num.a l[i].1.lo.num.n l[i].1.lo.num.c) ∧ (flatZ l)[i * 8 + 2]? = some (.bool l[i].1.lo.den.g) ∧ (flatZ l)[i * 8 + 3]? = some (.slice l[i].1.lo.den.a l[i].1.lo.den.n l[i].1.lo.den.c) ∧ (flatZ l)[i * 8 + 4]? = some (.bool l[i].1.hi.num.g) ∧ (flatZ l)[i * 8 + 5]? = some (.slice l[i].1.hi.num.a l[i].1.hi.num.n l[i].1.hi.num.c) ∧ (flatZ l)[i * 8 + 6]? = some (.bool l[i].1.hi.den.g) ∧ (flatZ l)[i * 8 + 7]? = some (.slice l[i].1.hi.den.a l[i].1.hi.den.n l[i].1.hi.den.c) := by
  induction l with
  | nil => intro i h; simp at h
  | cons p l ih =>
    intro i h
    match i with
    | 0 => exact ⟨rfl, rfl, rfl, rfl, rfl, rfl, rfl, rfl⟩
    | i + 1 =>
      have h1 := ih i (by simpa using h)
      have e : ∀ c, (i + 1) * 8 + c = (i * 8 + c) + 1 + 1 + 1 + 1 + 1 + 1 + 1 + 1 := fun c => by omega
      have e0 : (i + 1) * 8 = (i * 8) + 1 + 1 + 1 + 1 + 1 + 1 + 1 + 1 := by omega
      refine ⟨?_, ?_, ?_, ?_, ?_, ?_, ?_, ?_⟩
      · rw [e0]; exact h1.1
      · rw [e]; exact h1.2.1
      · rw [e]; exact h1.2.2.1
      · rw [e]; exact h1.2.2.2.1
      · rw [e]; exact h1.2.2.2.2.1
      · rw [e]; exact h1.2.2.2.2.2.1
      · rw [e]; exact h1.2.2.2.2.2.2.1
      · rw [e]; exact h1.2.2.2.2.2.2.2
/-- Limbs in blocks of integers. -/
def TypZ (w : World) (l : List (BV × BD)) : Prop := ∀ p ∈ l, ∃ lo hi, Own2 lo hi w p.1.a p.2.xs
theorem TypZ.later {w w' : World} {l : List (BV × BD)} (h : TypZ w l) (hb : Below w.heap.size w w') : TypZ w' l := fun p hp => by
  obtain ⟨lo, hi, ho⟩ := h p hp
  exact ⟨lo, hi, ho.later hb⟩
theorem TypZ.append {w : World} {l m : List (BV × BD)} (h : TypZ w l) (k : TypZ w m) : TypZ w (l ++ m) := fun p hp => by
  rcases List.mem_append.1 hp with hp | hp
  · exact h p hp
  · exact k p hp
theorem AllOwn.typZ {lo hi : Nat} {w : World} {l : List (BV × BD)} (h : AllOwn lo hi w l) : TypZ w l := fun p hp => ⟨lo, hi, (h.own p hp).own⟩
theorem TypZ.grown {w w' : World} {l : List (BV × BD)} {v : Value} {n B : Nat} {M : List Value} (h : TypZ w l) (hg : w.grownBy w' v.ownBlock) (hr : w.ownsRow B 52 8 v n M) : TypZ w' l := fun p hp => by
  obtain ⟨lo, hi, ho⟩ := h p hp
  refine ⟨lo, hi, ?_⟩
  rcases ho with e | ⟨b, cur, e, h1, h2, hb, hc⟩
  · exact .inl e
  · refine .inr ⟨b, cur, e, h1, h2, ?_, hc⟩
    rw [hg.block b (Array.getElem?_eq_some_iff.1 hb).1 (fun eb => ?_)]
    · exact hb
    · rcases hr.2 with ⟨h', _⟩ | ⟨g', cap, cur', hv, _, hgt, _⟩
      · rw [h'] at eb; simp [Value.ownBlock] at eb
      · rw [hv] at eb
        simp only [Value.ownBlock, Option.some.injEq] at eb
        subst eb
        rw [hb] at hgt
        simp only [Option.some.injEq, Obj.cells.injEq] at hgt
        exact absurd hgt.2.1 (by decide)
theorem TypZ.ar {w w' : World} {l : List (BV × BD)} (ho : TypZ w' l) (ha : AllAr w l) : AllAr w' l := fun p hp => by
  obtain ⟨lo, hi, h⟩ := ho p hp
  exact ⟨(ha p hp).sg, ⟨h.sl, (ha p hp).ar.len, (ha p hp).ar.cap, (ha p hp).ar.top, (ha p hp).ar.addr⟩⟩
/-- A row of points that grows by append, from block B on (or nil). -/
structure GwZ (B : Nat) (w : World) (v : Value) (us : List (SV × SD)) : Prop where
  row : w.ownsRow B 52 8 v us.length (flatZ us)
  typ : TypZ w (zipPS us)
  ar : AllAr w (zipPS us)
theorem GwZ.nil (B : Nat) (w : World) : GwZ B w (.slice none 0 0) [] := ⟨⟨rfl, .inl ⟨rfl, rfl⟩⟩, fun p hp => (by cases hp), fun p hp => (by cases hp)⟩
theorem GwZ.later {B : Nat} {w w' : World} {v : Value} {us : List (SV × SD)} (h : GwZ B w v us) (hb : Below w.heap.size w w') : GwZ B w' v us := by
  refine ⟨⟨h.row.1, ?_⟩, h.typ.later hb, h.ar.later hb⟩
  rcases h.row.2 with h' | ⟨g', cap, cur, hv, h1, hg, r⟩
  · exact .inl h'
  · refine .inr ⟨g', cap, cur, hv, h1, ?_, r⟩
    rw [hb.block g' (Array.getElem?_eq_some_iff.1 hg).1]
    exact hg
theorem GwZ.base {B : Nat} {w : World} {v : Value} {us : List (SV × SD)} (h : GwZ B w v us) : ∀ k, v.ownBlock = some k → B ≤ k := fun k e => by
  rcases h.row.2 with ⟨h', _⟩ | ⟨g', cap, cur, hv, h1, _⟩
  · rw [h'] at e; simp [Value.ownBlock] at e
  · rw [hv] at e
    simp only [Value.ownBlock, Option.some.injEq] at e
    omega
theorem GwZ.arg {B : Nat} {w : World} {v : Value} {us : List (SV × SD)} (h : GwZ B w v us) : ∃ a c, v = .slice a us.length c ∧ (a = none → c = 0) ∧ PArS w a us.length c us := by
  have rd : ∀ p ∈ us, AllAr w [(p.1.lo.num, p.2.lo.num), (p.1.lo.den, p.2.lo.den), (p.1.hi.num, p.2.hi.num), (p.1.hi.den, p.2.hi.den)] := fun p hp x hx => h.ar x (zipPS_mem hp hx)
  rcases h.row.2 with ⟨h', h0⟩ | ⟨g, cap, cur, hv, h1, hg, r1, r2, r3⟩
  · exact ⟨none, 0, by rw [h', h0], fun _ => rfl, ⟨.inl (List.length_eq_zero_iff.1 h0), rd, rfl, by omega, Nat.zero_le _⟩⟩
  · have hr := h.row
    rw [hv] at hr
    refine ⟨_, cap, hv, fun e => (by cases e), ⟨.inr ⟨g, 0, rfl, (Array.getElem?_eq_some_iff.1 hg).1, fun i hi => ?_⟩, rd, rfl, r1, r2⟩⟩
    have hc := flatZ_get us i hi
    refine ⟨?_, ?_, ?_, ?_, ?_, ?_, ?_, ?_⟩ <;> rw [Nat.zero_add, hr.cellAt _ (by omega)]
    · exact hc.1
    · exact hc.2.1
    · exact hc.2.2.1
    · exact hc.2.2.2.1
    · exact hc.2.2.2.2.1
    · exact hc.2.2.2.2.2.1
    · exact hc.2.2.2.2.2.2.1
    · exact hc.2.2.2.2.2.2.2
theorem GwZ.grow {B g cap : Nat} {w w' : World} {v : Value} {us : List (SV × SD)} {u : SV} {d : SD} (h : GwZ B w v us) (ht : TypZ w [(u.lo.num, d.lo.num), (u.lo.den, d.lo.den), (u.hi.num, d.hi.num), (u.hi.den, d.hi.den)]) (ha : AllAr w [(u.lo.num, d.lo.num), (u.lo.den, d.lo.den), (u.hi.num, d.hi.num), (u.hi.den, d.hi.den)])
    (hr : w'.ownsRow B 52 8 (.slice (some ⟨g, 0, none⟩) (us.length + 1) cap) (us.length + 1) (flatZ us ++ [.bool u.lo.num.g, .slice u.lo.num.a u.lo.num.n u.lo.num.c, .bool u.lo.den.g, .slice u.lo.den.a u.lo.den.n u.lo.den.c, .bool u.hi.num.g, .slice u.hi.num.a u.hi.num.n u.hi.num.c, .bool u.hi.den.g, .slice u.hi.den.a u.hi.den.n u.hi.den.c])) (hg : w.grownBy w' v.ownBlock) : GwZ B w' (.slice (some ⟨g, 0, none⟩) (us.length + 1) cap) (us ++ [(u, d)]) := by
  have t1 := (h.typ.append ht).grown hg h.row
  have t2 := t1.ar (h.ar.append ha)
  rw [← zipPS_one (u, d), ← zipPS_append] at t1 t2
  refine ⟨?_, t1, t2⟩
  rw [flatZ_append, List.length_append]
  exact hr
theorem GwZ.bel {B : Nat} {w0 w w' : World} {v : Value} {us : List (SV × SD)} (h : GwZ B w v us) (hb : Below w0.heap.size w0 w) (hB : w0.heap.size ≤ B) (hg : w.grownBy w' v.ownBlock) : Below w0.heap.size w0 w' := hb.grown hg hb.size (fun k e => Nat.le_trans hB (h.base k e))
theorem oneZ {u : SV} : ∀ u' ∈ [Value.bool u.lo.num.g, Value.slice u.lo.num.a u.lo.num.n u.lo.num.c, Value.bool u.lo.den.g, Value.slice u.lo.den.a u.lo.den.n u.lo.den.c, Value.bool u.hi.num.g, Value.slice u.hi.num.a u.hi.num.n u.hi.num.c, Value.bool u.hi.den.g, Value.slice u.hi.den.a u.hi.den.n u.hi.den.c], u'.oneCell' = true := fun u' hu' => by
  simp only [List.mem_cons, List.not_mem_nil, or_false] at hu'
  rcases hu' with rfl | rfl | rfl | rfl | rfl | rfl | rfl | rfl <;> rfl
/-- One point is appended. -/
theorem appZ {ops : Array Oper} {rest : List Oper} {o : Oper} {a : Act} {Q : Exit → Act → World → Prop} {w : World} (hgd : o.guard = none) (s x : Operand)
    (ho : o.op = .call { callee := .builtin .append, args := #[s, x], argTypes := #[25, 25] }) (B : Nat) (v : Value) (us : List (SV × SD)) (hs : a.eval s = v) (hG : GwZ B w v us) (G : Nat) (u : SV) (d : SD) (hx : a.eval x = .slice (some ⟨G, 0, none⟩) 1 1)
    (hblk : w.heap[G]? = some (.cells #[.bool u.lo.num.g, .slice u.lo.num.a u.lo.num.n u.lo.num.c, .bool u.lo.den.g, .slice u.lo.den.a u.lo.den.n u.lo.den.c, .bool u.hi.num.g, .slice u.hi.num.a u.hi.num.n u.hi.num.c, .bool u.hi.den.g, .slice u.hi.den.a u.hi.den.n u.hi.den.c] 52 (0, 0))) (ht : TypZ w [(u.lo.num, d.lo.num), (u.lo.den, d.lo.den), (u.hi.num, d.hi.num), (u.hi.den, d.hi.den)]) (ha : AllAr w [(u.lo.num, d.lo.num), (u.lo.den, d.lo.den), (u.hi.num, d.hi.num), (u.hi.den, d.hi.den)]) (hlen : us.length ≤ 100000) (hB : B ≤ w.heap.size)
    (h : ∀ g cap w', GwZ B w' (.slice (some ⟨g, 0, none⟩) (us.length + 1) cap) (us ++ [(u, d)]) → w.grownBy w' v.ownBlock → wpList Try.prog ops Q rest (a.put o.dst (.slice (some ⟨g, 0, none⟩) (us.length + 1) cap)) w') : wpList Try.prog ops Q (o :: rest) a w := by
  obtain ⟨i0, hi, hz0, hz1, hz2⟩ := info_parts Try.info52
  refine wpList_append_lies w hgd s x 25 ho B 52 i0 (.agg #[.bool false, .slice none 0 0, .bool false, .slice none 0 0, .bool false, .slice none 0 0, .bool false, .slice none 0 0]) 8 128 Try.underlying25 hi hz0 hz1 hz2 rfl (by decide) v us.length (flatZ us) hs hG.row ⟨G, 0, none⟩ 1 1 [.bool u.lo.num.g, .slice u.lo.num.a u.lo.num.n u.lo.num.c, .bool u.lo.den.g, .slice u.lo.den.a u.lo.den.n u.lo.den.c, .bool u.hi.num.g, .slice u.hi.num.a u.hi.num.n u.hi.num.c, .bool u.hi.den.g, .slice u.hi.den.a u.hi.den.n u.hi.den.c] hx rfl (World.news_of_block hblk) oneZ (by omega) (by unfold maxLen; omega) (by omega) hB _ rfl ?_
  intro g cap w' hown hgrow _ _
  exact h g cap w' (hG.grow ht ha hown hgrow) hgrow
theorem TypZ.slc {w w' : World} {l : List (BV × BD)} (ho : TypZ w' l) (ha : AllSl w l) : AllSl w' l := fun p hp => by
  obtain ⟨lo, hi, h⟩ := ho p hp
  exact ⟨(ha p hp).sg, h.sl, (ha p hp).len⟩
theorem AllSl.appendZ {w : World} {l m : List (BV × BD)} (h : AllSl w l) (k : AllSl w m) : AllSl w (l ++ m) := fun p hp => by
  rcases List.mem_append.1 hp with hp | hp
  · exact h p hp
  · exact k p hp
/-- A row of points, to be read, that grows by append, from block B on (or nil). -/
structure GwY (B : Nat) (w : World) (v : Value) (us : List (SV × SD)) : Prop where
  row : w.ownsRow B 52 8 v us.length (flatZ us)
  typ : TypZ w (zipPS us)
  ar : AllSl w (zipPS us)
theorem GwY.nil (B : Nat) (w : World) : GwY B w (.slice none 0 0) [] := ⟨⟨rfl, .inl ⟨rfl, rfl⟩⟩, fun p hp => (by cases hp), fun p hp => (by cases hp)⟩
theorem GwY.later {B : Nat} {w w' : World} {v : Value} {us : List (SV × SD)} (h : GwY B w v us) (hb : Below w.heap.size w w') : GwY B w' v us := by
  refine ⟨⟨h.row.1, ?_⟩, h.typ.later hb, h.ar.later hb⟩
  rcases h.row.2 with h' | ⟨g', cap, cur, hv, h1, hg, r⟩
  · exact .inl h'
  · refine .inr ⟨g', cap, cur, hv, h1, ?_, r⟩
    rw [hb.block g' (Array.getElem?_eq_some_iff.1 hg).1]
    exact hg
theorem GwY.base {B : Nat} {w : World} {v : Value} {us : List (SV × SD)} (h : GwY B w v us) : ∀ k, v.ownBlock = some k → B ≤ k := fun k e => by
  rcases h.row.2 with ⟨h', _⟩ | ⟨g', cap, cur, hv, h1, _⟩
  · rw [h'] at e; simp [Value.ownBlock] at e
  · rw [hv] at e
    simp only [Value.ownBlock, Option.some.injEq] at e
    omega
theorem GwY.sl {B : Nat} {w : World} {v : Value} {us : List (SV × SD)} (h : GwY B w v us) : ∃ a c, v = .slice a us.length c ∧ PSlS w a us := by
  have rd : ∀ p ∈ us, AllSl w [(p.1.lo.num, p.2.lo.num), (p.1.lo.den, p.2.lo.den), (p.1.hi.num, p.2.hi.num), (p.1.hi.den, p.2.hi.den)] := fun p hp x hx => h.ar x (zipPS_mem hp hx)
  rcases h.row.2 with ⟨h', h0⟩ | ⟨g, cap, cur, hv, h1, hg, r1, r2, r3⟩
  · exact ⟨none, 0, by rw [h', h0], ⟨.inl (List.length_eq_zero_iff.1 h0), rd⟩⟩
  · have hr := h.row
    rw [hv] at hr
    refine ⟨_, cap, hv, ⟨.inr ⟨g, 0, rfl, (Array.getElem?_eq_some_iff.1 hg).1, fun i hi => ?_⟩, rd⟩⟩
    have hc := flatZ_get us i hi
    refine ⟨?_, ?_, ?_, ?_, ?_, ?_, ?_, ?_⟩ <;> rw [Nat.zero_add, hr.cellAt _ (by omega)]
    · exact hc.1
    · exact hc.2.1
    · exact hc.2.2.1
    · exact hc.2.2.2.1
    · exact hc.2.2.2.2.1
    · exact hc.2.2.2.2.2.1
    · exact hc.2.2.2.2.2.2.1
    · exact hc.2.2.2.2.2.2.2
theorem GwY.grow {B g cap : Nat} {w w' : World} {v : Value} {us : List (SV × SD)} {u : SV} {d : SD} (h : GwY B w v us) (ht : TypZ w [(u.lo.num, d.lo.num), (u.lo.den, d.lo.den), (u.hi.num, d.hi.num), (u.hi.den, d.hi.den)]) (ha : AllSl w [(u.lo.num, d.lo.num), (u.lo.den, d.lo.den), (u.hi.num, d.hi.num), (u.hi.den, d.hi.den)])
    (hr : w'.ownsRow B 52 8 (.slice (some ⟨g, 0, none⟩) (us.length + 1) cap) (us.length + 1) (flatZ us ++ [.bool u.lo.num.g, .slice u.lo.num.a u.lo.num.n u.lo.num.c, .bool u.lo.den.g, .slice u.lo.den.a u.lo.den.n u.lo.den.c, .bool u.hi.num.g, .slice u.hi.num.a u.hi.num.n u.hi.num.c, .bool u.hi.den.g, .slice u.hi.den.a u.hi.den.n u.hi.den.c])) (hg : w.grownBy w' v.ownBlock) : GwY B w' (.slice (some ⟨g, 0, none⟩) (us.length + 1) cap) (us ++ [(u, d)]) := by
  have t1 := (h.typ.append ht).grown hg h.row
  have t2 := t1.slc (h.ar.appendZ ha)
  rw [← zipPS_one (u, d), ← zipPS_append] at t1 t2
  refine ⟨?_, t1, t2⟩
  rw [flatZ_append, List.length_append]
  exact hr
theorem GwY.bel {B : Nat} {w0 w w' : World} {v : Value} {us : List (SV × SD)} (h : GwY B w v us) (hb : Below w0.heap.size w0 w) (hB : w0.heap.size ≤ B) (hg : w.grownBy w' v.ownBlock) : Below w0.heap.size w0 w' := hb.grown hg hb.size (fun k e => Nat.le_trans hB (h.base k e))
end Go.Proofs.Ythmpikagenodjaa
namespace Go.Proofs.Ythmpikagenodjaa
open Go.RowKit
set_option linter.unusedVariables false
set_option maxRecDepth 100000
set_option linter.unusedSimpArgs false

/-- Points of few limbs. -/
def BdC (ps : List (Rat × Rat)) (L : Nat) : Prop := ∀ p ∈ ps, BdP p L
/-- A slice that reads as these points. -/
structure RdC (w : World) (a : Option Addr) (n c : Nat) (l : List (SV × SD)) (ps : List (Rat × Rat)) : Prop where
  ar : PArS w a n c l
  is : IsC ps (l.map Prod.snd)
theorem RdC.later {w w' : World} {a : Option Addr} {n c : Nat} {l : List (SV × SD)} {ps : List (Rat × Rat)} (h : RdC w a n c l ps) (hb : Below w.heap.size w w') : RdC w' a n c l ps := ⟨h.ar.later hb, h.is⟩
theorem RdC.len {w : World} {a : Option Addr} {n c : Nat} {l : List (SV × SD)} {ps : List (Rat × Rat)} (h : RdC w a n c l ps) : ps.length = n := by rw [← h.is.len, List.length_map]; exact h.ar.len
theorem RdC.pt {w : World} {a : Option Addr} {n c : Nat} {l : List (SV × SD)} {ps : List (Rat × Rat)} (h : RdC w a n c l ps) {i : Nat} {y : SV × SD} (hy : l[i]? = some y) : ∃ p, ps[i]? = some p ∧ p ∈ ps ∧ IsDP p y.2 ∧ IsPt w y.1 p := by
  have hi : i < l.length := (List.getElem?_eq_some_iff.1 hy).1
  have hp : i < ps.length := by rw [← h.is.len, List.length_map]; exact hi
  have hd : (l.map Prod.snd)[i]? = some y.2 := by rw [List.getElem?_map, hy]; rfl
  have h1 := h.is.at_ i ps[i] y.2 (List.getElem?_eq_getElem hp) hd
  exact ⟨ps[i], List.getElem?_eq_getElem hp, List.getElem_mem _, h1, h1.is (h.ar.rd y (List.mem_of_getElem? hy))⟩
theorem lenPS_le {l : List (SV × SD)} {B : Nat} (h : ∀ p ∈ l, p.1.lo.num.n ≤ B ∧ p.1.lo.den.n ≤ B ∧ p.1.hi.num.n ≤ B ∧ p.1.hi.den.n ≤ B) : lenPS l ≤ 4 * B * l.length := by
  induction l with
  | nil => simp [lenPS]
  | cons p l ih =>
    have h1 := h p List.mem_cons_self
    have h2 := ih (fun q hq => h q (List.mem_cons_of_mem _ hq))
    show p.1.lo.num.n + p.1.lo.den.n + p.1.hi.num.n + p.1.hi.den.n + lenPS l ≤ 4 * B * (l.length + 1)
    rw [Nat.mul_add, Nat.mul_one]
    omega
theorem RdC.lens {w : World} {a : Option Addr} {n c : Nat} {l : List (SV × SD)} {ps : List (Rat × Rat)} {L : Nat} (h : RdC w a n c l ps) (hb : BdC ps L) : ∀ p ∈ l, p.1.lo.num.n ≤ L ∧ p.1.lo.den.n ≤ L ∧ p.1.hi.num.n ≤ L ∧ p.1.hi.den.n ≤ L := fun y hy => by
  obtain ⟨i, hi, rfl⟩ := List.mem_iff_getElem.1 hy
  obtain ⟨p, h1, h2, h3, h4⟩ := h.pt (List.getElem?_eq_getElem hi)
  have k := h3.lens (hb p h2)
  have a1 := h.ar.rd _ hy
  have e1 := a1.head.ar.len
  have e2 := a1.tail.head.ar.len
  have e3 := a1.tail.tail.head.ar.len
  have e4 := a1.tail.tail.tail.head.ar.len
  omega
theorem PRoZ.none (B E : Nat) (w : World) : PRoZ B E w none 0 0 [] := ⟨rfl, by simp [lenPS], fun p hp => (by cases hp), .inl rfl⟩
theorem GrZ.fin {B n L : Nat} {w0 w : World} {us : List (SV × SD)} {ps : List (Rat × Rat)} (h : GrZ B n w us) (hc : IsC ps (us.map Prod.snd)) (hb : BdC ps L) (hL : L ≤ 20000) (hn : n ≤ 10) (hB : w0.heap.size ≤ B) : PRoZ w0.heap.size w.heap.size w (some ⟨B, 0, none⟩) n n us ∧ RdC w (some ⟨B, 0, none⟩) n n us ps := by
  have ow : POwS (B + 1) w.heap.size w B n n us := ⟨h.row, h.own, h.ar, h.len⟩
  have rd : RdC w (some ⟨B, 0, none⟩) n n us ps := ⟨ow.arg, hc⟩
  have ls := rd.lens hb
  have sz := lenPS_le ls
  rw [h.len] at sz
  have h2 : 4 * L * n ≤ 4 * 20000 * 10 := Nat.mul_le_mul (by omega) hn
  exact ⟨(ow.ro (Nat.lt_succ_self _) (Nat.succ_le_of_lt h.lt) (by omega) (fun p hp => by have := ls p hp; omega)).wide hB (Nat.le_refl _), rd⟩
/-- At its places a row has these points. -/
def AtZ (us : List (SV × SD)) (k : Nat) (p : Rat × Rat) : Prop := ∃ y, us[k]? = some y ∧ IsDP p y.2
theorem AtZ.keep {us : List (SV × SD)} {k j : Nat} {p : Rat × Rat} {y : SV × SD} (h : AtZ us k p) (hj : j ≠ k) : AtZ (us.set j y) k p := by
  obtain ⟨z, h1, h2⟩ := h
  exact ⟨z, by rw [List.getElem?_set_ne hj]; exact h1, h2⟩
theorem AtZ.here {us : List (SV × SD)} {k : Nat} {p : Rat × Rat} {u : SV} {d : SD} (hk : k < us.length) (h : IsDP p d) : AtZ (us.set k (u, d)) k p := ⟨(u, d), by rw [List.getElem?_set_self hk], h⟩
theorem atZ_isC {us : List (SV × SD)} {ps : List (Rat × Rat)} (hl : us.length = ps.length) (h : ∀ k p, ps[k]? = some p → AtZ us k p) : IsC ps (us.map Prod.snd) := by
  refine ⟨by rw [List.length_map]; exact hl, fun i p d hp hd => ?_⟩
  obtain ⟨y, h1, h2⟩ := h i p hp
  rw [List.getElem?_map, h1] at hd
  obtain rfl := Option.some.inj hd
  exact h2
end Go.Proofs.Ythmpikagenodjaa
namespace Go.Proofs.Ythmpikagenodjaa
open Go.RowKit
set_option linter.unusedVariables false
set_option maxRecDepth 100000
set_option linter.unusedSimpArgs false


end Go.Proofs.Ythmpikagenodjaa
