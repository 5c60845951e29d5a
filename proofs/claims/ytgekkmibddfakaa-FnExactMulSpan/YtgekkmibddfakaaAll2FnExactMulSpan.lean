/- The law FnExactMulSpan returns true for every argument and leaves it as it was: the given statement FnExactMulSpanSaid. No condition. -/
import Derived.Test.YtgekkmibddfakaaPackB
import Derived.Test.YtgekkmibddfakaaIo
import Derived.Test.YtgekkmibddfakaaPackA
namespace Go.Proofs.Ytgekkmibddfakaa
open Go.RowKit
set_option linter.unusedVariables false
set_option maxRecDepth 100000
set_option linter.unusedSimpArgs false

/-- The fold, without the values. -/
def pLo (s a : Int × Int) : Int × Int := if a.1 * s.2 < s.1 * a.2 then a else s
def pHi (s a : Int × Int) : Int × Int := if s.1 * a.2 < a.1 * s.2 then a else s
def RQ.p (x : RQ) : Int × Int := (x.N, x.D)
theorem fold_lo (l : List RQ) : ∀ x : RQ, (l.foldl stLo x).p = (l.map RQ.p).foldl pLo x.p := by
  induction l with
  | nil => intro x; rfl
  | cons a l ih =>
    intro x
    rw [List.foldl_cons, List.map_cons, List.foldl_cons, ih]
    congr 1
    unfold stLo pLo RQ.p
    simp only
    split <;> rfl
theorem fold_hi (l : List RQ) : ∀ x : RQ, (l.foldl stHi x).p = (l.map RQ.p).foldl pHi x.p := by
  induction l with
  | nil => intro x; rfl
  | cons a l ih =>
    intro x
    rw [List.foldl_cons, List.map_cons, List.foldl_cons, ih]
    congr 1
    unfold stHi pHi RQ.p
    simp only
    split <;> rfl
theorem fold_pos (l : List (Int × Int)) (hl : ∀ y ∈ l, 0 < y.2) : ∀ x : Int × Int, 0 < x.2 → 0 < (l.foldl pLo x).2 ∧ 0 < (l.foldl pHi x).2 := by
  induction l with
  | nil => intro x h; exact ⟨h, h⟩
  | cons a l ih =>
    intro x h
    have ha := hl a List.mem_cons_self
    have ih' := ih (fun y hy => hl y (List.mem_cons_of_mem _ hy))
    rw [List.foldl_cons, List.foldl_cons]
    exact ⟨(ih' (pLo x a) (by unfold pLo; split <;> assumption)).1, (ih' (pHi x a) (by unfold pHi; split <;> assumption)).2⟩
theorem pLo_self (x : Int × Int) : pLo x x = x := by unfold pLo; split <;> rfl
theorem pHi_self (x : Int × Int) : pHi x x = x := by unfold pHi; split <;> rfl
def qp (d : QD) : Int × Int := (nQ d, dQ d)
def jLo (d e : SD) : Int × Int := [qp d.hi, qp e.lo, qp e.hi].foldl pLo (qp d.lo)
def jHi (d e : SD) : Int × Int := [qp d.hi, qp e.lo, qp e.hi].foldl pHi (qp d.lo)
theorem jPos {w : World} {v u : SV} {d e : SD} (h : IsGoodS w v d) (k : IsGoodS w u e) : 0 < (jLo d e).2 ∧ 0 < (jHi d e).2 := by
  have := fold_pos [qp d.hi, qp e.lo, qp e.hi] (by
    intro y hy
    simp at hy
    rcases hy with rfl | rfl | rfl
    · exact h.hi.pos
    · exact k.lo.pos
    · exact k.hi.pos) (qp d.lo) h.lo.pos
  exact this
theorem IsGood.rq {w : World} {q : QV} {d : QD} (h : IsGood w q d) : RQ.Is w ⟨q, nQ d, dQ d⟩ := ⟨h.is, h.kn.mono (by omega), h.kd.mono (by omega)⟩
theorem RQ.Is.later {w w' : World} {x : RQ} (h : RQ.Is w x) (hb : Below w.heap.size w w') : RQ.Is w' x := ⟨h.is.later hb, h.kn, h.kd⟩
theorem rats_3 {w : World} {r1 r2 r3 : RQ} {t : TypeId} (h1 : RQ.Is w r1) (h2 : RQ.Is w r2) (h3 : RQ.Is w r3) : Rats (w.alloc (.cells #[.bool r1.q.num.g, .slice r1.q.num.a r1.q.num.n r1.q.num.c, .bool r1.q.den.g, .slice r1.q.den.a r1.q.den.n r1.q.den.c, .bool r2.q.num.g, .slice r2.q.num.a r2.q.num.n r2.q.num.c, .bool r2.q.den.g, .slice r2.q.den.a r2.q.den.n r2.q.den.c, .bool r3.q.num.g, .slice r3.q.num.a r3.q.num.n r3.q.num.c, .bool r3.q.den.g, .slice r3.q.den.a r3.q.den.n r3.q.den.c] t)) w.heap.size 0 [r1, r2, r3] := by
  have al : Below w.heap.size w (w.alloc (.cells #[.bool r1.q.num.g, .slice r1.q.num.a r1.q.num.n r1.q.num.c, .bool r1.q.den.g, .slice r1.q.den.a r1.q.den.n r1.q.den.c, .bool r2.q.num.g, .slice r2.q.num.a r2.q.num.n r2.q.num.c, .bool r2.q.den.g, .slice r2.q.den.a r2.q.den.n r2.q.den.c, .bool r3.q.num.g, .slice r3.q.num.a r3.q.num.n r3.q.num.c, .bool r3.q.den.g, .slice r3.q.den.a r3.q.den.n r3.q.den.c] t)) := (Below.refl _ _).alloc (Nat.le_refl _) _
  refine ⟨fun i hi => ?_, fun i hi => ?_, by simp⟩
  · have hi' : i < 3 := by simpa using hi
    match i, hi' with
    | 0, _ => simp [go_sem]
    | 1, _ => simp [go_sem]
    | 2, _ => simp [go_sem]
  · have hi' : i < 3 := by simpa using hi
    match i, hi' with
    | 0, _ => exact ⟨h1.is.later al, h1.kn, h1.kd⟩
    | 1, _ => exact ⟨h2.is.later al, h2.kn, h2.kd⟩
    | 2, _ => exact ⟨h3.is.later al, h3.kn, h3.kd⟩
theorem rats_4 {w : World} {r1 r2 r3 r4 : RQ} {t : TypeId} (h1 : RQ.Is w r1) (h2 : RQ.Is w r2) (h3 : RQ.Is w r3) (h4 : RQ.Is w r4) : Rats (w.alloc (.cells #[.bool r1.q.num.g, .slice r1.q.num.a r1.q.num.n r1.q.num.c, .bool r1.q.den.g, .slice r1.q.den.a r1.q.den.n r1.q.den.c, .bool r2.q.num.g, .slice r2.q.num.a r2.q.num.n r2.q.num.c, .bool r2.q.den.g, .slice r2.q.den.a r2.q.den.n r2.q.den.c, .bool r3.q.num.g, .slice r3.q.num.a r3.q.num.n r3.q.num.c, .bool r3.q.den.g, .slice r3.q.den.a r3.q.den.n r3.q.den.c, .bool r4.q.num.g, .slice r4.q.num.a r4.q.num.n r4.q.num.c, .bool r4.q.den.g, .slice r4.q.den.a r4.q.den.n r4.q.den.c] t)) w.heap.size 0 [r1, r2, r3, r4] := by
  have al : Below w.heap.size w (w.alloc (.cells #[.bool r1.q.num.g, .slice r1.q.num.a r1.q.num.n r1.q.num.c, .bool r1.q.den.g, .slice r1.q.den.a r1.q.den.n r1.q.den.c, .bool r2.q.num.g, .slice r2.q.num.a r2.q.num.n r2.q.num.c, .bool r2.q.den.g, .slice r2.q.den.a r2.q.den.n r2.q.den.c, .bool r3.q.num.g, .slice r3.q.num.a r3.q.num.n r3.q.num.c, .bool r3.q.den.g, .slice r3.q.den.a r3.q.den.n r3.q.den.c, .bool r4.q.num.g, .slice r4.q.num.a r4.q.num.n r4.q.num.c, .bool r4.q.den.g, .slice r4.q.den.a r4.q.den.n r4.q.den.c] t)) := (Below.refl _ _).alloc (Nat.le_refl _) _
  refine ⟨fun i hi => ?_, fun i hi => ?_, by simp⟩
  · have hi' : i < 4 := by simpa using hi
    match i, hi' with
    | 0, _ => simp [go_sem]
    | 1, _ => simp [go_sem]
    | 2, _ => simp [go_sem]
    | 3, _ => simp [go_sem]
  · have hi' : i < 4 := by simpa using hi
    match i, hi' with
    | 0, _ => exact ⟨h1.is.later al, h1.kn, h1.kd⟩
    | 1, _ => exact ⟨h2.is.later al, h2.kn, h2.kd⟩
    | 2, _ => exact ⟨h3.is.later al, h3.kn, h3.kd⟩
    | 3, _ => exact ⟨h4.is.later al, h4.kn, h4.kd⟩

set_option maxHeartbeats 8000000 in
theorem joinSpans_v (v u : SV) (d e : SD) (w : World) (j1 : IsGoodS w v d) (j2 : IsGoodS w u e) :
    Calls Try.prog 148 #[.agg #[.bool v.lo.num.g, .slice v.lo.num.a v.lo.num.n v.lo.num.c, .bool v.lo.den.g, .slice v.lo.den.a v.lo.den.n v.lo.den.c, .bool v.hi.num.g, .slice v.hi.num.a v.hi.num.n v.hi.num.c, .bool v.hi.den.g, .slice v.hi.den.a v.hi.den.n v.hi.den.c], .agg #[.bool u.lo.num.g, .slice u.lo.num.a u.lo.num.n u.lo.num.c, .bool u.lo.den.g, .slice u.lo.den.a u.lo.den.n u.lo.den.c, .bool u.hi.num.g, .slice u.hi.num.a u.hi.num.n u.hi.num.c, .bool u.hi.den.g, .slice u.hi.den.a u.hi.den.n u.hi.den.c]] w (OutS w (jLo d e).1 (jLo d e).2 (jHi d e).1 (jHi d e).2) := by
  have J1 := hide j1
  have J2 := hide j2
  clear j1 j2
  go_enter Try.func148, Try.ntmps148
  go_upto_region 1 with fail
  have hb : Below w.heap.size w (((w.alloc (.cells #[.bool v.lo.num.g, .slice v.lo.num.a v.lo.num.n v.lo.num.c, .bool v.lo.den.g, .slice v.lo.den.a v.lo.den.n v.lo.den.c, .bool v.hi.num.g, .slice v.hi.num.a v.hi.num.n v.hi.num.c, .bool v.hi.den.g, .slice v.hi.den.a v.hi.den.n v.hi.den.c] 62)).alloc (.cells #[.bool u.lo.num.g, .slice u.lo.num.a u.lo.num.n u.lo.num.c, .bool u.lo.den.g, .slice u.lo.den.a u.lo.den.n u.lo.den.c, .bool u.hi.num.g, .slice u.hi.num.a u.hi.num.n u.hi.num.c, .bool u.hi.den.g, .slice u.hi.den.a u.hi.den.n u.hi.den.c] 62)).alloc (.cells #[.bool false, .slice none 0 0, .bool false, .slice none 0 0, .bool false, .slice none 0 0, .bool false, .slice none 0 0] 62)) := ((((Below.refl _ _).alloc (by simp) _).alloc (by simp) _).alloc (by simp <;> omega) _)
  have k0_0 : (((w.alloc (.cells #[.bool v.lo.num.g, .slice v.lo.num.a v.lo.num.n v.lo.num.c, .bool v.lo.den.g, .slice v.lo.den.a v.lo.den.n v.lo.den.c, .bool v.hi.num.g, .slice v.hi.num.a v.hi.num.n v.hi.num.c, .bool v.hi.den.g, .slice v.hi.den.a v.hi.den.n v.hi.den.c] 62)).alloc (.cells #[.bool u.lo.num.g, .slice u.lo.num.a u.lo.num.n u.lo.num.c, .bool u.lo.den.g, .slice u.lo.den.a u.lo.den.n u.lo.den.c, .bool u.hi.num.g, .slice u.hi.num.a u.hi.num.n u.hi.num.c, .bool u.hi.den.g, .slice u.hi.den.a u.hi.den.n u.hi.den.c] 62)).alloc (.cells #[.bool false, .slice none 0 0, .bool false, .slice none 0 0, .bool false, .slice none 0 0, .bool false, .slice none 0 0] 62)).cell? ⟨w.heap.size, 0, none⟩ = some (.bool v.lo.num.g) := by simp [go_sem]
  have k0_1 : (((w.alloc (.cells #[.bool v.lo.num.g, .slice v.lo.num.a v.lo.num.n v.lo.num.c, .bool v.lo.den.g, .slice v.lo.den.a v.lo.den.n v.lo.den.c, .bool v.hi.num.g, .slice v.hi.num.a v.hi.num.n v.hi.num.c, .bool v.hi.den.g, .slice v.hi.den.a v.hi.den.n v.hi.den.c] 62)).alloc (.cells #[.bool u.lo.num.g, .slice u.lo.num.a u.lo.num.n u.lo.num.c, .bool u.lo.den.g, .slice u.lo.den.a u.lo.den.n u.lo.den.c, .bool u.hi.num.g, .slice u.hi.num.a u.hi.num.n u.hi.num.c, .bool u.hi.den.g, .slice u.hi.den.a u.hi.den.n u.hi.den.c] 62)).alloc (.cells #[.bool false, .slice none 0 0, .bool false, .slice none 0 0, .bool false, .slice none 0 0, .bool false, .slice none 0 0] 62)).cell? ⟨w.heap.size, 1, none⟩ = some (.slice v.lo.num.a v.lo.num.n v.lo.num.c) := by simp [go_sem]
  have k0_2 : (((w.alloc (.cells #[.bool v.lo.num.g, .slice v.lo.num.a v.lo.num.n v.lo.num.c, .bool v.lo.den.g, .slice v.lo.den.a v.lo.den.n v.lo.den.c, .bool v.hi.num.g, .slice v.hi.num.a v.hi.num.n v.hi.num.c, .bool v.hi.den.g, .slice v.hi.den.a v.hi.den.n v.hi.den.c] 62)).alloc (.cells #[.bool u.lo.num.g, .slice u.lo.num.a u.lo.num.n u.lo.num.c, .bool u.lo.den.g, .slice u.lo.den.a u.lo.den.n u.lo.den.c, .bool u.hi.num.g, .slice u.hi.num.a u.hi.num.n u.hi.num.c, .bool u.hi.den.g, .slice u.hi.den.a u.hi.den.n u.hi.den.c] 62)).alloc (.cells #[.bool false, .slice none 0 0, .bool false, .slice none 0 0, .bool false, .slice none 0 0, .bool false, .slice none 0 0] 62)).cell? ⟨w.heap.size, 2, none⟩ = some (.bool v.lo.den.g) := by simp [go_sem]
  have k0_3 : (((w.alloc (.cells #[.bool v.lo.num.g, .slice v.lo.num.a v.lo.num.n v.lo.num.c, .bool v.lo.den.g, .slice v.lo.den.a v.lo.den.n v.lo.den.c, .bool v.hi.num.g, .slice v.hi.num.a v.hi.num.n v.hi.num.c, .bool v.hi.den.g, .slice v.hi.den.a v.hi.den.n v.hi.den.c] 62)).alloc (.cells #[.bool u.lo.num.g, .slice u.lo.num.a u.lo.num.n u.lo.num.c, .bool u.lo.den.g, .slice u.lo.den.a u.lo.den.n u.lo.den.c, .bool u.hi.num.g, .slice u.hi.num.a u.hi.num.n u.hi.num.c, .bool u.hi.den.g, .slice u.hi.den.a u.hi.den.n u.hi.den.c] 62)).alloc (.cells #[.bool false, .slice none 0 0, .bool false, .slice none 0 0, .bool false, .slice none 0 0, .bool false, .slice none 0 0] 62)).cell? ⟨w.heap.size, 3, none⟩ = some (.slice v.lo.den.a v.lo.den.n v.lo.den.c) := by simp [go_sem]
  have k0_4 : (((w.alloc (.cells #[.bool v.lo.num.g, .slice v.lo.num.a v.lo.num.n v.lo.num.c, .bool v.lo.den.g, .slice v.lo.den.a v.lo.den.n v.lo.den.c, .bool v.hi.num.g, .slice v.hi.num.a v.hi.num.n v.hi.num.c, .bool v.hi.den.g, .slice v.hi.den.a v.hi.den.n v.hi.den.c] 62)).alloc (.cells #[.bool u.lo.num.g, .slice u.lo.num.a u.lo.num.n u.lo.num.c, .bool u.lo.den.g, .slice u.lo.den.a u.lo.den.n u.lo.den.c, .bool u.hi.num.g, .slice u.hi.num.a u.hi.num.n u.hi.num.c, .bool u.hi.den.g, .slice u.hi.den.a u.hi.den.n u.hi.den.c] 62)).alloc (.cells #[.bool false, .slice none 0 0, .bool false, .slice none 0 0, .bool false, .slice none 0 0, .bool false, .slice none 0 0] 62)).cell? ⟨w.heap.size, 4, none⟩ = some (.bool v.hi.num.g) := by simp [go_sem]
  have k0_5 : (((w.alloc (.cells #[.bool v.lo.num.g, .slice v.lo.num.a v.lo.num.n v.lo.num.c, .bool v.lo.den.g, .slice v.lo.den.a v.lo.den.n v.lo.den.c, .bool v.hi.num.g, .slice v.hi.num.a v.hi.num.n v.hi.num.c, .bool v.hi.den.g, .slice v.hi.den.a v.hi.den.n v.hi.den.c] 62)).alloc (.cells #[.bool u.lo.num.g, .slice u.lo.num.a u.lo.num.n u.lo.num.c, .bool u.lo.den.g, .slice u.lo.den.a u.lo.den.n u.lo.den.c, .bool u.hi.num.g, .slice u.hi.num.a u.hi.num.n u.hi.num.c, .bool u.hi.den.g, .slice u.hi.den.a u.hi.den.n u.hi.den.c] 62)).alloc (.cells #[.bool false, .slice none 0 0, .bool false, .slice none 0 0, .bool false, .slice none 0 0, .bool false, .slice none 0 0] 62)).cell? ⟨w.heap.size, 5, none⟩ = some (.slice v.hi.num.a v.hi.num.n v.hi.num.c) := by simp [go_sem]
  have k0_6 : (((w.alloc (.cells #[.bool v.lo.num.g, .slice v.lo.num.a v.lo.num.n v.lo.num.c, .bool v.lo.den.g, .slice v.lo.den.a v.lo.den.n v.lo.den.c, .bool v.hi.num.g, .slice v.hi.num.a v.hi.num.n v.hi.num.c, .bool v.hi.den.g, .slice v.hi.den.a v.hi.den.n v.hi.den.c] 62)).alloc (.cells #[.bool u.lo.num.g, .slice u.lo.num.a u.lo.num.n u.lo.num.c, .bool u.lo.den.g, .slice u.lo.den.a u.lo.den.n u.lo.den.c, .bool u.hi.num.g, .slice u.hi.num.a u.hi.num.n u.hi.num.c, .bool u.hi.den.g, .slice u.hi.den.a u.hi.den.n u.hi.den.c] 62)).alloc (.cells #[.bool false, .slice none 0 0, .bool false, .slice none 0 0, .bool false, .slice none 0 0, .bool false, .slice none 0 0] 62)).cell? ⟨w.heap.size, 6, none⟩ = some (.bool v.hi.den.g) := by simp [go_sem]
  have k0_7 : (((w.alloc (.cells #[.bool v.lo.num.g, .slice v.lo.num.a v.lo.num.n v.lo.num.c, .bool v.lo.den.g, .slice v.lo.den.a v.lo.den.n v.lo.den.c, .bool v.hi.num.g, .slice v.hi.num.a v.hi.num.n v.hi.num.c, .bool v.hi.den.g, .slice v.hi.den.a v.hi.den.n v.hi.den.c] 62)).alloc (.cells #[.bool u.lo.num.g, .slice u.lo.num.a u.lo.num.n u.lo.num.c, .bool u.lo.den.g, .slice u.lo.den.a u.lo.den.n u.lo.den.c, .bool u.hi.num.g, .slice u.hi.num.a u.hi.num.n u.hi.num.c, .bool u.hi.den.g, .slice u.hi.den.a u.hi.den.n u.hi.den.c] 62)).alloc (.cells #[.bool false, .slice none 0 0, .bool false, .slice none 0 0, .bool false, .slice none 0 0, .bool false, .slice none 0 0] 62)).cell? ⟨w.heap.size, 7, none⟩ = some (.slice v.hi.den.a v.hi.den.n v.hi.den.c) := by simp [go_sem]
  have k1_0 : (((w.alloc (.cells #[.bool v.lo.num.g, .slice v.lo.num.a v.lo.num.n v.lo.num.c, .bool v.lo.den.g, .slice v.lo.den.a v.lo.den.n v.lo.den.c, .bool v.hi.num.g, .slice v.hi.num.a v.hi.num.n v.hi.num.c, .bool v.hi.den.g, .slice v.hi.den.a v.hi.den.n v.hi.den.c] 62)).alloc (.cells #[.bool u.lo.num.g, .slice u.lo.num.a u.lo.num.n u.lo.num.c, .bool u.lo.den.g, .slice u.lo.den.a u.lo.den.n u.lo.den.c, .bool u.hi.num.g, .slice u.hi.num.a u.hi.num.n u.hi.num.c, .bool u.hi.den.g, .slice u.hi.den.a u.hi.den.n u.hi.den.c] 62)).alloc (.cells #[.bool false, .slice none 0 0, .bool false, .slice none 0 0, .bool false, .slice none 0 0, .bool false, .slice none 0 0] 62)).cell? ⟨w.heap.size + 1, 0, none⟩ = some (.bool u.lo.num.g) := by simp [go_sem]
  have k1_1 : (((w.alloc (.cells #[.bool v.lo.num.g, .slice v.lo.num.a v.lo.num.n v.lo.num.c, .bool v.lo.den.g, .slice v.lo.den.a v.lo.den.n v.lo.den.c, .bool v.hi.num.g, .slice v.hi.num.a v.hi.num.n v.hi.num.c, .bool v.hi.den.g, .slice v.hi.den.a v.hi.den.n v.hi.den.c] 62)).alloc (.cells #[.bool u.lo.num.g, .slice u.lo.num.a u.lo.num.n u.lo.num.c, .bool u.lo.den.g, .slice u.lo.den.a u.lo.den.n u.lo.den.c, .bool u.hi.num.g, .slice u.hi.num.a u.hi.num.n u.hi.num.c, .bool u.hi.den.g, .slice u.hi.den.a u.hi.den.n u.hi.den.c] 62)).alloc (.cells #[.bool false, .slice none 0 0, .bool false, .slice none 0 0, .bool false, .slice none 0 0, .bool false, .slice none 0 0] 62)).cell? ⟨w.heap.size + 1, 1, none⟩ = some (.slice u.lo.num.a u.lo.num.n u.lo.num.c) := by simp [go_sem]
  have k1_2 : (((w.alloc (.cells #[.bool v.lo.num.g, .slice v.lo.num.a v.lo.num.n v.lo.num.c, .bool v.lo.den.g, .slice v.lo.den.a v.lo.den.n v.lo.den.c, .bool v.hi.num.g, .slice v.hi.num.a v.hi.num.n v.hi.num.c, .bool v.hi.den.g, .slice v.hi.den.a v.hi.den.n v.hi.den.c] 62)).alloc (.cells #[.bool u.lo.num.g, .slice u.lo.num.a u.lo.num.n u.lo.num.c, .bool u.lo.den.g, .slice u.lo.den.a u.lo.den.n u.lo.den.c, .bool u.hi.num.g, .slice u.hi.num.a u.hi.num.n u.hi.num.c, .bool u.hi.den.g, .slice u.hi.den.a u.hi.den.n u.hi.den.c] 62)).alloc (.cells #[.bool false, .slice none 0 0, .bool false, .slice none 0 0, .bool false, .slice none 0 0, .bool false, .slice none 0 0] 62)).cell? ⟨w.heap.size + 1, 2, none⟩ = some (.bool u.lo.den.g) := by simp [go_sem]
  have k1_3 : (((w.alloc (.cells #[.bool v.lo.num.g, .slice v.lo.num.a v.lo.num.n v.lo.num.c, .bool v.lo.den.g, .slice v.lo.den.a v.lo.den.n v.lo.den.c, .bool v.hi.num.g, .slice v.hi.num.a v.hi.num.n v.hi.num.c, .bool v.hi.den.g, .slice v.hi.den.a v.hi.den.n v.hi.den.c] 62)).alloc (.cells #[.bool u.lo.num.g, .slice u.lo.num.a u.lo.num.n u.lo.num.c, .bool u.lo.den.g, .slice u.lo.den.a u.lo.den.n u.lo.den.c, .bool u.hi.num.g, .slice u.hi.num.a u.hi.num.n u.hi.num.c, .bool u.hi.den.g, .slice u.hi.den.a u.hi.den.n u.hi.den.c] 62)).alloc (.cells #[.bool false, .slice none 0 0, .bool false, .slice none 0 0, .bool false, .slice none 0 0, .bool false, .slice none 0 0] 62)).cell? ⟨w.heap.size + 1, 3, none⟩ = some (.slice u.lo.den.a u.lo.den.n u.lo.den.c) := by simp [go_sem]
  have k1_4 : (((w.alloc (.cells #[.bool v.lo.num.g, .slice v.lo.num.a v.lo.num.n v.lo.num.c, .bool v.lo.den.g, .slice v.lo.den.a v.lo.den.n v.lo.den.c, .bool v.hi.num.g, .slice v.hi.num.a v.hi.num.n v.hi.num.c, .bool v.hi.den.g, .slice v.hi.den.a v.hi.den.n v.hi.den.c] 62)).alloc (.cells #[.bool u.lo.num.g, .slice u.lo.num.a u.lo.num.n u.lo.num.c, .bool u.lo.den.g, .slice u.lo.den.a u.lo.den.n u.lo.den.c, .bool u.hi.num.g, .slice u.hi.num.a u.hi.num.n u.hi.num.c, .bool u.hi.den.g, .slice u.hi.den.a u.hi.den.n u.hi.den.c] 62)).alloc (.cells #[.bool false, .slice none 0 0, .bool false, .slice none 0 0, .bool false, .slice none 0 0, .bool false, .slice none 0 0] 62)).cell? ⟨w.heap.size + 1, 4, none⟩ = some (.bool u.hi.num.g) := by simp [go_sem]
  have k1_5 : (((w.alloc (.cells #[.bool v.lo.num.g, .slice v.lo.num.a v.lo.num.n v.lo.num.c, .bool v.lo.den.g, .slice v.lo.den.a v.lo.den.n v.lo.den.c, .bool v.hi.num.g, .slice v.hi.num.a v.hi.num.n v.hi.num.c, .bool v.hi.den.g, .slice v.hi.den.a v.hi.den.n v.hi.den.c] 62)).alloc (.cells #[.bool u.lo.num.g, .slice u.lo.num.a u.lo.num.n u.lo.num.c, .bool u.lo.den.g, .slice u.lo.den.a u.lo.den.n u.lo.den.c, .bool u.hi.num.g, .slice u.hi.num.a u.hi.num.n u.hi.num.c, .bool u.hi.den.g, .slice u.hi.den.a u.hi.den.n u.hi.den.c] 62)).alloc (.cells #[.bool false, .slice none 0 0, .bool false, .slice none 0 0, .bool false, .slice none 0 0, .bool false, .slice none 0 0] 62)).cell? ⟨w.heap.size + 1, 5, none⟩ = some (.slice u.hi.num.a u.hi.num.n u.hi.num.c) := by simp [go_sem]
  have k1_6 : (((w.alloc (.cells #[.bool v.lo.num.g, .slice v.lo.num.a v.lo.num.n v.lo.num.c, .bool v.lo.den.g, .slice v.lo.den.a v.lo.den.n v.lo.den.c, .bool v.hi.num.g, .slice v.hi.num.a v.hi.num.n v.hi.num.c, .bool v.hi.den.g, .slice v.hi.den.a v.hi.den.n v.hi.den.c] 62)).alloc (.cells #[.bool u.lo.num.g, .slice u.lo.num.a u.lo.num.n u.lo.num.c, .bool u.lo.den.g, .slice u.lo.den.a u.lo.den.n u.lo.den.c, .bool u.hi.num.g, .slice u.hi.num.a u.hi.num.n u.hi.num.c, .bool u.hi.den.g, .slice u.hi.den.a u.hi.den.n u.hi.den.c] 62)).alloc (.cells #[.bool false, .slice none 0 0, .bool false, .slice none 0 0, .bool false, .slice none 0 0, .bool false, .slice none 0 0] 62)).cell? ⟨w.heap.size + 1, 6, none⟩ = some (.bool u.hi.den.g) := by simp [go_sem]
  have k1_7 : (((w.alloc (.cells #[.bool v.lo.num.g, .slice v.lo.num.a v.lo.num.n v.lo.num.c, .bool v.lo.den.g, .slice v.lo.den.a v.lo.den.n v.lo.den.c, .bool v.hi.num.g, .slice v.hi.num.a v.hi.num.n v.hi.num.c, .bool v.hi.den.g, .slice v.hi.den.a v.hi.den.n v.hi.den.c] 62)).alloc (.cells #[.bool u.lo.num.g, .slice u.lo.num.a u.lo.num.n u.lo.num.c, .bool u.lo.den.g, .slice u.lo.den.a u.lo.den.n u.lo.den.c, .bool u.hi.num.g, .slice u.hi.num.a u.hi.num.n u.hi.num.c, .bool u.hi.den.g, .slice u.hi.den.a u.hi.den.n u.hi.den.c] 62)).alloc (.cells #[.bool false, .slice none 0 0, .bool false, .slice none 0 0, .bool false, .slice none 0 0, .bool false, .slice none 0 0] 62)).cell? ⟨w.heap.size + 1, 7, none⟩ = some (.slice u.hi.den.a u.hi.den.n u.hi.den.c) := by simp [go_sem]
  have k2_0 : (((w.alloc (.cells #[.bool v.lo.num.g, .slice v.lo.num.a v.lo.num.n v.lo.num.c, .bool v.lo.den.g, .slice v.lo.den.a v.lo.den.n v.lo.den.c, .bool v.hi.num.g, .slice v.hi.num.a v.hi.num.n v.hi.num.c, .bool v.hi.den.g, .slice v.hi.den.a v.hi.den.n v.hi.den.c] 62)).alloc (.cells #[.bool u.lo.num.g, .slice u.lo.num.a u.lo.num.n u.lo.num.c, .bool u.lo.den.g, .slice u.lo.den.a u.lo.den.n u.lo.den.c, .bool u.hi.num.g, .slice u.hi.num.a u.hi.num.n u.hi.num.c, .bool u.hi.den.g, .slice u.hi.den.a u.hi.den.n u.hi.den.c] 62)).alloc (.cells #[.bool false, .slice none 0 0, .bool false, .slice none 0 0, .bool false, .slice none 0 0, .bool false, .slice none 0 0] 62)).cell? ⟨w.heap.size + 1 + 1, 0, none⟩ = some (.bool false) := by simp [go_sem]
  have k2_1 : (((w.alloc (.cells #[.bool v.lo.num.g, .slice v.lo.num.a v.lo.num.n v.lo.num.c, .bool v.lo.den.g, .slice v.lo.den.a v.lo.den.n v.lo.den.c, .bool v.hi.num.g, .slice v.hi.num.a v.hi.num.n v.hi.num.c, .bool v.hi.den.g, .slice v.hi.den.a v.hi.den.n v.hi.den.c] 62)).alloc (.cells #[.bool u.lo.num.g, .slice u.lo.num.a u.lo.num.n u.lo.num.c, .bool u.lo.den.g, .slice u.lo.den.a u.lo.den.n u.lo.den.c, .bool u.hi.num.g, .slice u.hi.num.a u.hi.num.n u.hi.num.c, .bool u.hi.den.g, .slice u.hi.den.a u.hi.den.n u.hi.den.c] 62)).alloc (.cells #[.bool false, .slice none 0 0, .bool false, .slice none 0 0, .bool false, .slice none 0 0, .bool false, .slice none 0 0] 62)).cell? ⟨w.heap.size + 1 + 1, 1, none⟩ = some (.slice none 0 0) := by simp [go_sem]
  have k2_2 : (((w.alloc (.cells #[.bool v.lo.num.g, .slice v.lo.num.a v.lo.num.n v.lo.num.c, .bool v.lo.den.g, .slice v.lo.den.a v.lo.den.n v.lo.den.c, .bool v.hi.num.g, .slice v.hi.num.a v.hi.num.n v.hi.num.c, .bool v.hi.den.g, .slice v.hi.den.a v.hi.den.n v.hi.den.c] 62)).alloc (.cells #[.bool u.lo.num.g, .slice u.lo.num.a u.lo.num.n u.lo.num.c, .bool u.lo.den.g, .slice u.lo.den.a u.lo.den.n u.lo.den.c, .bool u.hi.num.g, .slice u.hi.num.a u.hi.num.n u.hi.num.c, .bool u.hi.den.g, .slice u.hi.den.a u.hi.den.n u.hi.den.c] 62)).alloc (.cells #[.bool false, .slice none 0 0, .bool false, .slice none 0 0, .bool false, .slice none 0 0, .bool false, .slice none 0 0] 62)).cell? ⟨w.heap.size + 1 + 1, 2, none⟩ = some (.bool false) := by simp [go_sem]
  have k2_3 : (((w.alloc (.cells #[.bool v.lo.num.g, .slice v.lo.num.a v.lo.num.n v.lo.num.c, .bool v.lo.den.g, .slice v.lo.den.a v.lo.den.n v.lo.den.c, .bool v.hi.num.g, .slice v.hi.num.a v.hi.num.n v.hi.num.c, .bool v.hi.den.g, .slice v.hi.den.a v.hi.den.n v.hi.den.c] 62)).alloc (.cells #[.bool u.lo.num.g, .slice u.lo.num.a u.lo.num.n u.lo.num.c, .bool u.lo.den.g, .slice u.lo.den.a u.lo.den.n u.lo.den.c, .bool u.hi.num.g, .slice u.hi.num.a u.hi.num.n u.hi.num.c, .bool u.hi.den.g, .slice u.hi.den.a u.hi.den.n u.hi.den.c] 62)).alloc (.cells #[.bool false, .slice none 0 0, .bool false, .slice none 0 0, .bool false, .slice none 0 0, .bool false, .slice none 0 0] 62)).cell? ⟨w.heap.size + 1 + 1, 3, none⟩ = some (.slice none 0 0) := by simp [go_sem]
  have k2_4 : (((w.alloc (.cells #[.bool v.lo.num.g, .slice v.lo.num.a v.lo.num.n v.lo.num.c, .bool v.lo.den.g, .slice v.lo.den.a v.lo.den.n v.lo.den.c, .bool v.hi.num.g, .slice v.hi.num.a v.hi.num.n v.hi.num.c, .bool v.hi.den.g, .slice v.hi.den.a v.hi.den.n v.hi.den.c] 62)).alloc (.cells #[.bool u.lo.num.g, .slice u.lo.num.a u.lo.num.n u.lo.num.c, .bool u.lo.den.g, .slice u.lo.den.a u.lo.den.n u.lo.den.c, .bool u.hi.num.g, .slice u.hi.num.a u.hi.num.n u.hi.num.c, .bool u.hi.den.g, .slice u.hi.den.a u.hi.den.n u.hi.den.c] 62)).alloc (.cells #[.bool false, .slice none 0 0, .bool false, .slice none 0 0, .bool false, .slice none 0 0, .bool false, .slice none 0 0] 62)).cell? ⟨w.heap.size + 1 + 1, 4, none⟩ = some (.bool false) := by simp [go_sem]
  have k2_5 : (((w.alloc (.cells #[.bool v.lo.num.g, .slice v.lo.num.a v.lo.num.n v.lo.num.c, .bool v.lo.den.g, .slice v.lo.den.a v.lo.den.n v.lo.den.c, .bool v.hi.num.g, .slice v.hi.num.a v.hi.num.n v.hi.num.c, .bool v.hi.den.g, .slice v.hi.den.a v.hi.den.n v.hi.den.c] 62)).alloc (.cells #[.bool u.lo.num.g, .slice u.lo.num.a u.lo.num.n u.lo.num.c, .bool u.lo.den.g, .slice u.lo.den.a u.lo.den.n u.lo.den.c, .bool u.hi.num.g, .slice u.hi.num.a u.hi.num.n u.hi.num.c, .bool u.hi.den.g, .slice u.hi.den.a u.hi.den.n u.hi.den.c] 62)).alloc (.cells #[.bool false, .slice none 0 0, .bool false, .slice none 0 0, .bool false, .slice none 0 0, .bool false, .slice none 0 0] 62)).cell? ⟨w.heap.size + 1 + 1, 5, none⟩ = some (.slice none 0 0) := by simp [go_sem]
  have k2_6 : (((w.alloc (.cells #[.bool v.lo.num.g, .slice v.lo.num.a v.lo.num.n v.lo.num.c, .bool v.lo.den.g, .slice v.lo.den.a v.lo.den.n v.lo.den.c, .bool v.hi.num.g, .slice v.hi.num.a v.hi.num.n v.hi.num.c, .bool v.hi.den.g, .slice v.hi.den.a v.hi.den.n v.hi.den.c] 62)).alloc (.cells #[.bool u.lo.num.g, .slice u.lo.num.a u.lo.num.n u.lo.num.c, .bool u.lo.den.g, .slice u.lo.den.a u.lo.den.n u.lo.den.c, .bool u.hi.num.g, .slice u.hi.num.a u.hi.num.n u.hi.num.c, .bool u.hi.den.g, .slice u.hi.den.a u.hi.den.n u.hi.den.c] 62)).alloc (.cells #[.bool false, .slice none 0 0, .bool false, .slice none 0 0, .bool false, .slice none 0 0, .bool false, .slice none 0 0] 62)).cell? ⟨w.heap.size + 1 + 1, 6, none⟩ = some (.bool false) := by simp [go_sem]
  have k2_7 : (((w.alloc (.cells #[.bool v.lo.num.g, .slice v.lo.num.a v.lo.num.n v.lo.num.c, .bool v.lo.den.g, .slice v.lo.den.a v.lo.den.n v.lo.den.c, .bool v.hi.num.g, .slice v.hi.num.a v.hi.num.n v.hi.num.c, .bool v.hi.den.g, .slice v.hi.den.a v.hi.den.n v.hi.den.c] 62)).alloc (.cells #[.bool u.lo.num.g, .slice u.lo.num.a u.lo.num.n u.lo.num.c, .bool u.lo.den.g, .slice u.lo.den.a u.lo.den.n u.lo.den.c, .bool u.hi.num.g, .slice u.hi.num.a u.hi.num.n u.hi.num.c, .bool u.hi.den.g, .slice u.hi.den.a u.hi.den.n u.hi.den.c] 62)).alloc (.cells #[.bool false, .slice none 0 0, .bool false, .slice none 0 0, .bool false, .slice none 0 0, .bool false, .slice none 0 0] 62)).cell? ⟨w.heap.size + 1 + 1, 7, none⟩ = some (.slice none 0 0) := by simp [go_sem]
  have z2 : ∀ o, (((w.alloc (.cells #[.bool v.lo.num.g, .slice v.lo.num.a v.lo.num.n v.lo.num.c, .bool v.lo.den.g, .slice v.lo.den.a v.lo.den.n v.lo.den.c, .bool v.hi.num.g, .slice v.hi.num.a v.hi.num.n v.hi.num.c, .bool v.hi.den.g, .slice v.hi.den.a v.hi.den.n v.hi.den.c] 62)).alloc (.cells #[.bool u.lo.num.g, .slice u.lo.num.a u.lo.num.n u.lo.num.c, .bool u.lo.den.g, .slice u.lo.den.a u.lo.den.n u.lo.den.c, .bool u.hi.num.g, .slice u.hi.num.a u.hi.num.n u.hi.num.c, .bool u.hi.den.g, .slice u.hi.den.a u.hi.den.n u.hi.den.c] 62)).alloc (.cells #[.bool false, .slice none 0 0, .bool false, .slice none 0 0, .bool false, .slice none 0 0, .bool false, .slice none 0 0] 62)).frozen? ⟨w.heap.size + 1 + 1, o, none⟩ = false := fun o => by simp [go_sem]
  have S1 := hide ((unhide J1).later hb)
  have S2 := hide ((unhide J2).later hb)
  have szw0 : w.heap.size + 3 ≤ (((w.alloc (.cells #[.bool v.lo.num.g, .slice v.lo.num.a v.lo.num.n v.lo.num.c, .bool v.lo.den.g, .slice v.lo.den.a v.lo.den.n v.lo.den.c, .bool v.hi.num.g, .slice v.hi.num.a v.hi.num.n v.hi.num.c, .bool v.hi.den.g, .slice v.hi.den.a v.hi.den.n v.hi.den.c] 62)).alloc (.cells #[.bool u.lo.num.g, .slice u.lo.num.a u.lo.num.n u.lo.num.c, .bool u.lo.den.g, .slice u.lo.den.a u.lo.den.n u.lo.den.c, .bool u.hi.num.g, .slice u.hi.num.a u.hi.num.n u.hi.num.c, .bool u.hi.den.g, .slice u.hi.den.a u.hi.den.n u.hi.den.c] 62)).alloc (.cells #[.bool false, .slice none 0 0, .bool false, .slice none 0 0, .bool false, .slice none 0 0, .bool false, .slice none 0 0] 62)).heap.size := by simp
  have HB := hide hb
  clear hb
  generalize (((w.alloc (.cells #[.bool v.lo.num.g, .slice v.lo.num.a v.lo.num.n v.lo.num.c, .bool v.lo.den.g, .slice v.lo.den.a v.lo.den.n v.lo.den.c, .bool v.hi.num.g, .slice v.hi.num.a v.hi.num.n v.hi.num.c, .bool v.hi.den.g, .slice v.hi.den.a v.hi.den.n v.hi.den.c] 62)).alloc (.cells #[.bool u.lo.num.g, .slice u.lo.num.a u.lo.num.n u.lo.num.c, .bool u.lo.den.g, .slice u.lo.den.a u.lo.den.n u.lo.den.c, .bool u.hi.num.g, .slice u.hi.num.a u.hi.num.n u.hi.num.c, .bool u.hi.den.g, .slice u.hi.den.a u.hi.den.n u.hi.den.c] 62)).alloc (.cells #[.bool false, .slice none 0 0, .bool false, .slice none 0 0, .bool false, .slice none 0 0, .bool false, .slice none 0 0] 62)) = w0 at *
  have k0_0u : (w0.alloc (.cells #[.bool v.hi.num.g, .slice v.hi.num.a v.hi.num.n v.hi.num.c, .bool v.hi.den.g, .slice v.hi.den.a v.hi.den.n v.hi.den.c, .bool u.lo.num.g, .slice u.lo.num.a u.lo.num.n u.lo.num.c, .bool u.lo.den.g, .slice u.lo.den.a u.lo.den.n u.lo.den.c, .bool u.hi.num.g, .slice u.hi.num.a u.hi.num.n u.hi.num.c, .bool u.hi.den.g, .slice u.hi.den.a u.hi.den.n u.hi.den.c] 31)).cell? ⟨w.heap.size, 0, none⟩ = some (.bool v.lo.num.g) := (ca_other k0_0)
  have k0_1u : (w0.alloc (.cells #[.bool v.hi.num.g, .slice v.hi.num.a v.hi.num.n v.hi.num.c, .bool v.hi.den.g, .slice v.hi.den.a v.hi.den.n v.hi.den.c, .bool u.lo.num.g, .slice u.lo.num.a u.lo.num.n u.lo.num.c, .bool u.lo.den.g, .slice u.lo.den.a u.lo.den.n u.lo.den.c, .bool u.hi.num.g, .slice u.hi.num.a u.hi.num.n u.hi.num.c, .bool u.hi.den.g, .slice u.hi.den.a u.hi.den.n u.hi.den.c] 31)).cell? ⟨w.heap.size, 1, none⟩ = some (.slice v.lo.num.a v.lo.num.n v.lo.num.c) := (ca_other k0_1)
  have k0_2u : (w0.alloc (.cells #[.bool v.hi.num.g, .slice v.hi.num.a v.hi.num.n v.hi.num.c, .bool v.hi.den.g, .slice v.hi.den.a v.hi.den.n v.hi.den.c, .bool u.lo.num.g, .slice u.lo.num.a u.lo.num.n u.lo.num.c, .bool u.lo.den.g, .slice u.lo.den.a u.lo.den.n u.lo.den.c, .bool u.hi.num.g, .slice u.hi.num.a u.hi.num.n u.hi.num.c, .bool u.hi.den.g, .slice u.hi.den.a u.hi.den.n u.hi.den.c] 31)).cell? ⟨w.heap.size, 2, none⟩ = some (.bool v.lo.den.g) := (ca_other k0_2)
  have k0_3u : (w0.alloc (.cells #[.bool v.hi.num.g, .slice v.hi.num.a v.hi.num.n v.hi.num.c, .bool v.hi.den.g, .slice v.hi.den.a v.hi.den.n v.hi.den.c, .bool u.lo.num.g, .slice u.lo.num.a u.lo.num.n u.lo.num.c, .bool u.lo.den.g, .slice u.lo.den.a u.lo.den.n u.lo.den.c, .bool u.hi.num.g, .slice u.hi.num.a u.hi.num.n u.hi.num.c, .bool u.hi.den.g, .slice u.hi.den.a u.hi.den.n u.hi.den.c] 31)).cell? ⟨w.heap.size, 3, none⟩ = some (.slice v.lo.den.a v.lo.den.n v.lo.den.c) := (ca_other k0_3)
  have k0_4u : (w0.alloc (.cells #[.bool v.hi.num.g, .slice v.hi.num.a v.hi.num.n v.hi.num.c, .bool v.hi.den.g, .slice v.hi.den.a v.hi.den.n v.hi.den.c, .bool u.lo.num.g, .slice u.lo.num.a u.lo.num.n u.lo.num.c, .bool u.lo.den.g, .slice u.lo.den.a u.lo.den.n u.lo.den.c, .bool u.hi.num.g, .slice u.hi.num.a u.hi.num.n u.hi.num.c, .bool u.hi.den.g, .slice u.hi.den.a u.hi.den.n u.hi.den.c] 31)).cell? ⟨w.heap.size, 4, none⟩ = some (.bool v.hi.num.g) := (ca_other k0_4)
  have k0_5u : (w0.alloc (.cells #[.bool v.hi.num.g, .slice v.hi.num.a v.hi.num.n v.hi.num.c, .bool v.hi.den.g, .slice v.hi.den.a v.hi.den.n v.hi.den.c, .bool u.lo.num.g, .slice u.lo.num.a u.lo.num.n u.lo.num.c, .bool u.lo.den.g, .slice u.lo.den.a u.lo.den.n u.lo.den.c, .bool u.hi.num.g, .slice u.hi.num.a u.hi.num.n u.hi.num.c, .bool u.hi.den.g, .slice u.hi.den.a u.hi.den.n u.hi.den.c] 31)).cell? ⟨w.heap.size, 5, none⟩ = some (.slice v.hi.num.a v.hi.num.n v.hi.num.c) := (ca_other k0_5)
  have k0_6u : (w0.alloc (.cells #[.bool v.hi.num.g, .slice v.hi.num.a v.hi.num.n v.hi.num.c, .bool v.hi.den.g, .slice v.hi.den.a v.hi.den.n v.hi.den.c, .bool u.lo.num.g, .slice u.lo.num.a u.lo.num.n u.lo.num.c, .bool u.lo.den.g, .slice u.lo.den.a u.lo.den.n u.lo.den.c, .bool u.hi.num.g, .slice u.hi.num.a u.hi.num.n u.hi.num.c, .bool u.hi.den.g, .slice u.hi.den.a u.hi.den.n u.hi.den.c] 31)).cell? ⟨w.heap.size, 6, none⟩ = some (.bool v.hi.den.g) := (ca_other k0_6)
  have k0_7u : (w0.alloc (.cells #[.bool v.hi.num.g, .slice v.hi.num.a v.hi.num.n v.hi.num.c, .bool v.hi.den.g, .slice v.hi.den.a v.hi.den.n v.hi.den.c, .bool u.lo.num.g, .slice u.lo.num.a u.lo.num.n u.lo.num.c, .bool u.lo.den.g, .slice u.lo.den.a u.lo.den.n u.lo.den.c, .bool u.hi.num.g, .slice u.hi.num.a u.hi.num.n u.hi.num.c, .bool u.hi.den.g, .slice u.hi.den.a u.hi.den.n u.hi.den.c] 31)).cell? ⟨w.heap.size, 7, none⟩ = some (.slice v.hi.den.a v.hi.den.n v.hi.den.c) := (ca_other k0_7)
  have k1_0u : (w0.alloc (.cells #[.bool v.hi.num.g, .slice v.hi.num.a v.hi.num.n v.hi.num.c, .bool v.hi.den.g, .slice v.hi.den.a v.hi.den.n v.hi.den.c, .bool u.lo.num.g, .slice u.lo.num.a u.lo.num.n u.lo.num.c, .bool u.lo.den.g, .slice u.lo.den.a u.lo.den.n u.lo.den.c, .bool u.hi.num.g, .slice u.hi.num.a u.hi.num.n u.hi.num.c, .bool u.hi.den.g, .slice u.hi.den.a u.hi.den.n u.hi.den.c] 31)).cell? ⟨w.heap.size + 1, 0, none⟩ = some (.bool u.lo.num.g) := (ca_other k1_0)
  have k1_1u : (w0.alloc (.cells #[.bool v.hi.num.g, .slice v.hi.num.a v.hi.num.n v.hi.num.c, .bool v.hi.den.g, .slice v.hi.den.a v.hi.den.n v.hi.den.c, .bool u.lo.num.g, .slice u.lo.num.a u.lo.num.n u.lo.num.c, .bool u.lo.den.g, .slice u.lo.den.a u.lo.den.n u.lo.den.c, .bool u.hi.num.g, .slice u.hi.num.a u.hi.num.n u.hi.num.c, .bool u.hi.den.g, .slice u.hi.den.a u.hi.den.n u.hi.den.c] 31)).cell? ⟨w.heap.size + 1, 1, none⟩ = some (.slice u.lo.num.a u.lo.num.n u.lo.num.c) := (ca_other k1_1)
  have k1_2u : (w0.alloc (.cells #[.bool v.hi.num.g, .slice v.hi.num.a v.hi.num.n v.hi.num.c, .bool v.hi.den.g, .slice v.hi.den.a v.hi.den.n v.hi.den.c, .bool u.lo.num.g, .slice u.lo.num.a u.lo.num.n u.lo.num.c, .bool u.lo.den.g, .slice u.lo.den.a u.lo.den.n u.lo.den.c, .bool u.hi.num.g, .slice u.hi.num.a u.hi.num.n u.hi.num.c, .bool u.hi.den.g, .slice u.hi.den.a u.hi.den.n u.hi.den.c] 31)).cell? ⟨w.heap.size + 1, 2, none⟩ = some (.bool u.lo.den.g) := (ca_other k1_2)
  have k1_3u : (w0.alloc (.cells #[.bool v.hi.num.g, .slice v.hi.num.a v.hi.num.n v.hi.num.c, .bool v.hi.den.g, .slice v.hi.den.a v.hi.den.n v.hi.den.c, .bool u.lo.num.g, .slice u.lo.num.a u.lo.num.n u.lo.num.c, .bool u.lo.den.g, .slice u.lo.den.a u.lo.den.n u.lo.den.c, .bool u.hi.num.g, .slice u.hi.num.a u.hi.num.n u.hi.num.c, .bool u.hi.den.g, .slice u.hi.den.a u.hi.den.n u.hi.den.c] 31)).cell? ⟨w.heap.size + 1, 3, none⟩ = some (.slice u.lo.den.a u.lo.den.n u.lo.den.c) := (ca_other k1_3)
  have k1_4u : (w0.alloc (.cells #[.bool v.hi.num.g, .slice v.hi.num.a v.hi.num.n v.hi.num.c, .bool v.hi.den.g, .slice v.hi.den.a v.hi.den.n v.hi.den.c, .bool u.lo.num.g, .slice u.lo.num.a u.lo.num.n u.lo.num.c, .bool u.lo.den.g, .slice u.lo.den.a u.lo.den.n u.lo.den.c, .bool u.hi.num.g, .slice u.hi.num.a u.hi.num.n u.hi.num.c, .bool u.hi.den.g, .slice u.hi.den.a u.hi.den.n u.hi.den.c] 31)).cell? ⟨w.heap.size + 1, 4, none⟩ = some (.bool u.hi.num.g) := (ca_other k1_4)
  have k1_5u : (w0.alloc (.cells #[.bool v.hi.num.g, .slice v.hi.num.a v.hi.num.n v.hi.num.c, .bool v.hi.den.g, .slice v.hi.den.a v.hi.den.n v.hi.den.c, .bool u.lo.num.g, .slice u.lo.num.a u.lo.num.n u.lo.num.c, .bool u.lo.den.g, .slice u.lo.den.a u.lo.den.n u.lo.den.c, .bool u.hi.num.g, .slice u.hi.num.a u.hi.num.n u.hi.num.c, .bool u.hi.den.g, .slice u.hi.den.a u.hi.den.n u.hi.den.c] 31)).cell? ⟨w.heap.size + 1, 5, none⟩ = some (.slice u.hi.num.a u.hi.num.n u.hi.num.c) := (ca_other k1_5)
  have k1_6u : (w0.alloc (.cells #[.bool v.hi.num.g, .slice v.hi.num.a v.hi.num.n v.hi.num.c, .bool v.hi.den.g, .slice v.hi.den.a v.hi.den.n v.hi.den.c, .bool u.lo.num.g, .slice u.lo.num.a u.lo.num.n u.lo.num.c, .bool u.lo.den.g, .slice u.lo.den.a u.lo.den.n u.lo.den.c, .bool u.hi.num.g, .slice u.hi.num.a u.hi.num.n u.hi.num.c, .bool u.hi.den.g, .slice u.hi.den.a u.hi.den.n u.hi.den.c] 31)).cell? ⟨w.heap.size + 1, 6, none⟩ = some (.bool u.hi.den.g) := (ca_other k1_6)
  have k1_7u : (w0.alloc (.cells #[.bool v.hi.num.g, .slice v.hi.num.a v.hi.num.n v.hi.num.c, .bool v.hi.den.g, .slice v.hi.den.a v.hi.den.n v.hi.den.c, .bool u.lo.num.g, .slice u.lo.num.a u.lo.num.n u.lo.num.c, .bool u.lo.den.g, .slice u.lo.den.a u.lo.den.n u.lo.den.c, .bool u.hi.num.g, .slice u.hi.num.a u.hi.num.n u.hi.num.c, .bool u.hi.den.g, .slice u.hi.den.a u.hi.den.n u.hi.den.c] 31)).cell? ⟨w.heap.size + 1, 7, none⟩ = some (.slice u.hi.den.a u.hi.den.n u.hi.den.c) := (ca_other k1_7)
  have k2_0u : (w0.alloc (.cells #[.bool v.hi.num.g, .slice v.hi.num.a v.hi.num.n v.hi.num.c, .bool v.hi.den.g, .slice v.hi.den.a v.hi.den.n v.hi.den.c, .bool u.lo.num.g, .slice u.lo.num.a u.lo.num.n u.lo.num.c, .bool u.lo.den.g, .slice u.lo.den.a u.lo.den.n u.lo.den.c, .bool u.hi.num.g, .slice u.hi.num.a u.hi.num.n u.hi.num.c, .bool u.hi.den.g, .slice u.hi.den.a u.hi.den.n u.hi.den.c] 31)).cell? ⟨w.heap.size + 1 + 1, 0, none⟩ = some (.bool false) := (ca_other k2_0)
  have k2_1u : (w0.alloc (.cells #[.bool v.hi.num.g, .slice v.hi.num.a v.hi.num.n v.hi.num.c, .bool v.hi.den.g, .slice v.hi.den.a v.hi.den.n v.hi.den.c, .bool u.lo.num.g, .slice u.lo.num.a u.lo.num.n u.lo.num.c, .bool u.lo.den.g, .slice u.lo.den.a u.lo.den.n u.lo.den.c, .bool u.hi.num.g, .slice u.hi.num.a u.hi.num.n u.hi.num.c, .bool u.hi.den.g, .slice u.hi.den.a u.hi.den.n u.hi.den.c] 31)).cell? ⟨w.heap.size + 1 + 1, 1, none⟩ = some (.slice none 0 0) := (ca_other k2_1)
  have k2_2u : (w0.alloc (.cells #[.bool v.hi.num.g, .slice v.hi.num.a v.hi.num.n v.hi.num.c, .bool v.hi.den.g, .slice v.hi.den.a v.hi.den.n v.hi.den.c, .bool u.lo.num.g, .slice u.lo.num.a u.lo.num.n u.lo.num.c, .bool u.lo.den.g, .slice u.lo.den.a u.lo.den.n u.lo.den.c, .bool u.hi.num.g, .slice u.hi.num.a u.hi.num.n u.hi.num.c, .bool u.hi.den.g, .slice u.hi.den.a u.hi.den.n u.hi.den.c] 31)).cell? ⟨w.heap.size + 1 + 1, 2, none⟩ = some (.bool false) := (ca_other k2_2)
  have k2_3u : (w0.alloc (.cells #[.bool v.hi.num.g, .slice v.hi.num.a v.hi.num.n v.hi.num.c, .bool v.hi.den.g, .slice v.hi.den.a v.hi.den.n v.hi.den.c, .bool u.lo.num.g, .slice u.lo.num.a u.lo.num.n u.lo.num.c, .bool u.lo.den.g, .slice u.lo.den.a u.lo.den.n u.lo.den.c, .bool u.hi.num.g, .slice u.hi.num.a u.hi.num.n u.hi.num.c, .bool u.hi.den.g, .slice u.hi.den.a u.hi.den.n u.hi.den.c] 31)).cell? ⟨w.heap.size + 1 + 1, 3, none⟩ = some (.slice none 0 0) := (ca_other k2_3)
  have k2_4u : (w0.alloc (.cells #[.bool v.hi.num.g, .slice v.hi.num.a v.hi.num.n v.hi.num.c, .bool v.hi.den.g, .slice v.hi.den.a v.hi.den.n v.hi.den.c, .bool u.lo.num.g, .slice u.lo.num.a u.lo.num.n u.lo.num.c, .bool u.lo.den.g, .slice u.lo.den.a u.lo.den.n u.lo.den.c, .bool u.hi.num.g, .slice u.hi.num.a u.hi.num.n u.hi.num.c, .bool u.hi.den.g, .slice u.hi.den.a u.hi.den.n u.hi.den.c] 31)).cell? ⟨w.heap.size + 1 + 1, 4, none⟩ = some (.bool false) := (ca_other k2_4)
  have k2_5u : (w0.alloc (.cells #[.bool v.hi.num.g, .slice v.hi.num.a v.hi.num.n v.hi.num.c, .bool v.hi.den.g, .slice v.hi.den.a v.hi.den.n v.hi.den.c, .bool u.lo.num.g, .slice u.lo.num.a u.lo.num.n u.lo.num.c, .bool u.lo.den.g, .slice u.lo.den.a u.lo.den.n u.lo.den.c, .bool u.hi.num.g, .slice u.hi.num.a u.hi.num.n u.hi.num.c, .bool u.hi.den.g, .slice u.hi.den.a u.hi.den.n u.hi.den.c] 31)).cell? ⟨w.heap.size + 1 + 1, 5, none⟩ = some (.slice none 0 0) := (ca_other k2_5)
  have k2_6u : (w0.alloc (.cells #[.bool v.hi.num.g, .slice v.hi.num.a v.hi.num.n v.hi.num.c, .bool v.hi.den.g, .slice v.hi.den.a v.hi.den.n v.hi.den.c, .bool u.lo.num.g, .slice u.lo.num.a u.lo.num.n u.lo.num.c, .bool u.lo.den.g, .slice u.lo.den.a u.lo.den.n u.lo.den.c, .bool u.hi.num.g, .slice u.hi.num.a u.hi.num.n u.hi.num.c, .bool u.hi.den.g, .slice u.hi.den.a u.hi.den.n u.hi.den.c] 31)).cell? ⟨w.heap.size + 1 + 1, 6, none⟩ = some (.bool false) := (ca_other k2_6)
  have k2_7u : (w0.alloc (.cells #[.bool v.hi.num.g, .slice v.hi.num.a v.hi.num.n v.hi.num.c, .bool v.hi.den.g, .slice v.hi.den.a v.hi.den.n v.hi.den.c, .bool u.lo.num.g, .slice u.lo.num.a u.lo.num.n u.lo.num.c, .bool u.lo.den.g, .slice u.lo.den.a u.lo.den.n u.lo.den.c, .bool u.hi.num.g, .slice u.hi.num.a u.hi.num.n u.hi.num.c, .bool u.hi.den.g, .slice u.hi.den.a u.hi.den.n u.hi.den.c] 31)).cell? ⟨w.heap.size + 1 + 1, 7, none⟩ = some (.slice none 0 0) := (ca_other k2_7)
  go_wp2_with fail
  refine (leastI ⟨v.lo, nQ d.lo, dQ d.lo⟩ w0.heap.size 0 3 3 [⟨v.hi, nQ d.hi, dQ d.hi⟩, ⟨u.lo, nQ e.lo, dQ e.lo⟩, ⟨u.hi, nQ e.hi, dQ e.hi⟩] _ ((unhide S1).lo.rq.later ((Below.refl _ _).alloc (by simp) _)) (rats_3 (r1 := ⟨v.hi, nQ d.hi, dQ d.hi⟩) (r2 := ⟨u.lo, nQ e.lo, dQ e.lo⟩) (r3 := ⟨u.hi, nQ e.hi, dQ e.hi⟩) (unhide S1).hi.rq (unhide S2).lo.rq (unhide S2).hi.rq) rfl (by omega)).mono ?_
  rintro e w1 ⟨r, xs, us, ys, vs, rfl, hb, or, ar, n1, n2, n3, n4⟩
  clear k0_0u k0_1u k0_2u k0_3u k0_4u k0_5u k0_6u k0_7u k1_0u k1_1u k1_2u k1_3u k1_4u k1_5u k1_6u k1_7u k2_0u k2_1u k2_2u k2_3u k2_4u k2_5u k2_6u k2_7u
  have s1 : w0.heap.size + 1 ≤ w1.heap.size := by have := hb.size; simp at this; omega
  have f1 := fold_lo ([⟨v.hi, nQ d.hi, dQ d.hi⟩, ⟨u.lo, nQ e.lo, dQ e.lo⟩, ⟨u.hi, nQ e.hi, dQ e.hi⟩] : List RQ) (⟨v.lo, nQ d.lo, dQ d.lo⟩ : RQ)
  have f2 := fold_hi ([⟨v.hi, nQ d.hi, dQ d.hi⟩, ⟨u.lo, nQ e.lo, dQ e.lo⟩, ⟨u.hi, nQ e.hi, dQ e.hi⟩] : List RQ) (⟨v.lo, nQ d.lo, dQ d.lo⟩ : RQ)
  have e1 : (List.foldl stLo (⟨v.lo, nQ d.lo, dQ d.lo⟩ : RQ) [⟨v.hi, nQ d.hi, dQ d.hi⟩, ⟨u.lo, nQ e.lo, dQ e.lo⟩, ⟨u.hi, nQ e.hi, dQ e.hi⟩]).N = (jLo d e).1 := congrArg Prod.fst f1
  have e2 : (List.foldl stLo (⟨v.lo, nQ d.lo, dQ d.lo⟩ : RQ) [⟨v.hi, nQ d.hi, dQ d.hi⟩, ⟨u.lo, nQ e.lo, dQ e.lo⟩, ⟨u.hi, nQ e.hi, dQ e.hi⟩]).D = (jLo d e).2 := congrArg Prod.snd f1
  have e3 : (List.foldl stHi (⟨v.lo, nQ d.lo, dQ d.lo⟩ : RQ) [⟨v.hi, nQ d.hi, dQ d.hi⟩, ⟨u.lo, nQ e.lo, dQ e.lo⟩, ⟨u.hi, nQ e.hi, dQ e.hi⟩]).N = (jHi d e).1 := congrArg Prod.fst f2
  have e4 : (List.foldl stHi (⟨v.lo, nQ d.lo, dQ d.lo⟩ : RQ) [⟨v.hi, nQ d.hi, dQ d.hi⟩, ⟨u.lo, nQ e.lo, dQ e.lo⟩, ⟨u.hi, nQ e.hi, dQ e.hi⟩]).D = (jHi d e).2 := congrArg Prod.snd f2
  rw [e1, e2, e3, e4] at or ar
  rw [e1] at n1
  rw [e2] at n2
  rw [e3] at n3
  rw [e4] at n4
  have OR := hide (And.intro (or.wide (lo' := w.heap.size + 1 + 1 + 1) (by simp; omega) (Nat.le_refl _)) (And.intro ar (And.intro n1 (And.intro n2 (And.intro n3 n4)))))
  clear e1 e2 e3 e4 f1 f2
  have hbx := ba (hb)
  replace z2 := fun o => frozen_later hbx (World.block_lt_of_cell? _ _ k2_0) (z2 o)
  replace k2_0 := cell_later hbx k2_0
  replace k2_1 := cell_later hbx k2_1
  replace k2_2 := cell_later hbx k2_2
  replace k2_3 := cell_later hbx k2_3
  replace k2_4 := cell_later hbx k2_4
  replace k2_5 := cell_later hbx k2_5
  replace k2_6 := cell_later hbx k2_6
  replace k2_7 := cell_later hbx k2_7
  clear k0_0 k0_1 k0_2 k0_3 k0_4 k0_5 k0_6 k0_7 k1_0 k1_1 k1_2 k1_3 k1_4 k1_5 k1_6 k1_7
  replace S1 := hide ((unhide S1).later hbx)
  replace S2 := hide ((unhide S2).later hbx)
  replace HB := hide (below_on (unhide HB) hbx)
  clear hbx hb
  clear or ar n1 n2 n3 n4
  go_wp2
  refine bodyPost_ret (v := .agg #[.bool r.lo.num.g, .slice r.lo.num.a r.lo.num.n r.lo.num.c, .bool r.lo.den.g, .slice r.lo.den.a r.lo.den.n r.lo.den.c, .bool r.hi.num.g, .slice r.hi.num.a r.hi.num.n r.hi.num.c, .bool r.hi.den.g, .slice r.hi.den.a r.hi.den.n r.hi.den.c]) (by simp [results, Try.results148, go_sem, k2_0, k2_1, k2_2, k2_3, k2_4, k2_5, k2_6, k2_7]) rfl ?_
  exact outS_fin (v := r) (R := w.heap.size + 1 + 1) (by omega) (unhide HB) (metS_but (w5 := w1) (v := r) (G := w.heap.size + 1 + 1)) (unhide OR).1 (unhide OR).2.1 (unhide OR).2.2.1 (unhide OR).2.2.2.1 (unhide OR).2.2.2.2.1 (unhide OR).2.2.2.2.2

set_option maxHeartbeats 4000000 in
theorem ofJoinS (v u : SV) (d e : SD) (w : World) (h : AllAr w [(v.lo.num, d.lo.num), (v.lo.den, d.lo.den), (v.hi.num, d.hi.num), (v.hi.den, d.hi.den)]) (h' : AllAr w [(u.lo.num, e.lo.num), (u.lo.den, e.lo.den), (u.hi.num, e.hi.num), (u.hi.den, e.hi.den)]) :
    Calls Try.prog 140 #[.agg #[.bool v.lo.num.g, .slice v.lo.num.a v.lo.num.n v.lo.num.c, .bool v.lo.den.g, .slice v.lo.den.a v.lo.den.n v.lo.den.c, .bool v.hi.num.g, .slice v.hi.num.a v.hi.num.n v.hi.num.c, .bool v.hi.den.g, .slice v.hi.den.a v.hi.den.n v.hi.den.c], .agg #[.bool u.lo.num.g, .slice u.lo.num.a u.lo.num.n u.lo.num.c, .bool u.lo.den.g, .slice u.lo.den.a u.lo.den.n u.lo.den.c, .bool u.hi.num.g, .slice u.hi.num.a u.hi.num.n u.hi.num.c, .bool u.hi.den.g, .slice u.hi.den.a u.hi.den.n u.hi.den.c], .func (Fn.func 148) #[] #[]] w (RetS w (AnsS (gS d && gS e) (jLo d e).1 (jLo d e).2 (jHi d e).1 (jHi d e).2)) := by
  have H1 := hide h
  have H2 := hide h'
  clear h h'
  cases hg1 : gS d
  · have G1 := hide (fun w1 (k : AllAr w1 [(v.lo.num, d.lo.num), (v.lo.den, d.lo.den), (v.hi.num, d.hi.num), (v.hi.den, d.hi.den)]) => goodSI v d w1 k)
    have G2 := hide (fun w1 (k : AllAr w1 [(u.lo.num, e.lo.num), (u.lo.den, e.lo.den), (u.hi.num, e.hi.num), (u.hi.den, e.hi.den)]) => goodSI u e w1 k)
    rw [hg1] at G1
    rw [Bool.false_and]
    clear hg1
    have B0 := hide (show Below w.heap.size w (((w.alloc (.cells #[.bool v.lo.num.g, .slice v.lo.num.a v.lo.num.n v.lo.num.c, .bool v.lo.den.g, .slice v.lo.den.a v.lo.den.n v.lo.den.c, .bool v.hi.num.g, .slice v.hi.num.a v.hi.num.n v.hi.num.c, .bool v.hi.den.g, .slice v.hi.den.a v.hi.den.n v.hi.den.c] 62)).alloc (.cells #[.bool u.lo.num.g, .slice u.lo.num.a u.lo.num.n u.lo.num.c, .bool u.lo.den.g, .slice u.lo.den.a u.lo.den.n u.lo.den.c, .bool u.hi.num.g, .slice u.hi.num.a u.hi.num.n u.hi.num.c, .bool u.hi.den.g, .slice u.hi.den.a u.hi.den.n u.hi.den.c] 62)).alloc (.cells #[.bool false, .slice none 0 0, .bool false, .slice none 0 0, .bool false, .slice none 0 0, .bool false, .slice none 0 0] 62)) from ((((Below.refl _ _).alloc (by simp) _).alloc (by simp) _).alloc (by simp <;> omega) _))
    go_enter Try.func140, Try.ntmps140
    go_wp2_with fail
    refine (unhide G1 _ ((unhide H1).later (unhide B0))).mono ?_
    rintro e w1 ⟨rfl, hb⟩
    have s1 : w.heap.size + 1 + 1 < w1.heap.size := by have := hb.size; simp at this; omega
    have k2_0 : w1.cell? ⟨w.heap.size + 1 + 1, 0, none⟩ = some (.bool false) := cell_later hb (by simp [go_sem])
    have k2_1 : w1.cell? ⟨w.heap.size + 1 + 1, 1, none⟩ = some (.slice none 0 0) := cell_later hb (by simp [go_sem])
    have k2_2 : w1.cell? ⟨w.heap.size + 1 + 1, 2, none⟩ = some (.bool false) := cell_later hb (by simp [go_sem])
    have k2_3 : w1.cell? ⟨w.heap.size + 1 + 1, 3, none⟩ = some (.slice none 0 0) := cell_later hb (by simp [go_sem])
    have k2_4 : w1.cell? ⟨w.heap.size + 1 + 1, 4, none⟩ = some (.bool false) := cell_later hb (by simp [go_sem])
    have k2_5 : w1.cell? ⟨w.heap.size + 1 + 1, 5, none⟩ = some (.slice none 0 0) := cell_later hb (by simp [go_sem])
    have k2_6 : w1.cell? ⟨w.heap.size + 1 + 1, 6, none⟩ = some (.bool false) := cell_later hb (by simp [go_sem])
    have k2_7 : w1.cell? ⟨w.heap.size + 1 + 1, 7, none⟩ = some (.slice none 0 0) := cell_later hb (by simp [go_sem])
    have z2 : ∀ o, w1.frozen? ⟨w.heap.size + 1 + 1, o, none⟩ = false := fun o => frozen_later hb (by simp) (by simp [go_sem])
    have HB := hide (below_on (unhide B0) hb)
    clear hb
    go_wp2
    refine bodyPost_ret (v := .tuple #[.agg #[.bool false, .slice none 0 0, .bool false, .slice none 0 0, .bool false, .slice none 0 0, .bool false, .slice none 0 0], .bool false]) (by simp [results, Try.results140, go_sem, k2_0, k2_1, k2_2, k2_3, k2_4, k2_5, k2_6, k2_7]) rfl ?_
    exact retS_fin (v := (⟨⟨⟨false, none, 0, 0⟩, ⟨false, none, 0, 0⟩⟩, ⟨⟨false, none, 0, 0⟩, ⟨false, none, 0, 0⟩⟩⟩ : SV)) (d := (⟨⟨⟨false, []⟩, ⟨false, []⟩⟩, ⟨⟨false, []⟩, ⟨false, []⟩⟩⟩ : SD)) (R := w.heap.size + 1 + 1) (by omega) (unhide HB) (metS_but (w5 := w1) (v := (⟨⟨⟨false, none, 0, 0⟩, ⟨false, none, 0, 0⟩⟩, ⟨⟨false, none, 0, 0⟩, ⟨false, none, 0, 0⟩⟩⟩ : SV)) (G := w.heap.size + 1 + 1)) (zeroS _ _ _) (ansS_none _ _ _ _)
  · cases hg2 : gS e
    · have G1 := hide (fun w1 (k : AllAr w1 [(v.lo.num, d.lo.num), (v.lo.den, d.lo.den), (v.hi.num, d.hi.num), (v.hi.den, d.hi.den)]) => goodSI v d w1 k)
      have G2 := hide (fun w1 (k : AllAr w1 [(u.lo.num, e.lo.num), (u.lo.den, e.lo.den), (u.hi.num, e.hi.num), (u.hi.den, e.hi.den)]) => goodSI u e w1 k)
      rw [hg1] at G1
      rw [hg2] at G2
      rw [Bool.true_and]
      clear hg1 hg2
      have B0 := hide (show Below w.heap.size w (((w.alloc (.cells #[.bool v.lo.num.g, .slice v.lo.num.a v.lo.num.n v.lo.num.c, .bool v.lo.den.g, .slice v.lo.den.a v.lo.den.n v.lo.den.c, .bool v.hi.num.g, .slice v.hi.num.a v.hi.num.n v.hi.num.c, .bool v.hi.den.g, .slice v.hi.den.a v.hi.den.n v.hi.den.c] 62)).alloc (.cells #[.bool u.lo.num.g, .slice u.lo.num.a u.lo.num.n u.lo.num.c, .bool u.lo.den.g, .slice u.lo.den.a u.lo.den.n u.lo.den.c, .bool u.hi.num.g, .slice u.hi.num.a u.hi.num.n u.hi.num.c, .bool u.hi.den.g, .slice u.hi.den.a u.hi.den.n u.hi.den.c] 62)).alloc (.cells #[.bool false, .slice none 0 0, .bool false, .slice none 0 0, .bool false, .slice none 0 0, .bool false, .slice none 0 0] 62)) from ((((Below.refl _ _).alloc (by simp) _).alloc (by simp) _).alloc (by simp <;> omega) _))
      go_enter Try.func140, Try.ntmps140
      go_wp2_with fail
      refine (unhide G1 _ ((unhide H1).later (unhide B0))).mono ?_
      rintro e w1 ⟨rfl, hb⟩
      have s1 : w.heap.size + 1 + 1 < w1.heap.size := by have := hb.size; simp at this; omega
      have k1_0 : w1.cell? ⟨w.heap.size + 1, 0, none⟩ = some (.bool u.lo.num.g) := cell_later hb (by simp [go_sem])
      have k1_1 : w1.cell? ⟨w.heap.size + 1, 1, none⟩ = some (.slice u.lo.num.a u.lo.num.n u.lo.num.c) := cell_later hb (by simp [go_sem])
      have k1_2 : w1.cell? ⟨w.heap.size + 1, 2, none⟩ = some (.bool u.lo.den.g) := cell_later hb (by simp [go_sem])
      have k1_3 : w1.cell? ⟨w.heap.size + 1, 3, none⟩ = some (.slice u.lo.den.a u.lo.den.n u.lo.den.c) := cell_later hb (by simp [go_sem])
      have k1_4 : w1.cell? ⟨w.heap.size + 1, 4, none⟩ = some (.bool u.hi.num.g) := cell_later hb (by simp [go_sem])
      have k1_5 : w1.cell? ⟨w.heap.size + 1, 5, none⟩ = some (.slice u.hi.num.a u.hi.num.n u.hi.num.c) := cell_later hb (by simp [go_sem])
      have k1_6 : w1.cell? ⟨w.heap.size + 1, 6, none⟩ = some (.bool u.hi.den.g) := cell_later hb (by simp [go_sem])
      have k1_7 : w1.cell? ⟨w.heap.size + 1, 7, none⟩ = some (.slice u.hi.den.a u.hi.den.n u.hi.den.c) := cell_later hb (by simp [go_sem])
      have k2_0 : w1.cell? ⟨w.heap.size + 1 + 1, 0, none⟩ = some (.bool false) := cell_later hb (by simp [go_sem])
      have k2_1 : w1.cell? ⟨w.heap.size + 1 + 1, 1, none⟩ = some (.slice none 0 0) := cell_later hb (by simp [go_sem])
      have k2_2 : w1.cell? ⟨w.heap.size + 1 + 1, 2, none⟩ = some (.bool false) := cell_later hb (by simp [go_sem])
      have k2_3 : w1.cell? ⟨w.heap.size + 1 + 1, 3, none⟩ = some (.slice none 0 0) := cell_later hb (by simp [go_sem])
      have k2_4 : w1.cell? ⟨w.heap.size + 1 + 1, 4, none⟩ = some (.bool false) := cell_later hb (by simp [go_sem])
      have k2_5 : w1.cell? ⟨w.heap.size + 1 + 1, 5, none⟩ = some (.slice none 0 0) := cell_later hb (by simp [go_sem])
      have k2_6 : w1.cell? ⟨w.heap.size + 1 + 1, 6, none⟩ = some (.bool false) := cell_later hb (by simp [go_sem])
      have k2_7 : w1.cell? ⟨w.heap.size + 1 + 1, 7, none⟩ = some (.slice none 0 0) := cell_later hb (by simp [go_sem])
      have z2 : ∀ o, w1.frozen? ⟨w.heap.size + 1 + 1, o, none⟩ = false := fun o => frozen_later hb (by simp) (by simp [go_sem])
      have HB := hide (below_on (unhide B0) hb)
      clear hb
      go_wp2_with fail
      refine (unhide G2 _ ((unhide H2).later (unhide HB))).mono ?_
      rintro e w2 ⟨rfl, hb⟩
      have s2 := hb.size
      replace z2 := fun o => frozen_later hb (World.block_lt_of_cell? _ _ k2_0) (z2 o)
      replace k2_0 := cell_later hb k2_0
      replace k2_1 := cell_later hb k2_1
      replace k2_2 := cell_later hb k2_2
      replace k2_3 := cell_later hb k2_3
      replace k2_4 := cell_later hb k2_4
      replace k2_5 := cell_later hb k2_5
      replace k2_6 := cell_later hb k2_6
      replace k2_7 := cell_later hb k2_7
      clear k1_0 k1_1 k1_2 k1_3 k1_4 k1_5 k1_6 k1_7
      replace HB := hide (below_on (unhide HB) hb)
      clear hb
      go_wp2
      refine bodyPost_ret (v := .tuple #[.agg #[.bool false, .slice none 0 0, .bool false, .slice none 0 0, .bool false, .slice none 0 0, .bool false, .slice none 0 0], .bool false]) (by simp [results, Try.results140, go_sem, k2_0, k2_1, k2_2, k2_3, k2_4, k2_5, k2_6, k2_7]) rfl ?_
      exact retS_fin (v := (⟨⟨⟨false, none, 0, 0⟩, ⟨false, none, 0, 0⟩⟩, ⟨⟨false, none, 0, 0⟩, ⟨false, none, 0, 0⟩⟩⟩ : SV)) (d := (⟨⟨⟨false, []⟩, ⟨false, []⟩⟩, ⟨⟨false, []⟩, ⟨false, []⟩⟩⟩ : SD)) (R := w.heap.size + 1 + 1) (by omega) (unhide HB) (metS_but (w5 := w2) (v := (⟨⟨⟨false, none, 0, 0⟩, ⟨false, none, 0, 0⟩⟩, ⟨⟨false, none, 0, 0⟩, ⟨false, none, 0, 0⟩⟩⟩ : SV)) (G := w.heap.size + 1 + 1)) (zeroS _ _ _) (ansS_none _ _ _ _)
    · have G1 := hide (fun w1 (k : AllAr w1 [(v.lo.num, d.lo.num), (v.lo.den, d.lo.den), (v.hi.num, d.hi.num), (v.hi.den, d.hi.den)]) => goodSI v d w1 k)
      have G2 := hide (fun w1 (k : AllAr w1 [(u.lo.num, e.lo.num), (u.lo.den, e.lo.den), (u.hi.num, e.hi.num), (u.hi.den, e.hi.den)]) => goodSI u e w1 k)
      rw [hg1] at G1
      rw [hg2] at G2
      have j1 := isGoodS_of (unhide H1) hg1
      have j2 := isGoodS_of (unhide H2) hg2
      have NZ : Hid ((jLo d e).2 ≠ 0 ∧ (jHi d e).2 ≠ 0) := hide ⟨by have := (jPos j1 j2).1; omega, by have := (jPos j1 j2).2; omega⟩
      have J1 := hide j1
      have J2 := hide j2
      rw [Bool.true_and]
      clear hg1 hg2 j1 j2
      have B0 := hide (show Below w.heap.size w (((w.alloc (.cells #[.bool v.lo.num.g, .slice v.lo.num.a v.lo.num.n v.lo.num.c, .bool v.lo.den.g, .slice v.lo.den.a v.lo.den.n v.lo.den.c, .bool v.hi.num.g, .slice v.hi.num.a v.hi.num.n v.hi.num.c, .bool v.hi.den.g, .slice v.hi.den.a v.hi.den.n v.hi.den.c] 62)).alloc (.cells #[.bool u.lo.num.g, .slice u.lo.num.a u.lo.num.n u.lo.num.c, .bool u.lo.den.g, .slice u.lo.den.a u.lo.den.n u.lo.den.c, .bool u.hi.num.g, .slice u.hi.num.a u.hi.num.n u.hi.num.c, .bool u.hi.den.g, .slice u.hi.den.a u.hi.den.n u.hi.den.c] 62)).alloc (.cells #[.bool false, .slice none 0 0, .bool false, .slice none 0 0, .bool false, .slice none 0 0, .bool false, .slice none 0 0] 62)) from ((((Below.refl _ _).alloc (by simp) _).alloc (by simp) _).alloc (by simp <;> omega) _))
      go_enter Try.func140, Try.ntmps140
      go_wp2_with fail
      refine (unhide G1 _ ((unhide H1).later (unhide B0))).mono ?_
      rintro e w1 ⟨rfl, hb⟩
      have s1 : w.heap.size + 1 + 1 < w1.heap.size := by have := hb.size; simp at this; omega
      have k0_0 : w1.cell? ⟨w.heap.size, 0, none⟩ = some (.bool v.lo.num.g) := cell_later hb (by simp [go_sem])
      have k0_1 : w1.cell? ⟨w.heap.size, 1, none⟩ = some (.slice v.lo.num.a v.lo.num.n v.lo.num.c) := cell_later hb (by simp [go_sem])
      have k0_2 : w1.cell? ⟨w.heap.size, 2, none⟩ = some (.bool v.lo.den.g) := cell_later hb (by simp [go_sem])
      have k0_3 : w1.cell? ⟨w.heap.size, 3, none⟩ = some (.slice v.lo.den.a v.lo.den.n v.lo.den.c) := cell_later hb (by simp [go_sem])
      have k0_4 : w1.cell? ⟨w.heap.size, 4, none⟩ = some (.bool v.hi.num.g) := cell_later hb (by simp [go_sem])
      have k0_5 : w1.cell? ⟨w.heap.size, 5, none⟩ = some (.slice v.hi.num.a v.hi.num.n v.hi.num.c) := cell_later hb (by simp [go_sem])
      have k0_6 : w1.cell? ⟨w.heap.size, 6, none⟩ = some (.bool v.hi.den.g) := cell_later hb (by simp [go_sem])
      have k0_7 : w1.cell? ⟨w.heap.size, 7, none⟩ = some (.slice v.hi.den.a v.hi.den.n v.hi.den.c) := cell_later hb (by simp [go_sem])
      have k1_0 : w1.cell? ⟨w.heap.size + 1, 0, none⟩ = some (.bool u.lo.num.g) := cell_later hb (by simp [go_sem])
      have k1_1 : w1.cell? ⟨w.heap.size + 1, 1, none⟩ = some (.slice u.lo.num.a u.lo.num.n u.lo.num.c) := cell_later hb (by simp [go_sem])
      have k1_2 : w1.cell? ⟨w.heap.size + 1, 2, none⟩ = some (.bool u.lo.den.g) := cell_later hb (by simp [go_sem])
      have k1_3 : w1.cell? ⟨w.heap.size + 1, 3, none⟩ = some (.slice u.lo.den.a u.lo.den.n u.lo.den.c) := cell_later hb (by simp [go_sem])
      have k1_4 : w1.cell? ⟨w.heap.size + 1, 4, none⟩ = some (.bool u.hi.num.g) := cell_later hb (by simp [go_sem])
      have k1_5 : w1.cell? ⟨w.heap.size + 1, 5, none⟩ = some (.slice u.hi.num.a u.hi.num.n u.hi.num.c) := cell_later hb (by simp [go_sem])
      have k1_6 : w1.cell? ⟨w.heap.size + 1, 6, none⟩ = some (.bool u.hi.den.g) := cell_later hb (by simp [go_sem])
      have k1_7 : w1.cell? ⟨w.heap.size + 1, 7, none⟩ = some (.slice u.hi.den.a u.hi.den.n u.hi.den.c) := cell_later hb (by simp [go_sem])
      have k2_0 : w1.cell? ⟨w.heap.size + 1 + 1, 0, none⟩ = some (.bool false) := cell_later hb (by simp [go_sem])
      have k2_1 : w1.cell? ⟨w.heap.size + 1 + 1, 1, none⟩ = some (.slice none 0 0) := cell_later hb (by simp [go_sem])
      have k2_2 : w1.cell? ⟨w.heap.size + 1 + 1, 2, none⟩ = some (.bool false) := cell_later hb (by simp [go_sem])
      have k2_3 : w1.cell? ⟨w.heap.size + 1 + 1, 3, none⟩ = some (.slice none 0 0) := cell_later hb (by simp [go_sem])
      have k2_4 : w1.cell? ⟨w.heap.size + 1 + 1, 4, none⟩ = some (.bool false) := cell_later hb (by simp [go_sem])
      have k2_5 : w1.cell? ⟨w.heap.size + 1 + 1, 5, none⟩ = some (.slice none 0 0) := cell_later hb (by simp [go_sem])
      have k2_6 : w1.cell? ⟨w.heap.size + 1 + 1, 6, none⟩ = some (.bool false) := cell_later hb (by simp [go_sem])
      have k2_7 : w1.cell? ⟨w.heap.size + 1 + 1, 7, none⟩ = some (.slice none 0 0) := cell_later hb (by simp [go_sem])
      have z2 : ∀ o, w1.frozen? ⟨w.heap.size + 1 + 1, o, none⟩ = false := fun o => frozen_later hb (by simp) (by simp [go_sem])
      have HB := hide (below_on (unhide B0) hb)
      clear hb
      go_wp2_with fail
      refine (unhide G2 _ ((unhide H2).later (unhide HB))).mono ?_
      rintro e w2 ⟨rfl, hb⟩
      have s2 := hb.size
      replace z2 := fun o => frozen_later hb (World.block_lt_of_cell? _ _ k2_0) (z2 o)
      replace k0_0 := cell_later hb k0_0
      replace k0_1 := cell_later hb k0_1
      replace k0_2 := cell_later hb k0_2
      replace k0_3 := cell_later hb k0_3
      replace k0_4 := cell_later hb k0_4
      replace k0_5 := cell_later hb k0_5
      replace k0_6 := cell_later hb k0_6
      replace k0_7 := cell_later hb k0_7
      replace k1_0 := cell_later hb k1_0
      replace k1_1 := cell_later hb k1_1
      replace k1_2 := cell_later hb k1_2
      replace k1_3 := cell_later hb k1_3
      replace k1_4 := cell_later hb k1_4
      replace k1_5 := cell_later hb k1_5
      replace k1_6 := cell_later hb k1_6
      replace k1_7 := cell_later hb k1_7
      replace k2_0 := cell_later hb k2_0
      replace k2_1 := cell_later hb k2_1
      replace k2_2 := cell_later hb k2_2
      replace k2_3 := cell_later hb k2_3
      replace k2_4 := cell_later hb k2_4
      replace k2_5 := cell_later hb k2_5
      replace k2_6 := cell_later hb k2_6
      replace k2_7 := cell_later hb k2_7
      replace HB := hide (below_on (unhide HB) hb)
      clear hb
      go_wp2_with fail
      refine (joinSpans_v v u d e _ ((unhide J1).later (unhide HB)) ((unhide J2).later (unhide HB))).mono ?_
      rintro e w3 ⟨r, xs, us, ys, vs, rfl, hb, or, ar, n1, n2, n3, n4⟩
      have s3 := hb.size
      have M1 : r.lo.den.n ≤ maxLen := Nat.le_trans ar.tail.head.ar.cap ar.tail.head.ar.top
      have M2 : r.hi.den.n ≤ maxLen := Nat.le_trans ar.tail.tail.tail.head.ar.cap ar.tail.tail.tail.head.ar.top
      have NN := hide (And.intro n1 (And.intro n2 (And.intro n3 n4)))
      replace z2 := fun o => frozen_later hb (World.block_lt_of_cell? _ _ k2_0) (z2 o)
      replace k2_0 := cell_later hb k2_0
      replace k2_1 := cell_later hb k2_1
      replace k2_2 := cell_later hb k2_2
      replace k2_3 := cell_later hb k2_3
      replace k2_4 := cell_later hb k2_4
      replace k2_5 := cell_later hb k2_5
      replace k2_6 := cell_later hb k2_6
      replace k2_7 := cell_later hb k2_7
      clear k0_0 k0_1 k0_2 k0_3 k0_4 k0_5 k0_6 k0_7 k1_0 k1_1 k1_2 k1_3 k1_4 k1_5 k1_6 k1_7
      have OR := hide (or)
      replace HB := hide (below_on (unhide HB) hb)
      clear hb
      clear or ar n1 n2 n3 n4
      go_wp2_with fail
      refine (whereS r _ _ _ _ xs us ys vs w2.heap.size w3.heap.size _ (unhide OR) (Nat.le_refl _) M1 M2 (unhide NN).1 (unhide NN).2.1 (unhide NN).2.2.1 (unhide NN).2.2.2 (unhide NZ).1 (unhide NZ).2).mono ?_
      rintro e w4 ⟨r2, dr, ok, rfl, hb, ov, hu⟩
      have s4 := hb.size
      have UU := hide hu
      replace z2 := fun o => frozen_later hb (World.block_lt_of_cell? _ _ k2_0) (z2 o)
      replace k2_0 := cell_later hb k2_0
      replace k2_1 := cell_later hb k2_1
      replace k2_2 := cell_later hb k2_2
      replace k2_3 := cell_later hb k2_3
      replace k2_4 := cell_later hb k2_4
      replace k2_5 := cell_later hb k2_5
      replace k2_6 := cell_later hb k2_6
      replace k2_7 := cell_later hb k2_7
      replace OR := hide ((unhide OR).later hb)
      have OV := hide (ov)
      replace HB := hide (below_on (unhide HB) hb)
      clear hb
      clear ov hu
      go_wp2
      refine bodyPost_ret (v := .tuple #[.agg #[.bool r2.lo.num.g, .slice r2.lo.num.a r2.lo.num.n r2.lo.num.c, .bool r2.lo.den.g, .slice r2.lo.den.a r2.lo.den.n r2.lo.den.c, .bool r2.hi.num.g, .slice r2.hi.num.a r2.hi.num.n r2.hi.num.c, .bool r2.hi.den.g, .slice r2.hi.den.a r2.hi.den.n r2.hi.den.c], .bool ok]) (by simp [results, Try.results140, go_sem, k2_0, k2_1, k2_2, k2_3, k2_4, k2_5, k2_6, k2_7]) rfl ?_
      exact retS_fin (v := r2) (d := dr) (R := w.heap.size + 1 + 1) (by omega) (unhide HB) (metS_but (w5 := w4) (v := r2) (G := w.heap.size + 1 + 1)) ((unhide OV).wide (by omega) (by omega)) (unhide UU)

set_option maxHeartbeats 4000000 in
theorem JoinSI (v u : SV) (d e : SD) (w : World) (h : AllAr w [(v.lo.num, d.lo.num), (v.lo.den, d.lo.den), (v.hi.num, d.hi.num), (v.hi.den, d.hi.den)]) (h' : AllAr w [(u.lo.num, e.lo.num), (u.lo.den, e.lo.den), (u.hi.num, e.hi.num), (u.hi.den, e.hi.den)]) : Calls Try.prog 80 #[.agg #[.bool v.lo.num.g, .slice v.lo.num.a v.lo.num.n v.lo.num.c, .bool v.lo.den.g, .slice v.lo.den.a v.lo.den.n v.lo.den.c, .bool v.hi.num.g, .slice v.hi.num.a v.hi.num.n v.hi.num.c, .bool v.hi.den.g, .slice v.hi.den.a v.hi.den.n v.hi.den.c], .agg #[.bool u.lo.num.g, .slice u.lo.num.a u.lo.num.n u.lo.num.c, .bool u.lo.den.g, .slice u.lo.den.a u.lo.den.n u.lo.den.c, .bool u.hi.num.g, .slice u.hi.num.a u.hi.num.n u.hi.num.c, .bool u.hi.den.g, .slice u.hi.den.a u.hi.den.n u.hi.den.c]] w (RetS w (AnsS (gS d && gS e) (jLo d e).1 (jLo d e).2 (jHi d e).1 (jHi d e).2)) := by
  have H1 := hide h
  have H2 := hide h'
  clear h h'
  have B0 := hide (show Below w.heap.size w (((w.alloc (.cells #[.bool v.lo.num.g, .slice v.lo.num.a v.lo.num.n v.lo.num.c, .bool v.lo.den.g, .slice v.lo.den.a v.lo.den.n v.lo.den.c, .bool v.hi.num.g, .slice v.hi.num.a v.hi.num.n v.hi.num.c, .bool v.hi.den.g, .slice v.hi.den.a v.hi.den.n v.hi.den.c] 62)).alloc (.cells #[.bool u.lo.num.g, .slice u.lo.num.a u.lo.num.n u.lo.num.c, .bool u.lo.den.g, .slice u.lo.den.a u.lo.den.n u.lo.den.c, .bool u.hi.num.g, .slice u.hi.num.a u.hi.num.n u.hi.num.c, .bool u.hi.den.g, .slice u.hi.den.a u.hi.den.n u.hi.den.c] 62)).alloc (.cells #[.bool false, .slice none 0 0, .bool false, .slice none 0 0, .bool false, .slice none 0 0, .bool false, .slice none 0 0] 62)) from ((((Below.refl _ _).alloc (by simp) _).alloc (by simp) _).alloc (by simp <;> omega) _))
  go_enter Try.func80, Try.ntmps80
  go_wp2_with fail
  refine (ofJoinS v u d e _ ((unhide H1).later (unhide B0)) ((unhide H2).later (unhide B0))).mono ?_
  rintro e w2 ⟨r2, dr, ok, rfl, hb, ov, hu⟩
  have s2 : w.heap.size + 1 + 1 < w2.heap.size := by have := hb.size; simp at this; omega
  have UU := hide hu
  replace ov := ov.wide (lo' := w.heap.size + 1 + 1 + 1) (by simp) (Nat.le_refl _)
  have k2_0 : w2.cell? ⟨w.heap.size + 1 + 1, 0, none⟩ = some (.bool false) := cell_later hb (by simp [go_sem])
  have k2_1 : w2.cell? ⟨w.heap.size + 1 + 1, 1, none⟩ = some (.slice none 0 0) := cell_later hb (by simp [go_sem])
  have k2_2 : w2.cell? ⟨w.heap.size + 1 + 1, 2, none⟩ = some (.bool false) := cell_later hb (by simp [go_sem])
  have k2_3 : w2.cell? ⟨w.heap.size + 1 + 1, 3, none⟩ = some (.slice none 0 0) := cell_later hb (by simp [go_sem])
  have k2_4 : w2.cell? ⟨w.heap.size + 1 + 1, 4, none⟩ = some (.bool false) := cell_later hb (by simp [go_sem])
  have k2_5 : w2.cell? ⟨w.heap.size + 1 + 1, 5, none⟩ = some (.slice none 0 0) := cell_later hb (by simp [go_sem])
  have k2_6 : w2.cell? ⟨w.heap.size + 1 + 1, 6, none⟩ = some (.bool false) := cell_later hb (by simp [go_sem])
  have k2_7 : w2.cell? ⟨w.heap.size + 1 + 1, 7, none⟩ = some (.slice none 0 0) := cell_later hb (by simp [go_sem])
  have z2 : ∀ o, w2.frozen? ⟨w.heap.size + 1 + 1, o, none⟩ = false := fun o => frozen_later hb (by simp) (by simp [go_sem])
  have OV := hide (ov)
  have HB := hide (below_on (unhide B0) hb)
  clear hb
  clear ov hu
  go_wp2
  refine bodyPost_ret (v := .tuple #[.agg #[.bool r2.lo.num.g, .slice r2.lo.num.a r2.lo.num.n r2.lo.num.c, .bool r2.lo.den.g, .slice r2.lo.den.a r2.lo.den.n r2.lo.den.c, .bool r2.hi.num.g, .slice r2.hi.num.a r2.hi.num.n r2.hi.num.c, .bool r2.hi.den.g, .slice r2.hi.den.a r2.hi.den.n r2.hi.den.c], .bool ok]) (by simp [results, Try.results80, go_sem, k2_0, k2_1, k2_2, k2_3, k2_4, k2_5, k2_6, k2_7]) rfl ?_
  exact retS_fin (v := r2) (d := dr) (R := w.heap.size + 1 + 1) (by omega) (unhide HB) (metS_but (w5 := w2) (v := r2) (G := w.heap.size + 1 + 1)) ((unhide OV).wide (by omega) (by omega)) (unhide UU)

set_option maxHeartbeats 8000000 in
theorem JoinSS (v u : SV) (d e : SD) (w : World) (h : AllAr w [(v.lo.num, d.lo.num), (v.lo.den, d.lo.den), (v.hi.num, d.hi.num), (v.hi.den, d.hi.den)]) (h' : AllAr w [(u.lo.num, e.lo.num), (u.lo.den, e.lo.den), (u.hi.num, e.hi.num), (u.hi.den, e.hi.den)]) : Calls Try.prog 79 #[.agg #[.bool v.lo.num.g, .slice v.lo.num.a v.lo.num.n v.lo.num.c, .bool v.lo.den.g, .slice v.lo.den.a v.lo.den.n v.lo.den.c, .bool v.hi.num.g, .slice v.hi.num.a v.hi.num.n v.hi.num.c, .bool v.hi.den.g, .slice v.hi.den.a v.hi.den.n v.hi.den.c], .agg #[.bool u.lo.num.g, .slice u.lo.num.a u.lo.num.n u.lo.num.c, .bool u.lo.den.g, .slice u.lo.den.a u.lo.den.n u.lo.den.c, .bool u.hi.num.g, .slice u.hi.num.a u.hi.num.n u.hi.num.c, .bool u.hi.den.g, .slice u.hi.den.a u.hi.den.n u.hi.den.c]] w (RetS w (AnsS (gS d && gS e) (jLo d e).1 (jLo d e).2 (jHi d e).1 (jHi d e).2)) := by
  have H1 := hide h
  have H2 := hide h'
  clear h h'
  cases hP : (gS d && gS e)
  · have GB := hide (fun w1 (k : AllAr w1 [(v.lo.num, d.lo.num), (v.lo.den, d.lo.den), (v.hi.num, d.hi.num), (v.hi.den, d.hi.den)]) (k' : AllAr w1 [(u.lo.num, e.lo.num), (u.lo.den, e.lo.den), (u.hi.num, e.hi.num), (u.hi.den, e.hi.den)]) => bothSS v u d e w1 k k')
    rw [hP] at GB
    clear hP
    have B0 := hide (show Below w.heap.size w (((w.alloc (.cells #[.bool v.lo.num.g, .slice v.lo.num.a v.lo.num.n v.lo.num.c, .bool v.lo.den.g, .slice v.lo.den.a v.lo.den.n v.lo.den.c, .bool v.hi.num.g, .slice v.hi.num.a v.hi.num.n v.hi.num.c, .bool v.hi.den.g, .slice v.hi.den.a v.hi.den.n v.hi.den.c] 62)).alloc (.cells #[.bool u.lo.num.g, .slice u.lo.num.a u.lo.num.n u.lo.num.c, .bool u.lo.den.g, .slice u.lo.den.a u.lo.den.n u.lo.den.c, .bool u.hi.num.g, .slice u.hi.num.a u.hi.num.n u.hi.num.c, .bool u.hi.den.g, .slice u.hi.den.a u.hi.den.n u.hi.den.c] 62)).alloc (.cells #[.bool false, .slice none 0 0, .bool false, .slice none 0 0, .bool false, .slice none 0 0, .bool false, .slice none 0 0] 62)) from ((((Below.refl _ _).alloc (by simp) _).alloc (by simp) _).alloc (by simp <;> omega) _))
    go_enter Try.func79, Try.ntmps79
    go_wp2_with fail
    refine (unhide GB _ ((unhide H1).later (unhide B0)) ((unhide H2).later (unhide B0))).mono ?_
    rintro e w1 ⟨rfl, hb⟩
    have s1 : w.heap.size + 1 + 1 < w1.heap.size := by have := hb.size; simp at this; omega
    have k2_0 : w1.cell? ⟨w.heap.size + 1 + 1, 0, none⟩ = some (.bool false) := cell_later hb (by simp [go_sem])
    have k2_1 : w1.cell? ⟨w.heap.size + 1 + 1, 1, none⟩ = some (.slice none 0 0) := cell_later hb (by simp [go_sem])
    have k2_2 : w1.cell? ⟨w.heap.size + 1 + 1, 2, none⟩ = some (.bool false) := cell_later hb (by simp [go_sem])
    have k2_3 : w1.cell? ⟨w.heap.size + 1 + 1, 3, none⟩ = some (.slice none 0 0) := cell_later hb (by simp [go_sem])
    have k2_4 : w1.cell? ⟨w.heap.size + 1 + 1, 4, none⟩ = some (.bool false) := cell_later hb (by simp [go_sem])
    have k2_5 : w1.cell? ⟨w.heap.size + 1 + 1, 5, none⟩ = some (.slice none 0 0) := cell_later hb (by simp [go_sem])
    have k2_6 : w1.cell? ⟨w.heap.size + 1 + 1, 6, none⟩ = some (.bool false) := cell_later hb (by simp [go_sem])
    have k2_7 : w1.cell? ⟨w.heap.size + 1 + 1, 7, none⟩ = some (.slice none 0 0) := cell_later hb (by simp [go_sem])
    have z2 : ∀ o, w1.frozen? ⟨w.heap.size + 1 + 1, o, none⟩ = false := fun o => frozen_later hb (by simp) (by simp [go_sem])
    have HB := hide (below_on (unhide B0) hb)
    clear hb
    go_wp2
    refine bodyPost_ret (v := .tuple #[.agg #[.bool false, .slice none 0 0, .bool false, .slice none 0 0, .bool false, .slice none 0 0, .bool false, .slice none 0 0], .bool false]) (by simp [results, Try.results79, go_sem, k2_0, k2_1, k2_2, k2_3, k2_4, k2_5, k2_6, k2_7]) rfl ?_
    exact retS_fin (v := (⟨⟨⟨false, none, 0, 0⟩, ⟨false, none, 0, 0⟩⟩, ⟨⟨false, none, 0, 0⟩, ⟨false, none, 0, 0⟩⟩⟩ : SV)) (d := (⟨⟨⟨false, []⟩, ⟨false, []⟩⟩, ⟨⟨false, []⟩, ⟨false, []⟩⟩⟩ : SD)) (R := w.heap.size + 1 + 1) (by omega) (unhide HB) (metS_but (w5 := w1) (v := (⟨⟨⟨false, none, 0, 0⟩, ⟨false, none, 0, 0⟩⟩, ⟨⟨false, none, 0, 0⟩, ⟨false, none, 0, 0⟩⟩⟩ : SV)) (G := w.heap.size + 1 + 1)) (zeroS _ _ _) (ansS_none _ _ _ _)
  · have GB := hide (fun w1 (k : AllAr w1 [(v.lo.num, d.lo.num), (v.lo.den, d.lo.den), (v.hi.num, d.hi.num), (v.hi.den, d.hi.den)]) (k' : AllAr w1 [(u.lo.num, e.lo.num), (u.lo.den, e.lo.den), (u.hi.num, e.hi.num), (u.hi.den, e.hi.den)]) => bothSS v u d e w1 k k')
    rw [hP] at GB
    have hg1 : gS d = true := by revert hP; cases gS d <;> simp
    have hg2 : gS e = true := by revert hP; cases gS e <;> simp
    have j1 := isGoodS_of (unhide H1) hg1
    have j2 := isGoodS_of (unhide H2) hg2
    have NZ := hide (jPos j1 j2)
    have J1 := hide j1
    have J2 := hide j2
    clear hP hg1 hg2 j1 j2
    have B0 := hide (show Below w.heap.size w (((w.alloc (.cells #[.bool v.lo.num.g, .slice v.lo.num.a v.lo.num.n v.lo.num.c, .bool v.lo.den.g, .slice v.lo.den.a v.lo.den.n v.lo.den.c, .bool v.hi.num.g, .slice v.hi.num.a v.hi.num.n v.hi.num.c, .bool v.hi.den.g, .slice v.hi.den.a v.hi.den.n v.hi.den.c] 62)).alloc (.cells #[.bool u.lo.num.g, .slice u.lo.num.a u.lo.num.n u.lo.num.c, .bool u.lo.den.g, .slice u.lo.den.a u.lo.den.n u.lo.den.c, .bool u.hi.num.g, .slice u.hi.num.a u.hi.num.n u.hi.num.c, .bool u.hi.den.g, .slice u.hi.den.a u.hi.den.n u.hi.den.c] 62)).alloc (.cells #[.bool false, .slice none 0 0, .bool false, .slice none 0 0, .bool false, .slice none 0 0, .bool false, .slice none 0 0] 62)) from ((((Below.refl _ _).alloc (by simp) _).alloc (by simp) _).alloc (by simp <;> omega) _))
    go_enter Try.func79, Try.ntmps79
    go_wp2_with fail
    refine (unhide GB _ ((unhide H1).later (unhide B0)) ((unhide H2).later (unhide B0))).mono ?_
    rintro e w1 ⟨rfl, hb⟩
    have s1 : w.heap.size + 1 + 1 < w1.heap.size := by have := hb.size; simp at this; omega
    have k0_0 : w1.cell? ⟨w.heap.size, 0, none⟩ = some (.bool v.lo.num.g) := cell_later hb (by simp [go_sem])
    have k0_1 : w1.cell? ⟨w.heap.size, 1, none⟩ = some (.slice v.lo.num.a v.lo.num.n v.lo.num.c) := cell_later hb (by simp [go_sem])
    have k0_2 : w1.cell? ⟨w.heap.size, 2, none⟩ = some (.bool v.lo.den.g) := cell_later hb (by simp [go_sem])
    have k0_3 : w1.cell? ⟨w.heap.size, 3, none⟩ = some (.slice v.lo.den.a v.lo.den.n v.lo.den.c) := cell_later hb (by simp [go_sem])
    have k0_4 : w1.cell? ⟨w.heap.size, 4, none⟩ = some (.bool v.hi.num.g) := cell_later hb (by simp [go_sem])
    have k0_5 : w1.cell? ⟨w.heap.size, 5, none⟩ = some (.slice v.hi.num.a v.hi.num.n v.hi.num.c) := cell_later hb (by simp [go_sem])
    have k0_6 : w1.cell? ⟨w.heap.size, 6, none⟩ = some (.bool v.hi.den.g) := cell_later hb (by simp [go_sem])
    have k0_7 : w1.cell? ⟨w.heap.size, 7, none⟩ = some (.slice v.hi.den.a v.hi.den.n v.hi.den.c) := cell_later hb (by simp [go_sem])
    have k1_0 : w1.cell? ⟨w.heap.size + 1, 0, none⟩ = some (.bool u.lo.num.g) := cell_later hb (by simp [go_sem])
    have k1_1 : w1.cell? ⟨w.heap.size + 1, 1, none⟩ = some (.slice u.lo.num.a u.lo.num.n u.lo.num.c) := cell_later hb (by simp [go_sem])
    have k1_2 : w1.cell? ⟨w.heap.size + 1, 2, none⟩ = some (.bool u.lo.den.g) := cell_later hb (by simp [go_sem])
    have k1_3 : w1.cell? ⟨w.heap.size + 1, 3, none⟩ = some (.slice u.lo.den.a u.lo.den.n u.lo.den.c) := cell_later hb (by simp [go_sem])
    have k1_4 : w1.cell? ⟨w.heap.size + 1, 4, none⟩ = some (.bool u.hi.num.g) := cell_later hb (by simp [go_sem])
    have k1_5 : w1.cell? ⟨w.heap.size + 1, 5, none⟩ = some (.slice u.hi.num.a u.hi.num.n u.hi.num.c) := cell_later hb (by simp [go_sem])
    have k1_6 : w1.cell? ⟨w.heap.size + 1, 6, none⟩ = some (.bool u.hi.den.g) := cell_later hb (by simp [go_sem])
    have k1_7 : w1.cell? ⟨w.heap.size + 1, 7, none⟩ = some (.slice u.hi.den.a u.hi.den.n u.hi.den.c) := cell_later hb (by simp [go_sem])
    have k2_0 : w1.cell? ⟨w.heap.size + 1 + 1, 0, none⟩ = some (.bool false) := cell_later hb (by simp [go_sem])
    have k2_1 : w1.cell? ⟨w.heap.size + 1 + 1, 1, none⟩ = some (.slice none 0 0) := cell_later hb (by simp [go_sem])
    have k2_2 : w1.cell? ⟨w.heap.size + 1 + 1, 2, none⟩ = some (.bool false) := cell_later hb (by simp [go_sem])
    have k2_3 : w1.cell? ⟨w.heap.size + 1 + 1, 3, none⟩ = some (.slice none 0 0) := cell_later hb (by simp [go_sem])
    have k2_4 : w1.cell? ⟨w.heap.size + 1 + 1, 4, none⟩ = some (.bool false) := cell_later hb (by simp [go_sem])
    have k2_5 : w1.cell? ⟨w.heap.size + 1 + 1, 5, none⟩ = some (.slice none 0 0) := cell_later hb (by simp [go_sem])
    have k2_6 : w1.cell? ⟨w.heap.size + 1 + 1, 6, none⟩ = some (.bool false) := cell_later hb (by simp [go_sem])
    have k2_7 : w1.cell? ⟨w.heap.size + 1 + 1, 7, none⟩ = some (.slice none 0 0) := cell_later hb (by simp [go_sem])
    have z2 : ∀ o, w1.frozen? ⟨w.heap.size + 1 + 1, o, none⟩ = false := fun o => frozen_later hb (by simp) (by simp [go_sem])
    have HB := hide (below_on (unhide B0) hb)
    clear hb
    have S1 := hide ((unhide J1).later (unhide HB))
    have S2 := hide ((unhide J2).later (unhide HB))
    have k0_0u : (w1.alloc (.cells #[.bool v.lo.num.g, .slice v.lo.num.a v.lo.num.n v.lo.num.c, .bool v.lo.den.g, .slice v.lo.den.a v.lo.den.n v.lo.den.c, .bool v.hi.num.g, .slice v.hi.num.a v.hi.num.n v.hi.num.c, .bool v.hi.den.g, .slice v.hi.den.a v.hi.den.n v.hi.den.c, .bool u.lo.num.g, .slice u.lo.num.a u.lo.num.n u.lo.num.c, .bool u.lo.den.g, .slice u.lo.den.a u.lo.den.n u.lo.den.c, .bool u.hi.num.g, .slice u.hi.num.a u.hi.num.n u.hi.num.c, .bool u.hi.den.g, .slice u.hi.den.a u.hi.den.n u.hi.den.c] 31)).cell? ⟨w.heap.size, 0, none⟩ = some (.bool v.lo.num.g) := (ca_other k0_0)
    have k0_1u : (w1.alloc (.cells #[.bool v.lo.num.g, .slice v.lo.num.a v.lo.num.n v.lo.num.c, .bool v.lo.den.g, .slice v.lo.den.a v.lo.den.n v.lo.den.c, .bool v.hi.num.g, .slice v.hi.num.a v.hi.num.n v.hi.num.c, .bool v.hi.den.g, .slice v.hi.den.a v.hi.den.n v.hi.den.c, .bool u.lo.num.g, .slice u.lo.num.a u.lo.num.n u.lo.num.c, .bool u.lo.den.g, .slice u.lo.den.a u.lo.den.n u.lo.den.c, .bool u.hi.num.g, .slice u.hi.num.a u.hi.num.n u.hi.num.c, .bool u.hi.den.g, .slice u.hi.den.a u.hi.den.n u.hi.den.c] 31)).cell? ⟨w.heap.size, 1, none⟩ = some (.slice v.lo.num.a v.lo.num.n v.lo.num.c) := (ca_other k0_1)
    have k0_2u : (w1.alloc (.cells #[.bool v.lo.num.g, .slice v.lo.num.a v.lo.num.n v.lo.num.c, .bool v.lo.den.g, .slice v.lo.den.a v.lo.den.n v.lo.den.c, .bool v.hi.num.g, .slice v.hi.num.a v.hi.num.n v.hi.num.c, .bool v.hi.den.g, .slice v.hi.den.a v.hi.den.n v.hi.den.c, .bool u.lo.num.g, .slice u.lo.num.a u.lo.num.n u.lo.num.c, .bool u.lo.den.g, .slice u.lo.den.a u.lo.den.n u.lo.den.c, .bool u.hi.num.g, .slice u.hi.num.a u.hi.num.n u.hi.num.c, .bool u.hi.den.g, .slice u.hi.den.a u.hi.den.n u.hi.den.c] 31)).cell? ⟨w.heap.size, 2, none⟩ = some (.bool v.lo.den.g) := (ca_other k0_2)
    have k0_3u : (w1.alloc (.cells #[.bool v.lo.num.g, .slice v.lo.num.a v.lo.num.n v.lo.num.c, .bool v.lo.den.g, .slice v.lo.den.a v.lo.den.n v.lo.den.c, .bool v.hi.num.g, .slice v.hi.num.a v.hi.num.n v.hi.num.c, .bool v.hi.den.g, .slice v.hi.den.a v.hi.den.n v.hi.den.c, .bool u.lo.num.g, .slice u.lo.num.a u.lo.num.n u.lo.num.c, .bool u.lo.den.g, .slice u.lo.den.a u.lo.den.n u.lo.den.c, .bool u.hi.num.g, .slice u.hi.num.a u.hi.num.n u.hi.num.c, .bool u.hi.den.g, .slice u.hi.den.a u.hi.den.n u.hi.den.c] 31)).cell? ⟨w.heap.size, 3, none⟩ = some (.slice v.lo.den.a v.lo.den.n v.lo.den.c) := (ca_other k0_3)
    have k0_4u : (w1.alloc (.cells #[.bool v.lo.num.g, .slice v.lo.num.a v.lo.num.n v.lo.num.c, .bool v.lo.den.g, .slice v.lo.den.a v.lo.den.n v.lo.den.c, .bool v.hi.num.g, .slice v.hi.num.a v.hi.num.n v.hi.num.c, .bool v.hi.den.g, .slice v.hi.den.a v.hi.den.n v.hi.den.c, .bool u.lo.num.g, .slice u.lo.num.a u.lo.num.n u.lo.num.c, .bool u.lo.den.g, .slice u.lo.den.a u.lo.den.n u.lo.den.c, .bool u.hi.num.g, .slice u.hi.num.a u.hi.num.n u.hi.num.c, .bool u.hi.den.g, .slice u.hi.den.a u.hi.den.n u.hi.den.c] 31)).cell? ⟨w.heap.size, 4, none⟩ = some (.bool v.hi.num.g) := (ca_other k0_4)
    have k0_5u : (w1.alloc (.cells #[.bool v.lo.num.g, .slice v.lo.num.a v.lo.num.n v.lo.num.c, .bool v.lo.den.g, .slice v.lo.den.a v.lo.den.n v.lo.den.c, .bool v.hi.num.g, .slice v.hi.num.a v.hi.num.n v.hi.num.c, .bool v.hi.den.g, .slice v.hi.den.a v.hi.den.n v.hi.den.c, .bool u.lo.num.g, .slice u.lo.num.a u.lo.num.n u.lo.num.c, .bool u.lo.den.g, .slice u.lo.den.a u.lo.den.n u.lo.den.c, .bool u.hi.num.g, .slice u.hi.num.a u.hi.num.n u.hi.num.c, .bool u.hi.den.g, .slice u.hi.den.a u.hi.den.n u.hi.den.c] 31)).cell? ⟨w.heap.size, 5, none⟩ = some (.slice v.hi.num.a v.hi.num.n v.hi.num.c) := (ca_other k0_5)
    have k0_6u : (w1.alloc (.cells #[.bool v.lo.num.g, .slice v.lo.num.a v.lo.num.n v.lo.num.c, .bool v.lo.den.g, .slice v.lo.den.a v.lo.den.n v.lo.den.c, .bool v.hi.num.g, .slice v.hi.num.a v.hi.num.n v.hi.num.c, .bool v.hi.den.g, .slice v.hi.den.a v.hi.den.n v.hi.den.c, .bool u.lo.num.g, .slice u.lo.num.a u.lo.num.n u.lo.num.c, .bool u.lo.den.g, .slice u.lo.den.a u.lo.den.n u.lo.den.c, .bool u.hi.num.g, .slice u.hi.num.a u.hi.num.n u.hi.num.c, .bool u.hi.den.g, .slice u.hi.den.a u.hi.den.n u.hi.den.c] 31)).cell? ⟨w.heap.size, 6, none⟩ = some (.bool v.hi.den.g) := (ca_other k0_6)
    have k0_7u : (w1.alloc (.cells #[.bool v.lo.num.g, .slice v.lo.num.a v.lo.num.n v.lo.num.c, .bool v.lo.den.g, .slice v.lo.den.a v.lo.den.n v.lo.den.c, .bool v.hi.num.g, .slice v.hi.num.a v.hi.num.n v.hi.num.c, .bool v.hi.den.g, .slice v.hi.den.a v.hi.den.n v.hi.den.c, .bool u.lo.num.g, .slice u.lo.num.a u.lo.num.n u.lo.num.c, .bool u.lo.den.g, .slice u.lo.den.a u.lo.den.n u.lo.den.c, .bool u.hi.num.g, .slice u.hi.num.a u.hi.num.n u.hi.num.c, .bool u.hi.den.g, .slice u.hi.den.a u.hi.den.n u.hi.den.c] 31)).cell? ⟨w.heap.size, 7, none⟩ = some (.slice v.hi.den.a v.hi.den.n v.hi.den.c) := (ca_other k0_7)
    have k1_0u : (w1.alloc (.cells #[.bool v.lo.num.g, .slice v.lo.num.a v.lo.num.n v.lo.num.c, .bool v.lo.den.g, .slice v.lo.den.a v.lo.den.n v.lo.den.c, .bool v.hi.num.g, .slice v.hi.num.a v.hi.num.n v.hi.num.c, .bool v.hi.den.g, .slice v.hi.den.a v.hi.den.n v.hi.den.c, .bool u.lo.num.g, .slice u.lo.num.a u.lo.num.n u.lo.num.c, .bool u.lo.den.g, .slice u.lo.den.a u.lo.den.n u.lo.den.c, .bool u.hi.num.g, .slice u.hi.num.a u.hi.num.n u.hi.num.c, .bool u.hi.den.g, .slice u.hi.den.a u.hi.den.n u.hi.den.c] 31)).cell? ⟨w.heap.size + 1, 0, none⟩ = some (.bool u.lo.num.g) := (ca_other k1_0)
    have k1_1u : (w1.alloc (.cells #[.bool v.lo.num.g, .slice v.lo.num.a v.lo.num.n v.lo.num.c, .bool v.lo.den.g, .slice v.lo.den.a v.lo.den.n v.lo.den.c, .bool v.hi.num.g, .slice v.hi.num.a v.hi.num.n v.hi.num.c, .bool v.hi.den.g, .slice v.hi.den.a v.hi.den.n v.hi.den.c, .bool u.lo.num.g, .slice u.lo.num.a u.lo.num.n u.lo.num.c, .bool u.lo.den.g, .slice u.lo.den.a u.lo.den.n u.lo.den.c, .bool u.hi.num.g, .slice u.hi.num.a u.hi.num.n u.hi.num.c, .bool u.hi.den.g, .slice u.hi.den.a u.hi.den.n u.hi.den.c] 31)).cell? ⟨w.heap.size + 1, 1, none⟩ = some (.slice u.lo.num.a u.lo.num.n u.lo.num.c) := (ca_other k1_1)
    have k1_2u : (w1.alloc (.cells #[.bool v.lo.num.g, .slice v.lo.num.a v.lo.num.n v.lo.num.c, .bool v.lo.den.g, .slice v.lo.den.a v.lo.den.n v.lo.den.c, .bool v.hi.num.g, .slice v.hi.num.a v.hi.num.n v.hi.num.c, .bool v.hi.den.g, .slice v.hi.den.a v.hi.den.n v.hi.den.c, .bool u.lo.num.g, .slice u.lo.num.a u.lo.num.n u.lo.num.c, .bool u.lo.den.g, .slice u.lo.den.a u.lo.den.n u.lo.den.c, .bool u.hi.num.g, .slice u.hi.num.a u.hi.num.n u.hi.num.c, .bool u.hi.den.g, .slice u.hi.den.a u.hi.den.n u.hi.den.c] 31)).cell? ⟨w.heap.size + 1, 2, none⟩ = some (.bool u.lo.den.g) := (ca_other k1_2)
    have k1_3u : (w1.alloc (.cells #[.bool v.lo.num.g, .slice v.lo.num.a v.lo.num.n v.lo.num.c, .bool v.lo.den.g, .slice v.lo.den.a v.lo.den.n v.lo.den.c, .bool v.hi.num.g, .slice v.hi.num.a v.hi.num.n v.hi.num.c, .bool v.hi.den.g, .slice v.hi.den.a v.hi.den.n v.hi.den.c, .bool u.lo.num.g, .slice u.lo.num.a u.lo.num.n u.lo.num.c, .bool u.lo.den.g, .slice u.lo.den.a u.lo.den.n u.lo.den.c, .bool u.hi.num.g, .slice u.hi.num.a u.hi.num.n u.hi.num.c, .bool u.hi.den.g, .slice u.hi.den.a u.hi.den.n u.hi.den.c] 31)).cell? ⟨w.heap.size + 1, 3, none⟩ = some (.slice u.lo.den.a u.lo.den.n u.lo.den.c) := (ca_other k1_3)
    have k1_4u : (w1.alloc (.cells #[.bool v.lo.num.g, .slice v.lo.num.a v.lo.num.n v.lo.num.c, .bool v.lo.den.g, .slice v.lo.den.a v.lo.den.n v.lo.den.c, .bool v.hi.num.g, .slice v.hi.num.a v.hi.num.n v.hi.num.c, .bool v.hi.den.g, .slice v.hi.den.a v.hi.den.n v.hi.den.c, .bool u.lo.num.g, .slice u.lo.num.a u.lo.num.n u.lo.num.c, .bool u.lo.den.g, .slice u.lo.den.a u.lo.den.n u.lo.den.c, .bool u.hi.num.g, .slice u.hi.num.a u.hi.num.n u.hi.num.c, .bool u.hi.den.g, .slice u.hi.den.a u.hi.den.n u.hi.den.c] 31)).cell? ⟨w.heap.size + 1, 4, none⟩ = some (.bool u.hi.num.g) := (ca_other k1_4)
    have k1_5u : (w1.alloc (.cells #[.bool v.lo.num.g, .slice v.lo.num.a v.lo.num.n v.lo.num.c, .bool v.lo.den.g, .slice v.lo.den.a v.lo.den.n v.lo.den.c, .bool v.hi.num.g, .slice v.hi.num.a v.hi.num.n v.hi.num.c, .bool v.hi.den.g, .slice v.hi.den.a v.hi.den.n v.hi.den.c, .bool u.lo.num.g, .slice u.lo.num.a u.lo.num.n u.lo.num.c, .bool u.lo.den.g, .slice u.lo.den.a u.lo.den.n u.lo.den.c, .bool u.hi.num.g, .slice u.hi.num.a u.hi.num.n u.hi.num.c, .bool u.hi.den.g, .slice u.hi.den.a u.hi.den.n u.hi.den.c] 31)).cell? ⟨w.heap.size + 1, 5, none⟩ = some (.slice u.hi.num.a u.hi.num.n u.hi.num.c) := (ca_other k1_5)
    have k1_6u : (w1.alloc (.cells #[.bool v.lo.num.g, .slice v.lo.num.a v.lo.num.n v.lo.num.c, .bool v.lo.den.g, .slice v.lo.den.a v.lo.den.n v.lo.den.c, .bool v.hi.num.g, .slice v.hi.num.a v.hi.num.n v.hi.num.c, .bool v.hi.den.g, .slice v.hi.den.a v.hi.den.n v.hi.den.c, .bool u.lo.num.g, .slice u.lo.num.a u.lo.num.n u.lo.num.c, .bool u.lo.den.g, .slice u.lo.den.a u.lo.den.n u.lo.den.c, .bool u.hi.num.g, .slice u.hi.num.a u.hi.num.n u.hi.num.c, .bool u.hi.den.g, .slice u.hi.den.a u.hi.den.n u.hi.den.c] 31)).cell? ⟨w.heap.size + 1, 6, none⟩ = some (.bool u.hi.den.g) := (ca_other k1_6)
    have k1_7u : (w1.alloc (.cells #[.bool v.lo.num.g, .slice v.lo.num.a v.lo.num.n v.lo.num.c, .bool v.lo.den.g, .slice v.lo.den.a v.lo.den.n v.lo.den.c, .bool v.hi.num.g, .slice v.hi.num.a v.hi.num.n v.hi.num.c, .bool v.hi.den.g, .slice v.hi.den.a v.hi.den.n v.hi.den.c, .bool u.lo.num.g, .slice u.lo.num.a u.lo.num.n u.lo.num.c, .bool u.lo.den.g, .slice u.lo.den.a u.lo.den.n u.lo.den.c, .bool u.hi.num.g, .slice u.hi.num.a u.hi.num.n u.hi.num.c, .bool u.hi.den.g, .slice u.hi.den.a u.hi.den.n u.hi.den.c] 31)).cell? ⟨w.heap.size + 1, 7, none⟩ = some (.slice u.hi.den.a u.hi.den.n u.hi.den.c) := (ca_other k1_7)
    have k2_0u : (w1.alloc (.cells #[.bool v.lo.num.g, .slice v.lo.num.a v.lo.num.n v.lo.num.c, .bool v.lo.den.g, .slice v.lo.den.a v.lo.den.n v.lo.den.c, .bool v.hi.num.g, .slice v.hi.num.a v.hi.num.n v.hi.num.c, .bool v.hi.den.g, .slice v.hi.den.a v.hi.den.n v.hi.den.c, .bool u.lo.num.g, .slice u.lo.num.a u.lo.num.n u.lo.num.c, .bool u.lo.den.g, .slice u.lo.den.a u.lo.den.n u.lo.den.c, .bool u.hi.num.g, .slice u.hi.num.a u.hi.num.n u.hi.num.c, .bool u.hi.den.g, .slice u.hi.den.a u.hi.den.n u.hi.den.c] 31)).cell? ⟨w.heap.size + 1 + 1, 0, none⟩ = some (.bool false) := (ca_other k2_0)
    have k2_1u : (w1.alloc (.cells #[.bool v.lo.num.g, .slice v.lo.num.a v.lo.num.n v.lo.num.c, .bool v.lo.den.g, .slice v.lo.den.a v.lo.den.n v.lo.den.c, .bool v.hi.num.g, .slice v.hi.num.a v.hi.num.n v.hi.num.c, .bool v.hi.den.g, .slice v.hi.den.a v.hi.den.n v.hi.den.c, .bool u.lo.num.g, .slice u.lo.num.a u.lo.num.n u.lo.num.c, .bool u.lo.den.g, .slice u.lo.den.a u.lo.den.n u.lo.den.c, .bool u.hi.num.g, .slice u.hi.num.a u.hi.num.n u.hi.num.c, .bool u.hi.den.g, .slice u.hi.den.a u.hi.den.n u.hi.den.c] 31)).cell? ⟨w.heap.size + 1 + 1, 1, none⟩ = some (.slice none 0 0) := (ca_other k2_1)
    have k2_2u : (w1.alloc (.cells #[.bool v.lo.num.g, .slice v.lo.num.a v.lo.num.n v.lo.num.c, .bool v.lo.den.g, .slice v.lo.den.a v.lo.den.n v.lo.den.c, .bool v.hi.num.g, .slice v.hi.num.a v.hi.num.n v.hi.num.c, .bool v.hi.den.g, .slice v.hi.den.a v.hi.den.n v.hi.den.c, .bool u.lo.num.g, .slice u.lo.num.a u.lo.num.n u.lo.num.c, .bool u.lo.den.g, .slice u.lo.den.a u.lo.den.n u.lo.den.c, .bool u.hi.num.g, .slice u.hi.num.a u.hi.num.n u.hi.num.c, .bool u.hi.den.g, .slice u.hi.den.a u.hi.den.n u.hi.den.c] 31)).cell? ⟨w.heap.size + 1 + 1, 2, none⟩ = some (.bool false) := (ca_other k2_2)
    have k2_3u : (w1.alloc (.cells #[.bool v.lo.num.g, .slice v.lo.num.a v.lo.num.n v.lo.num.c, .bool v.lo.den.g, .slice v.lo.den.a v.lo.den.n v.lo.den.c, .bool v.hi.num.g, .slice v.hi.num.a v.hi.num.n v.hi.num.c, .bool v.hi.den.g, .slice v.hi.den.a v.hi.den.n v.hi.den.c, .bool u.lo.num.g, .slice u.lo.num.a u.lo.num.n u.lo.num.c, .bool u.lo.den.g, .slice u.lo.den.a u.lo.den.n u.lo.den.c, .bool u.hi.num.g, .slice u.hi.num.a u.hi.num.n u.hi.num.c, .bool u.hi.den.g, .slice u.hi.den.a u.hi.den.n u.hi.den.c] 31)).cell? ⟨w.heap.size + 1 + 1, 3, none⟩ = some (.slice none 0 0) := (ca_other k2_3)
    have k2_4u : (w1.alloc (.cells #[.bool v.lo.num.g, .slice v.lo.num.a v.lo.num.n v.lo.num.c, .bool v.lo.den.g, .slice v.lo.den.a v.lo.den.n v.lo.den.c, .bool v.hi.num.g, .slice v.hi.num.a v.hi.num.n v.hi.num.c, .bool v.hi.den.g, .slice v.hi.den.a v.hi.den.n v.hi.den.c, .bool u.lo.num.g, .slice u.lo.num.a u.lo.num.n u.lo.num.c, .bool u.lo.den.g, .slice u.lo.den.a u.lo.den.n u.lo.den.c, .bool u.hi.num.g, .slice u.hi.num.a u.hi.num.n u.hi.num.c, .bool u.hi.den.g, .slice u.hi.den.a u.hi.den.n u.hi.den.c] 31)).cell? ⟨w.heap.size + 1 + 1, 4, none⟩ = some (.bool false) := (ca_other k2_4)
    have k2_5u : (w1.alloc (.cells #[.bool v.lo.num.g, .slice v.lo.num.a v.lo.num.n v.lo.num.c, .bool v.lo.den.g, .slice v.lo.den.a v.lo.den.n v.lo.den.c, .bool v.hi.num.g, .slice v.hi.num.a v.hi.num.n v.hi.num.c, .bool v.hi.den.g, .slice v.hi.den.a v.hi.den.n v.hi.den.c, .bool u.lo.num.g, .slice u.lo.num.a u.lo.num.n u.lo.num.c, .bool u.lo.den.g, .slice u.lo.den.a u.lo.den.n u.lo.den.c, .bool u.hi.num.g, .slice u.hi.num.a u.hi.num.n u.hi.num.c, .bool u.hi.den.g, .slice u.hi.den.a u.hi.den.n u.hi.den.c] 31)).cell? ⟨w.heap.size + 1 + 1, 5, none⟩ = some (.slice none 0 0) := (ca_other k2_5)
    have k2_6u : (w1.alloc (.cells #[.bool v.lo.num.g, .slice v.lo.num.a v.lo.num.n v.lo.num.c, .bool v.lo.den.g, .slice v.lo.den.a v.lo.den.n v.lo.den.c, .bool v.hi.num.g, .slice v.hi.num.a v.hi.num.n v.hi.num.c, .bool v.hi.den.g, .slice v.hi.den.a v.hi.den.n v.hi.den.c, .bool u.lo.num.g, .slice u.lo.num.a u.lo.num.n u.lo.num.c, .bool u.lo.den.g, .slice u.lo.den.a u.lo.den.n u.lo.den.c, .bool u.hi.num.g, .slice u.hi.num.a u.hi.num.n u.hi.num.c, .bool u.hi.den.g, .slice u.hi.den.a u.hi.den.n u.hi.den.c] 31)).cell? ⟨w.heap.size + 1 + 1, 6, none⟩ = some (.bool false) := (ca_other k2_6)
    have k2_7u : (w1.alloc (.cells #[.bool v.lo.num.g, .slice v.lo.num.a v.lo.num.n v.lo.num.c, .bool v.lo.den.g, .slice v.lo.den.a v.lo.den.n v.lo.den.c, .bool v.hi.num.g, .slice v.hi.num.a v.hi.num.n v.hi.num.c, .bool v.hi.den.g, .slice v.hi.den.a v.hi.den.n v.hi.den.c, .bool u.lo.num.g, .slice u.lo.num.a u.lo.num.n u.lo.num.c, .bool u.lo.den.g, .slice u.lo.den.a u.lo.den.n u.lo.den.c, .bool u.hi.num.g, .slice u.hi.num.a u.hi.num.n u.hi.num.c, .bool u.hi.den.g, .slice u.hi.den.a u.hi.den.n u.hi.den.c] 31)).cell? ⟨w.heap.size + 1 + 1, 7, none⟩ = some (.slice none 0 0) := (ca_other k2_7)
    go_wp2_with fail
    refine (l3Of_v ⟨v.lo, nQ d.lo, dQ d.lo⟩ w1.heap.size 0 4 4 [⟨v.lo, nQ d.lo, dQ d.lo⟩, ⟨v.hi, nQ d.hi, dQ d.hi⟩, ⟨u.lo, nQ e.lo, dQ e.lo⟩, ⟨u.hi, nQ e.hi, dQ e.hi⟩] _ ((unhide S1).lo.rq.later ((Below.refl _ _).alloc (by simp) _)) (rats_4 (r1 := ⟨v.lo, nQ d.lo, dQ d.lo⟩) (r2 := ⟨v.hi, nQ d.hi, dQ d.hi⟩) (r3 := ⟨u.lo, nQ e.lo, dQ e.lo⟩) (r4 := ⟨u.hi, nQ e.hi, dQ e.hi⟩) (unhide S1).lo.rq (unhide S1).hi.rq (unhide S2).lo.rq (unhide S2).hi.rq) rfl (by omega) (by omega) (by simp [go_sem])).mono ?_
    rintro e w2 ⟨r, rfl, hb, i1, i2⟩
    clear k0_0u k0_1u k0_2u k0_3u k0_4u k0_5u k0_6u k0_7u k1_0u k1_1u k1_2u k1_3u k1_4u k1_5u k1_6u k1_7u k2_0u k2_1u k2_2u k2_3u k2_4u k2_5u k2_6u k2_7u
    have s2 : w1.heap.size ≤ w2.heap.size := by have := hb.size; simp at this; omega
    have f1 := fold_lo ([⟨v.lo, nQ d.lo, dQ d.lo⟩, ⟨v.hi, nQ d.hi, dQ d.hi⟩, ⟨u.lo, nQ e.lo, dQ e.lo⟩, ⟨u.hi, nQ e.hi, dQ e.hi⟩] : List RQ) (⟨v.lo, nQ d.lo, dQ d.lo⟩ : RQ)
    have f2 := fold_hi ([⟨v.lo, nQ d.lo, dQ d.lo⟩, ⟨v.hi, nQ d.hi, dQ d.hi⟩, ⟨u.lo, nQ e.lo, dQ e.lo⟩, ⟨u.hi, nQ e.hi, dQ e.hi⟩] : List RQ) (⟨v.lo, nQ d.lo, dQ d.lo⟩ : RQ)
    have g1 : (([⟨v.lo, nQ d.lo, dQ d.lo⟩, ⟨v.hi, nQ d.hi, dQ d.hi⟩, ⟨u.lo, nQ e.lo, dQ e.lo⟩, ⟨u.hi, nQ e.hi, dQ e.hi⟩] : List RQ).map RQ.p).foldl pLo ((⟨v.lo, nQ d.lo, dQ d.lo⟩ : RQ).p) = jLo d e := by show List.foldl pLo (pLo (qp d.lo) (qp d.lo)) [qp d.hi, qp e.lo, qp e.hi] = _; rw [pLo_self]; rfl
    have g2 : (([⟨v.lo, nQ d.lo, dQ d.lo⟩, ⟨v.hi, nQ d.hi, dQ d.hi⟩, ⟨u.lo, nQ e.lo, dQ e.lo⟩, ⟨u.hi, nQ e.hi, dQ e.hi⟩] : List RQ).map RQ.p).foldl pHi ((⟨v.lo, nQ d.lo, dQ d.lo⟩ : RQ).p) = jHi d e := by show List.foldl pHi (pHi (qp d.lo) (qp d.lo)) [qp d.hi, qp e.lo, qp e.hi] = _; rw [pHi_self]; rfl
    have e1 : (List.foldl stLo (⟨v.lo, nQ d.lo, dQ d.lo⟩ : RQ) [⟨v.lo, nQ d.lo, dQ d.lo⟩, ⟨v.hi, nQ d.hi, dQ d.hi⟩, ⟨u.lo, nQ e.lo, dQ e.lo⟩, ⟨u.hi, nQ e.hi, dQ e.hi⟩]).N = (jLo d e).1 := congrArg Prod.fst (f1.trans g1)
    have e2 : (List.foldl stLo (⟨v.lo, nQ d.lo, dQ d.lo⟩ : RQ) [⟨v.lo, nQ d.lo, dQ d.lo⟩, ⟨v.hi, nQ d.hi, dQ d.hi⟩, ⟨u.lo, nQ e.lo, dQ e.lo⟩, ⟨u.hi, nQ e.hi, dQ e.hi⟩]).D = (jLo d e).2 := congrArg Prod.snd (f1.trans g1)
    have e3 : (List.foldl stHi (⟨v.lo, nQ d.lo, dQ d.lo⟩ : RQ) [⟨v.lo, nQ d.lo, dQ d.lo⟩, ⟨v.hi, nQ d.hi, dQ d.hi⟩, ⟨u.lo, nQ e.lo, dQ e.lo⟩, ⟨u.hi, nQ e.hi, dQ e.hi⟩]).N = (jHi d e).1 := congrArg Prod.fst (f2.trans g2)
    have e4 : (List.foldl stHi (⟨v.lo, nQ d.lo, dQ d.lo⟩ : RQ) [⟨v.lo, nQ d.lo, dQ d.lo⟩, ⟨v.hi, nQ d.hi, dQ d.hi⟩, ⟨u.lo, nQ e.lo, dQ e.lo⟩, ⟨u.hi, nQ e.hi, dQ e.hi⟩]).D = (jHi d e).2 := congrArg Prod.snd (f2.trans g2)
    rw [e1, e2] at i1
    rw [e3, e4] at i2
    clear e1 e2 e3 e4 f1 f2 g1 g2
    have hbx := ba (hb)
    replace z2 := fun o => frozen_later hbx (World.block_lt_of_cell? _ _ k2_0) (z2 o)
    replace k2_0 := cell_later hbx k2_0
    replace k2_1 := cell_later hbx k2_1
    replace k2_2 := cell_later hbx k2_2
    replace k2_3 := cell_later hbx k2_3
    replace k2_4 := cell_later hbx k2_4
    replace k2_5 := cell_later hbx k2_5
    replace k2_6 := cell_later hbx k2_6
    replace k2_7 := cell_later hbx k2_7
    clear k0_0 k0_1 k0_2 k0_3 k0_4 k0_5 k0_6 k0_7 k1_0 k1_1 k1_2 k1_3 k1_4 k1_5 k1_6 k1_7
    replace S1 := hide ((unhide S1).later hbx)
    replace S2 := hide ((unhide S2).later hbx)
    have I1 := hide (i1)
    have I2 := hide (i2)
    replace HB := hide (below_on (unhide HB) hbx)
    clear hbx hb
    clear i1 i2
    go_wp2_with fail
    refine (fitsSS r _ _ _ _ _ (unhide I1) (unhide I2) (unhide NZ).1 (unhide NZ).2).mono ?_
    rintro e w4 ⟨r2, dr, ok, rfl, hb, ov, hu⟩
    have s4 := hb.size
    have UU := hide hu
    replace z2 := fun o => frozen_later hb (World.block_lt_of_cell? _ _ k2_0) (z2 o)
    replace k2_0 := cell_later hb k2_0
    replace k2_1 := cell_later hb k2_1
    replace k2_2 := cell_later hb k2_2
    replace k2_3 := cell_later hb k2_3
    replace k2_4 := cell_later hb k2_4
    replace k2_5 := cell_later hb k2_5
    replace k2_6 := cell_later hb k2_6
    replace k2_7 := cell_later hb k2_7
    replace S1 := hide ((unhide S1).later hb)
    replace S2 := hide ((unhide S2).later hb)
    replace I1 := hide ((unhide I1).later hb)
    replace I2 := hide ((unhide I2).later hb)
    have OV := hide (ov)
    replace HB := hide (below_on (unhide HB) hb)
    clear hb
    clear ov hu
    go_wp2
    refine bodyPost_ret (v := .tuple #[.agg #[.bool r2.lo.num.g, .slice r2.lo.num.a r2.lo.num.n r2.lo.num.c, .bool r2.lo.den.g, .slice r2.lo.den.a r2.lo.den.n r2.lo.den.c, .bool r2.hi.num.g, .slice r2.hi.num.a r2.hi.num.n r2.hi.num.c, .bool r2.hi.den.g, .slice r2.hi.den.a r2.hi.den.n r2.hi.den.c], .bool ok]) (by simp [results, Try.results79, go_sem, k2_0, k2_1, k2_2, k2_3, k2_4, k2_5, k2_6, k2_7]) rfl ?_
    exact retS_fin (v := r2) (d := dr) (R := w.heap.size + 1 + 1) (by omega) (unhide HB) (metS_but (w5 := w4) (v := r2) (G := w.heap.size + 1 + 1)) ((unhide OV).wide (by omega) (by omega)) (unhide UU)
end Go.Proofs.Ytgekkmibddfakaa
namespace Go.Proofs.Ytgekkmibddfakaa
open Go.RowKit
set_option linter.unusedVariables false
set_option maxRecDepth 100000
set_option linter.unusedSimpArgs false

def mp (a b : QD) : Int × Int := (lowN (nQ a * nQ b) (dQ a * dQ b), lowD (nQ a * nQ b) (dQ a * dQ b))
def mLo (d e : SD) : Int × Int := [mp d.lo e.hi, mp d.hi e.lo, mp d.hi e.hi].foldl pLo (mp d.lo e.lo)
def mHi (d e : SD) : Int × Int := [mp d.lo e.hi, mp d.hi e.lo, mp d.hi e.hi].foldl pHi (mp d.lo e.lo)
theorem mPos {w : World} {v u : SV} {d e : SD} (h : IsGoodS w v d) (k : IsGoodS w u e) : 0 < (mLo d e).2 ∧ 0 < (mHi d e).2 := by
  have p : ∀ {w : World} {q r : QV} {a b : QD}, IsGood w q a → IsGood w r b → 0 < (mp a b).2 := fun ha hb => lowD_pos (Int.mul_ne_zero (by have := ha.pos; omega) (by have := hb.pos; omega))
  have := fold_pos [mp d.lo e.hi, mp d.hi e.lo, mp d.hi e.hi] (by
    intro y hy
    simp at hy
    rcases hy with rfl | rfl | rfl
    · exact p h.lo k.hi
    · exact p h.hi k.lo
    · exact p h.hi k.hi) (mp d.lo e.lo) (p h.lo k.lo)
  exact this
/-- The bounds of a product in lowest terms. -/
theorem mBd {w : World} {q r : QV} {a b : QD} (ha : IsGood w q a) (hb : IsGood w r b) : Bd (lowN (nQ a * nQ b) (dQ a * dQ b)) 200000 ∧ Bd (lowD (nQ a * nQ b) (dQ a * dQ b)) 200000 :=
  ⟨lowN_bd ((ha.kn.mul hb.kn).mono (by omega)), lowD_bd ((ha.kd.mul hb.kd).mono (by omega))⟩
theorem mNz {w : World} {q r : QV} {a b : QD} (ha : IsGood w q a) (hb : IsGood w r b) : dQ a * dQ b ≠ 0 := Int.mul_ne_zero (by have := ha.pos; omega) (by have := hb.pos; omega)

set_option maxHeartbeats 8000000 in
theorem mulSpans_v (v u : SV) (d e : SD) (w : World) (j1 : IsGoodS w v d) (j2 : IsGoodS w u e) :
    Calls Try.prog 144 #[.agg #[.bool v.lo.num.g, .slice v.lo.num.a v.lo.num.n v.lo.num.c, .bool v.lo.den.g, .slice v.lo.den.a v.lo.den.n v.lo.den.c, .bool v.hi.num.g, .slice v.hi.num.a v.hi.num.n v.hi.num.c, .bool v.hi.den.g, .slice v.hi.den.a v.hi.den.n v.hi.den.c], .agg #[.bool u.lo.num.g, .slice u.lo.num.a u.lo.num.n u.lo.num.c, .bool u.lo.den.g, .slice u.lo.den.a u.lo.den.n u.lo.den.c, .bool u.hi.num.g, .slice u.hi.num.a u.hi.num.n u.hi.num.c, .bool u.hi.den.g, .slice u.hi.den.a u.hi.den.n u.hi.den.c]] w (OutS w (mLo d e).1 (mLo d e).2 (mHi d e).1 (mHi d e).2) := by
  have J1 := hide j1
  have J2 := hide j2
  clear j1 j2
  go_enter Try.func144, Try.ntmps144
  go_upto_region 1 with fail
  have hb : Below w.heap.size w (((w.alloc (.cells #[.bool v.lo.num.g, .slice v.lo.num.a v.lo.num.n v.lo.num.c, .bool v.lo.den.g, .slice v.lo.den.a v.lo.den.n v.lo.den.c, .bool v.hi.num.g, .slice v.hi.num.a v.hi.num.n v.hi.num.c, .bool v.hi.den.g, .slice v.hi.den.a v.hi.den.n v.hi.den.c] 62)).alloc (.cells #[.bool u.lo.num.g, .slice u.lo.num.a u.lo.num.n u.lo.num.c, .bool u.lo.den.g, .slice u.lo.den.a u.lo.den.n u.lo.den.c, .bool u.hi.num.g, .slice u.hi.num.a u.hi.num.n u.hi.num.c, .bool u.hi.den.g, .slice u.hi.den.a u.hi.den.n u.hi.den.c] 62)).alloc (.cells #[.bool false, .slice none 0 0, .bool false, .slice none 0 0, .bool false, .slice none 0 0, .bool false, .slice none 0 0] 62)) := ((((Below.refl _ _).alloc (by simp) _).alloc (by simp) _).alloc (by simp <;> omega) _)
  have k0_0 : (((w.alloc (.cells #[.bool v.lo.num.g, .slice v.lo.num.a v.lo.num.n v.lo.num.c, .bool v.lo.den.g, .slice v.lo.den.a v.lo.den.n v.lo.den.c, .bool v.hi.num.g, .slice v.hi.num.a v.hi.num.n v.hi.num.c, .bool v.hi.den.g, .slice v.hi.den.a v.hi.den.n v.hi.den.c] 62)).alloc (.cells #[.bool u.lo.num.g, .slice u.lo.num.a u.lo.num.n u.lo.num.c, .bool u.lo.den.g, .slice u.lo.den.a u.lo.den.n u.lo.den.c, .bool u.hi.num.g, .slice u.hi.num.a u.hi.num.n u.hi.num.c, .bool u.hi.den.g, .slice u.hi.den.a u.hi.den.n u.hi.den.c] 62)).alloc (.cells #[.bool false, .slice none 0 0, .bool false, .slice none 0 0, .bool false, .slice none 0 0, .bool false, .slice none 0 0] 62)).cell? ⟨w.heap.size, 0, none⟩ = some (.bool v.lo.num.g) := by simp [go_sem]
  have k0_1 : (((w.alloc (.cells #[.bool v.lo.num.g, .slice v.lo.num.a v.lo.num.n v.lo.num.c, .bool v.lo.den.g, .slice v.lo.den.a v.lo.den.n v.lo.den.c, .bool v.hi.num.g, .slice v.hi.num.a v.hi.num.n v.hi.num.c, .bool v.hi.den.g, .slice v.hi.den.a v.hi.den.n v.hi.den.c] 62)).alloc (.cells #[.bool u.lo.num.g, .slice u.lo.num.a u.lo.num.n u.lo.num.c, .bool u.lo.den.g, .slice u.lo.den.a u.lo.den.n u.lo.den.c, .bool u.hi.num.g, .slice u.hi.num.a u.hi.num.n u.hi.num.c, .bool u.hi.den.g, .slice u.hi.den.a u.hi.den.n u.hi.den.c] 62)).alloc (.cells #[.bool false, .slice none 0 0, .bool false, .slice none 0 0, .bool false, .slice none 0 0, .bool false, .slice none 0 0] 62)).cell? ⟨w.heap.size, 1, none⟩ = some (.slice v.lo.num.a v.lo.num.n v.lo.num.c) := by simp [go_sem]
  have k0_2 : (((w.alloc (.cells #[.bool v.lo.num.g, .slice v.lo.num.a v.lo.num.n v.lo.num.c, .bool v.lo.den.g, .slice v.lo.den.a v.lo.den.n v.lo.den.c, .bool v.hi.num.g, .slice v.hi.num.a v.hi.num.n v.hi.num.c, .bool v.hi.den.g, .slice v.hi.den.a v.hi.den.n v.hi.den.c] 62)).alloc (.cells #[.bool u.lo.num.g, .slice u.lo.num.a u.lo.num.n u.lo.num.c, .bool u.lo.den.g, .slice u.lo.den.a u.lo.den.n u.lo.den.c, .bool u.hi.num.g, .slice u.hi.num.a u.hi.num.n u.hi.num.c, .bool u.hi.den.g, .slice u.hi.den.a u.hi.den.n u.hi.den.c] 62)).alloc (.cells #[.bool false, .slice none 0 0, .bool false, .slice none 0 0, .bool false, .slice none 0 0, .bool false, .slice none 0 0] 62)).cell? ⟨w.heap.size, 2, none⟩ = some (.bool v.lo.den.g) := by simp [go_sem]
  have k0_3 : (((w.alloc (.cells #[.bool v.lo.num.g, .slice v.lo.num.a v.lo.num.n v.lo.num.c, .bool v.lo.den.g, .slice v.lo.den.a v.lo.den.n v.lo.den.c, .bool v.hi.num.g, .slice v.hi.num.a v.hi.num.n v.hi.num.c, .bool v.hi.den.g, .slice v.hi.den.a v.hi.den.n v.hi.den.c] 62)).alloc (.cells #[.bool u.lo.num.g, .slice u.lo.num.a u.lo.num.n u.lo.num.c, .bool u.lo.den.g, .slice u.lo.den.a u.lo.den.n u.lo.den.c, .bool u.hi.num.g, .slice u.hi.num.a u.hi.num.n u.hi.num.c, .bool u.hi.den.g, .slice u.hi.den.a u.hi.den.n u.hi.den.c] 62)).alloc (.cells #[.bool false, .slice none 0 0, .bool false, .slice none 0 0, .bool false, .slice none 0 0, .bool false, .slice none 0 0] 62)).cell? ⟨w.heap.size, 3, none⟩ = some (.slice v.lo.den.a v.lo.den.n v.lo.den.c) := by simp [go_sem]
  have k0_4 : (((w.alloc (.cells #[.bool v.lo.num.g, .slice v.lo.num.a v.lo.num.n v.lo.num.c, .bool v.lo.den.g, .slice v.lo.den.a v.lo.den.n v.lo.den.c, .bool v.hi.num.g, .slice v.hi.num.a v.hi.num.n v.hi.num.c, .bool v.hi.den.g, .slice v.hi.den.a v.hi.den.n v.hi.den.c] 62)).alloc (.cells #[.bool u.lo.num.g, .slice u.lo.num.a u.lo.num.n u.lo.num.c, .bool u.lo.den.g, .slice u.lo.den.a u.lo.den.n u.lo.den.c, .bool u.hi.num.g, .slice u.hi.num.a u.hi.num.n u.hi.num.c, .bool u.hi.den.g, .slice u.hi.den.a u.hi.den.n u.hi.den.c] 62)).alloc (.cells #[.bool false, .slice none 0 0, .bool false, .slice none 0 0, .bool false, .slice none 0 0, .bool false, .slice none 0 0] 62)).cell? ⟨w.heap.size, 4, none⟩ = some (.bool v.hi.num.g) := by simp [go_sem]
  have k0_5 : (((w.alloc (.cells #[.bool v.lo.num.g, .slice v.lo.num.a v.lo.num.n v.lo.num.c, .bool v.lo.den.g, .slice v.lo.den.a v.lo.den.n v.lo.den.c, .bool v.hi.num.g, .slice v.hi.num.a v.hi.num.n v.hi.num.c, .bool v.hi.den.g, .slice v.hi.den.a v.hi.den.n v.hi.den.c] 62)).alloc (.cells #[.bool u.lo.num.g, .slice u.lo.num.a u.lo.num.n u.lo.num.c, .bool u.lo.den.g, .slice u.lo.den.a u.lo.den.n u.lo.den.c, .bool u.hi.num.g, .slice u.hi.num.a u.hi.num.n u.hi.num.c, .bool u.hi.den.g, .slice u.hi.den.a u.hi.den.n u.hi.den.c] 62)).alloc (.cells #[.bool false, .slice none 0 0, .bool false, .slice none 0 0, .bool false, .slice none 0 0, .bool false, .slice none 0 0] 62)).cell? ⟨w.heap.size, 5, none⟩ = some (.slice v.hi.num.a v.hi.num.n v.hi.num.c) := by simp [go_sem]
  have k0_6 : (((w.alloc (.cells #[.bool v.lo.num.g, .slice v.lo.num.a v.lo.num.n v.lo.num.c, .bool v.lo.den.g, .slice v.lo.den.a v.lo.den.n v.lo.den.c, .bool v.hi.num.g, .slice v.hi.num.a v.hi.num.n v.hi.num.c, .bool v.hi.den.g, .slice v.hi.den.a v.hi.den.n v.hi.den.c] 62)).alloc (.cells #[.bool u.lo.num.g, .slice u.lo.num.a u.lo.num.n u.lo.num.c, .bool u.lo.den.g, .slice u.lo.den.a u.lo.den.n u.lo.den.c, .bool u.hi.num.g, .slice u.hi.num.a u.hi.num.n u.hi.num.c, .bool u.hi.den.g, .slice u.hi.den.a u.hi.den.n u.hi.den.c] 62)).alloc (.cells #[.bool false, .slice none 0 0, .bool false, .slice none 0 0, .bool false, .slice none 0 0, .bool false, .slice none 0 0] 62)).cell? ⟨w.heap.size, 6, none⟩ = some (.bool v.hi.den.g) := by simp [go_sem]
  have k0_7 : (((w.alloc (.cells #[.bool v.lo.num.g, .slice v.lo.num.a v.lo.num.n v.lo.num.c, .bool v.lo.den.g, .slice v.lo.den.a v.lo.den.n v.lo.den.c, .bool v.hi.num.g, .slice v.hi.num.a v.hi.num.n v.hi.num.c, .bool v.hi.den.g, .slice v.hi.den.a v.hi.den.n v.hi.den.c] 62)).alloc (.cells #[.bool u.lo.num.g, .slice u.lo.num.a u.lo.num.n u.lo.num.c, .bool u.lo.den.g, .slice u.lo.den.a u.lo.den.n u.lo.den.c, .bool u.hi.num.g, .slice u.hi.num.a u.hi.num.n u.hi.num.c, .bool u.hi.den.g, .slice u.hi.den.a u.hi.den.n u.hi.den.c] 62)).alloc (.cells #[.bool false, .slice none 0 0, .bool false, .slice none 0 0, .bool false, .slice none 0 0, .bool false, .slice none 0 0] 62)).cell? ⟨w.heap.size, 7, none⟩ = some (.slice v.hi.den.a v.hi.den.n v.hi.den.c) := by simp [go_sem]
  have k1_0 : (((w.alloc (.cells #[.bool v.lo.num.g, .slice v.lo.num.a v.lo.num.n v.lo.num.c, .bool v.lo.den.g, .slice v.lo.den.a v.lo.den.n v.lo.den.c, .bool v.hi.num.g, .slice v.hi.num.a v.hi.num.n v.hi.num.c, .bool v.hi.den.g, .slice v.hi.den.a v.hi.den.n v.hi.den.c] 62)).alloc (.cells #[.bool u.lo.num.g, .slice u.lo.num.a u.lo.num.n u.lo.num.c, .bool u.lo.den.g, .slice u.lo.den.a u.lo.den.n u.lo.den.c, .bool u.hi.num.g, .slice u.hi.num.a u.hi.num.n u.hi.num.c, .bool u.hi.den.g, .slice u.hi.den.a u.hi.den.n u.hi.den.c] 62)).alloc (.cells #[.bool false, .slice none 0 0, .bool false, .slice none 0 0, .bool false, .slice none 0 0, .bool false, .slice none 0 0] 62)).cell? ⟨w.heap.size + 1, 0, none⟩ = some (.bool u.lo.num.g) := by simp [go_sem]
  have k1_1 : (((w.alloc (.cells #[.bool v.lo.num.g, .slice v.lo.num.a v.lo.num.n v.lo.num.c, .bool v.lo.den.g, .slice v.lo.den.a v.lo.den.n v.lo.den.c, .bool v.hi.num.g, .slice v.hi.num.a v.hi.num.n v.hi.num.c, .bool v.hi.den.g, .slice v.hi.den.a v.hi.den.n v.hi.den.c] 62)).alloc (.cells #[.bool u.lo.num.g, .slice u.lo.num.a u.lo.num.n u.lo.num.c, .bool u.lo.den.g, .slice u.lo.den.a u.lo.den.n u.lo.den.c, .bool u.hi.num.g, .slice u.hi.num.a u.hi.num.n u.hi.num.c, .bool u.hi.den.g, .slice u.hi.den.a u.hi.den.n u.hi.den.c] 62)).alloc (.cells #[.bool false, .slice none 0 0, .bool false, .slice none 0 0, .bool false, .slice none 0 0, .bool false, .slice none 0 0] 62)).cell? ⟨w.heap.size + 1, 1, none⟩ = some (.slice u.lo.num.a u.lo.num.n u.lo.num.c) := by simp [go_sem]
  have k1_2 : (((w.alloc (.cells #[.bool v.lo.num.g, .slice v.lo.num.a v.lo.num.n v.lo.num.c, .bool v.lo.den.g, .slice v.lo.den.a v.lo.den.n v.lo.den.c, .bool v.hi.num.g, .slice v.hi.num.a v.hi.num.n v.hi.num.c, .bool v.hi.den.g, .slice v.hi.den.a v.hi.den.n v.hi.den.c] 62)).alloc (.cells #[.bool u.lo.num.g, .slice u.lo.num.a u.lo.num.n u.lo.num.c, .bool u.lo.den.g, .slice u.lo.den.a u.lo.den.n u.lo.den.c, .bool u.hi.num.g, .slice u.hi.num.a u.hi.num.n u.hi.num.c, .bool u.hi.den.g, .slice u.hi.den.a u.hi.den.n u.hi.den.c] 62)).alloc (.cells #[.bool false, .slice none 0 0, .bool false, .slice none 0 0, .bool false, .slice none 0 0, .bool false, .slice none 0 0] 62)).cell? ⟨w.heap.size + 1, 2, none⟩ = some (.bool u.lo.den.g) := by simp [go_sem]
  have k1_3 : (((w.alloc (.cells #[.bool v.lo.num.g, .slice v.lo.num.a v.lo.num.n v.lo.num.c, .bool v.lo.den.g, .slice v.lo.den.a v.lo.den.n v.lo.den.c, .bool v.hi.num.g, .slice v.hi.num.a v.hi.num.n v.hi.num.c, .bool v.hi.den.g, .slice v.hi.den.a v.hi.den.n v.hi.den.c] 62)).alloc (.cells #[.bool u.lo.num.g, .slice u.lo.num.a u.lo.num.n u.lo.num.c, .bool u.lo.den.g, .slice u.lo.den.a u.lo.den.n u.lo.den.c, .bool u.hi.num.g, .slice u.hi.num.a u.hi.num.n u.hi.num.c, .bool u.hi.den.g, .slice u.hi.den.a u.hi.den.n u.hi.den.c] 62)).alloc (.cells #[.bool false, .slice none 0 0, .bool false, .slice none 0 0, .bool false, .slice none 0 0, .bool false, .slice none 0 0] 62)).cell? ⟨w.heap.size + 1, 3, none⟩ = some (.slice u.lo.den.a u.lo.den.n u.lo.den.c) := by simp [go_sem]
  have k1_4 : (((w.alloc (.cells #[.bool v.lo.num.g, .slice v.lo.num.a v.lo.num.n v.lo.num.c, .bool v.lo.den.g, .slice v.lo.den.a v.lo.den.n v.lo.den.c, .bool v.hi.num.g, .slice v.hi.num.a v.hi.num.n v.hi.num.c, .bool v.hi.den.g, .slice v.hi.den.a v.hi.den.n v.hi.den.c] 62)).alloc (.cells #[.bool u.lo.num.g, .slice u.lo.num.a u.lo.num.n u.lo.num.c, .bool u.lo.den.g, .slice u.lo.den.a u.lo.den.n u.lo.den.c, .bool u.hi.num.g, .slice u.hi.num.a u.hi.num.n u.hi.num.c, .bool u.hi.den.g, .slice u.hi.den.a u.hi.den.n u.hi.den.c] 62)).alloc (.cells #[.bool false, .slice none 0 0, .bool false, .slice none 0 0, .bool false, .slice none 0 0, .bool false, .slice none 0 0] 62)).cell? ⟨w.heap.size + 1, 4, none⟩ = some (.bool u.hi.num.g) := by simp [go_sem]
  have k1_5 : (((w.alloc (.cells #[.bool v.lo.num.g, .slice v.lo.num.a v.lo.num.n v.lo.num.c, .bool v.lo.den.g, .slice v.lo.den.a v.lo.den.n v.lo.den.c, .bool v.hi.num.g, .slice v.hi.num.a v.hi.num.n v.hi.num.c, .bool v.hi.den.g, .slice v.hi.den.a v.hi.den.n v.hi.den.c] 62)).alloc (.cells #[.bool u.lo.num.g, .slice u.lo.num.a u.lo.num.n u.lo.num.c, .bool u.lo.den.g, .slice u.lo.den.a u.lo.den.n u.lo.den.c, .bool u.hi.num.g, .slice u.hi.num.a u.hi.num.n u.hi.num.c, .bool u.hi.den.g, .slice u.hi.den.a u.hi.den.n u.hi.den.c] 62)).alloc (.cells #[.bool false, .slice none 0 0, .bool false, .slice none 0 0, .bool false, .slice none 0 0, .bool false, .slice none 0 0] 62)).cell? ⟨w.heap.size + 1, 5, none⟩ = some (.slice u.hi.num.a u.hi.num.n u.hi.num.c) := by simp [go_sem]
  have k1_6 : (((w.alloc (.cells #[.bool v.lo.num.g, .slice v.lo.num.a v.lo.num.n v.lo.num.c, .bool v.lo.den.g, .slice v.lo.den.a v.lo.den.n v.lo.den.c, .bool v.hi.num.g, .slice v.hi.num.a v.hi.num.n v.hi.num.c, .bool v.hi.den.g, .slice v.hi.den.a v.hi.den.n v.hi.den.c] 62)).alloc (.cells #[.bool u.lo.num.g, .slice u.lo.num.a u.lo.num.n u.lo.num.c, .bool u.lo.den.g, .slice u.lo.den.a u.lo.den.n u.lo.den.c, .bool u.hi.num.g, .slice u.hi.num.a u.hi.num.n u.hi.num.c, .bool u.hi.den.g, .slice u.hi.den.a u.hi.den.n u.hi.den.c] 62)).alloc (.cells #[.bool false, .slice none 0 0, .bool false, .slice none 0 0, .bool false, .slice none 0 0, .bool false, .slice none 0 0] 62)).cell? ⟨w.heap.size + 1, 6, none⟩ = some (.bool u.hi.den.g) := by simp [go_sem]
  have k1_7 : (((w.alloc (.cells #[.bool v.lo.num.g, .slice v.lo.num.a v.lo.num.n v.lo.num.c, .bool v.lo.den.g, .slice v.lo.den.a v.lo.den.n v.lo.den.c, .bool v.hi.num.g, .slice v.hi.num.a v.hi.num.n v.hi.num.c, .bool v.hi.den.g, .slice v.hi.den.a v.hi.den.n v.hi.den.c] 62)).alloc (.cells #[.bool u.lo.num.g, .slice u.lo.num.a u.lo.num.n u.lo.num.c, .bool u.lo.den.g, .slice u.lo.den.a u.lo.den.n u.lo.den.c, .bool u.hi.num.g, .slice u.hi.num.a u.hi.num.n u.hi.num.c, .bool u.hi.den.g, .slice u.hi.den.a u.hi.den.n u.hi.den.c] 62)).alloc (.cells #[.bool false, .slice none 0 0, .bool false, .slice none 0 0, .bool false, .slice none 0 0, .bool false, .slice none 0 0] 62)).cell? ⟨w.heap.size + 1, 7, none⟩ = some (.slice u.hi.den.a u.hi.den.n u.hi.den.c) := by simp [go_sem]
  have k2_0 : (((w.alloc (.cells #[.bool v.lo.num.g, .slice v.lo.num.a v.lo.num.n v.lo.num.c, .bool v.lo.den.g, .slice v.lo.den.a v.lo.den.n v.lo.den.c, .bool v.hi.num.g, .slice v.hi.num.a v.hi.num.n v.hi.num.c, .bool v.hi.den.g, .slice v.hi.den.a v.hi.den.n v.hi.den.c] 62)).alloc (.cells #[.bool u.lo.num.g, .slice u.lo.num.a u.lo.num.n u.lo.num.c, .bool u.lo.den.g, .slice u.lo.den.a u.lo.den.n u.lo.den.c, .bool u.hi.num.g, .slice u.hi.num.a u.hi.num.n u.hi.num.c, .bool u.hi.den.g, .slice u.hi.den.a u.hi.den.n u.hi.den.c] 62)).alloc (.cells #[.bool false, .slice none 0 0, .bool false, .slice none 0 0, .bool false, .slice none 0 0, .bool false, .slice none 0 0] 62)).cell? ⟨w.heap.size + 1 + 1, 0, none⟩ = some (.bool false) := by simp [go_sem]
  have k2_1 : (((w.alloc (.cells #[.bool v.lo.num.g, .slice v.lo.num.a v.lo.num.n v.lo.num.c, .bool v.lo.den.g, .slice v.lo.den.a v.lo.den.n v.lo.den.c, .bool v.hi.num.g, .slice v.hi.num.a v.hi.num.n v.hi.num.c, .bool v.hi.den.g, .slice v.hi.den.a v.hi.den.n v.hi.den.c] 62)).alloc (.cells #[.bool u.lo.num.g, .slice u.lo.num.a u.lo.num.n u.lo.num.c, .bool u.lo.den.g, .slice u.lo.den.a u.lo.den.n u.lo.den.c, .bool u.hi.num.g, .slice u.hi.num.a u.hi.num.n u.hi.num.c, .bool u.hi.den.g, .slice u.hi.den.a u.hi.den.n u.hi.den.c] 62)).alloc (.cells #[.bool false, .slice none 0 0, .bool false, .slice none 0 0, .bool false, .slice none 0 0, .bool false, .slice none 0 0] 62)).cell? ⟨w.heap.size + 1 + 1, 1, none⟩ = some (.slice none 0 0) := by simp [go_sem]
  have k2_2 : (((w.alloc (.cells #[.bool v.lo.num.g, .slice v.lo.num.a v.lo.num.n v.lo.num.c, .bool v.lo.den.g, .slice v.lo.den.a v.lo.den.n v.lo.den.c, .bool v.hi.num.g, .slice v.hi.num.a v.hi.num.n v.hi.num.c, .bool v.hi.den.g, .slice v.hi.den.a v.hi.den.n v.hi.den.c] 62)).alloc (.cells #[.bool u.lo.num.g, .slice u.lo.num.a u.lo.num.n u.lo.num.c, .bool u.lo.den.g, .slice u.lo.den.a u.lo.den.n u.lo.den.c, .bool u.hi.num.g, .slice u.hi.num.a u.hi.num.n u.hi.num.c, .bool u.hi.den.g, .slice u.hi.den.a u.hi.den.n u.hi.den.c] 62)).alloc (.cells #[.bool false, .slice none 0 0, .bool false, .slice none 0 0, .bool false, .slice none 0 0, .bool false, .slice none 0 0] 62)).cell? ⟨w.heap.size + 1 + 1, 2, none⟩ = some (.bool false) := by simp [go_sem]
  have k2_3 : (((w.alloc (.cells #[.bool v.lo.num.g, .slice v.lo.num.a v.lo.num.n v.lo.num.c, .bool v.lo.den.g, .slice v.lo.den.a v.lo.den.n v.lo.den.c, .bool v.hi.num.g, .slice v.hi.num.a v.hi.num.n v.hi.num.c, .bool v.hi.den.g, .slice v.hi.den.a v.hi.den.n v.hi.den.c] 62)).alloc (.cells #[.bool u.lo.num.g, .slice u.lo.num.a u.lo.num.n u.lo.num.c, .bool u.lo.den.g, .slice u.lo.den.a u.lo.den.n u.lo.den.c, .bool u.hi.num.g, .slice u.hi.num.a u.hi.num.n u.hi.num.c, .bool u.hi.den.g, .slice u.hi.den.a u.hi.den.n u.hi.den.c] 62)).alloc (.cells #[.bool false, .slice none 0 0, .bool false, .slice none 0 0, .bool false, .slice none 0 0, .bool false, .slice none 0 0] 62)).cell? ⟨w.heap.size + 1 + 1, 3, none⟩ = some (.slice none 0 0) := by simp [go_sem]
  have k2_4 : (((w.alloc (.cells #[.bool v.lo.num.g, .slice v.lo.num.a v.lo.num.n v.lo.num.c, .bool v.lo.den.g, .slice v.lo.den.a v.lo.den.n v.lo.den.c, .bool v.hi.num.g, .slice v.hi.num.a v.hi.num.n v.hi.num.c, .bool v.hi.den.g, .slice v.hi.den.a v.hi.den.n v.hi.den.c] 62)).alloc (.cells #[.bool u.lo.num.g, .slice u.lo.num.a u.lo.num.n u.lo.num.c, .bool u.lo.den.g, .slice u.lo.den.a u.lo.den.n u.lo.den.c, .bool u.hi.num.g, .slice u.hi.num.a u.hi.num.n u.hi.num.c, .bool u.hi.den.g, .slice u.hi.den.a u.hi.den.n u.hi.den.c] 62)).alloc (.cells #[.bool false, .slice none 0 0, .bool false, .slice none 0 0, .bool false, .slice none 0 0, .bool false, .slice none 0 0] 62)).cell? ⟨w.heap.size + 1 + 1, 4, none⟩ = some (.bool false) := by simp [go_sem]
  have k2_5 : (((w.alloc (.cells #[.bool v.lo.num.g, .slice v.lo.num.a v.lo.num.n v.lo.num.c, .bool v.lo.den.g, .slice v.lo.den.a v.lo.den.n v.lo.den.c, .bool v.hi.num.g, .slice v.hi.num.a v.hi.num.n v.hi.num.c, .bool v.hi.den.g, .slice v.hi.den.a v.hi.den.n v.hi.den.c] 62)).alloc (.cells #[.bool u.lo.num.g, .slice u.lo.num.a u.lo.num.n u.lo.num.c, .bool u.lo.den.g, .slice u.lo.den.a u.lo.den.n u.lo.den.c, .bool u.hi.num.g, .slice u.hi.num.a u.hi.num.n u.hi.num.c, .bool u.hi.den.g, .slice u.hi.den.a u.hi.den.n u.hi.den.c] 62)).alloc (.cells #[.bool false, .slice none 0 0, .bool false, .slice none 0 0, .bool false, .slice none 0 0, .bool false, .slice none 0 0] 62)).cell? ⟨w.heap.size + 1 + 1, 5, none⟩ = some (.slice none 0 0) := by simp [go_sem]
  have k2_6 : (((w.alloc (.cells #[.bool v.lo.num.g, .slice v.lo.num.a v.lo.num.n v.lo.num.c, .bool v.lo.den.g, .slice v.lo.den.a v.lo.den.n v.lo.den.c, .bool v.hi.num.g, .slice v.hi.num.a v.hi.num.n v.hi.num.c, .bool v.hi.den.g, .slice v.hi.den.a v.hi.den.n v.hi.den.c] 62)).alloc (.cells #[.bool u.lo.num.g, .slice u.lo.num.a u.lo.num.n u.lo.num.c, .bool u.lo.den.g, .slice u.lo.den.a u.lo.den.n u.lo.den.c, .bool u.hi.num.g, .slice u.hi.num.a u.hi.num.n u.hi.num.c, .bool u.hi.den.g, .slice u.hi.den.a u.hi.den.n u.hi.den.c] 62)).alloc (.cells #[.bool false, .slice none 0 0, .bool false, .slice none 0 0, .bool false, .slice none 0 0, .bool false, .slice none 0 0] 62)).cell? ⟨w.heap.size + 1 + 1, 6, none⟩ = some (.bool false) := by simp [go_sem]
  have k2_7 : (((w.alloc (.cells #[.bool v.lo.num.g, .slice v.lo.num.a v.lo.num.n v.lo.num.c, .bool v.lo.den.g, .slice v.lo.den.a v.lo.den.n v.lo.den.c, .bool v.hi.num.g, .slice v.hi.num.a v.hi.num.n v.hi.num.c, .bool v.hi.den.g, .slice v.hi.den.a v.hi.den.n v.hi.den.c] 62)).alloc (.cells #[.bool u.lo.num.g, .slice u.lo.num.a u.lo.num.n u.lo.num.c, .bool u.lo.den.g, .slice u.lo.den.a u.lo.den.n u.lo.den.c, .bool u.hi.num.g, .slice u.hi.num.a u.hi.num.n u.hi.num.c, .bool u.hi.den.g, .slice u.hi.den.a u.hi.den.n u.hi.den.c] 62)).alloc (.cells #[.bool false, .slice none 0 0, .bool false, .slice none 0 0, .bool false, .slice none 0 0, .bool false, .slice none 0 0] 62)).cell? ⟨w.heap.size + 1 + 1, 7, none⟩ = some (.slice none 0 0) := by simp [go_sem]
  have z2 : ∀ o, (((w.alloc (.cells #[.bool v.lo.num.g, .slice v.lo.num.a v.lo.num.n v.lo.num.c, .bool v.lo.den.g, .slice v.lo.den.a v.lo.den.n v.lo.den.c, .bool v.hi.num.g, .slice v.hi.num.a v.hi.num.n v.hi.num.c, .bool v.hi.den.g, .slice v.hi.den.a v.hi.den.n v.hi.den.c] 62)).alloc (.cells #[.bool u.lo.num.g, .slice u.lo.num.a u.lo.num.n u.lo.num.c, .bool u.lo.den.g, .slice u.lo.den.a u.lo.den.n u.lo.den.c, .bool u.hi.num.g, .slice u.hi.num.a u.hi.num.n u.hi.num.c, .bool u.hi.den.g, .slice u.hi.den.a u.hi.den.n u.hi.den.c] 62)).alloc (.cells #[.bool false, .slice none 0 0, .bool false, .slice none 0 0, .bool false, .slice none 0 0, .bool false, .slice none 0 0] 62)).frozen? ⟨w.heap.size + 1 + 1, o, none⟩ = false := fun o => by simp [go_sem]
  have S1 := hide ((unhide J1).later hb)
  have S2 := hide ((unhide J2).later hb)
  have szw0 : w.heap.size + 3 ≤ (((w.alloc (.cells #[.bool v.lo.num.g, .slice v.lo.num.a v.lo.num.n v.lo.num.c, .bool v.lo.den.g, .slice v.lo.den.a v.lo.den.n v.lo.den.c, .bool v.hi.num.g, .slice v.hi.num.a v.hi.num.n v.hi.num.c, .bool v.hi.den.g, .slice v.hi.den.a v.hi.den.n v.hi.den.c] 62)).alloc (.cells #[.bool u.lo.num.g, .slice u.lo.num.a u.lo.num.n u.lo.num.c, .bool u.lo.den.g, .slice u.lo.den.a u.lo.den.n u.lo.den.c, .bool u.hi.num.g, .slice u.hi.num.a u.hi.num.n u.hi.num.c, .bool u.hi.den.g, .slice u.hi.den.a u.hi.den.n u.hi.den.c] 62)).alloc (.cells #[.bool false, .slice none 0 0, .bool false, .slice none 0 0, .bool false, .slice none 0 0, .bool false, .slice none 0 0] 62)).heap.size := by simp
  have HB := hide hb
  clear hb
  generalize (((w.alloc (.cells #[.bool v.lo.num.g, .slice v.lo.num.a v.lo.num.n v.lo.num.c, .bool v.lo.den.g, .slice v.lo.den.a v.lo.den.n v.lo.den.c, .bool v.hi.num.g, .slice v.hi.num.a v.hi.num.n v.hi.num.c, .bool v.hi.den.g, .slice v.hi.den.a v.hi.den.n v.hi.den.c] 62)).alloc (.cells #[.bool u.lo.num.g, .slice u.lo.num.a u.lo.num.n u.lo.num.c, .bool u.lo.den.g, .slice u.lo.den.a u.lo.den.n u.lo.den.c, .bool u.hi.num.g, .slice u.hi.num.a u.hi.num.n u.hi.num.c, .bool u.hi.den.g, .slice u.hi.den.a u.hi.den.n u.hi.den.c] 62)).alloc (.cells #[.bool false, .slice none 0 0, .bool false, .slice none 0 0, .bool false, .slice none 0 0, .bool false, .slice none 0 0] 62)) = w0 at *
  have ne0_2 : w.heap.size ≠ w.heap.size + 1 + 1 := by omega
  have ne1_2 : w.heap.size + 1 ≠ w.heap.size + 1 + 1 := by omega
  go_region_held3 (fun w' => w'.cell? ⟨w.heap.size, 0, none⟩ = some (.bool v.lo.num.g) ∧ w'.cell? ⟨w.heap.size, 1, none⟩ = some (.slice v.lo.num.a v.lo.num.n v.lo.num.c) ∧ w'.cell? ⟨w.heap.size, 2, none⟩ = some (.bool v.lo.den.g) ∧ w'.cell? ⟨w.heap.size, 3, none⟩ = some (.slice v.lo.den.a v.lo.den.n v.lo.den.c) ∧ w'.cell? ⟨w.heap.size, 4, none⟩ = some (.bool v.hi.num.g) ∧ w'.cell? ⟨w.heap.size, 5, none⟩ = some (.slice v.hi.num.a v.hi.num.n v.hi.num.c) ∧ w'.cell? ⟨w.heap.size, 6, none⟩ = some (.bool v.hi.den.g) ∧ w'.cell? ⟨w.heap.size, 7, none⟩ = some (.slice v.hi.den.a v.hi.den.n v.hi.den.c) ∧ w'.cell? ⟨w.heap.size + 1, 0, none⟩ = some (.bool u.lo.num.g) ∧ w'.cell? ⟨w.heap.size + 1, 1, none⟩ = some (.slice u.lo.num.a u.lo.num.n u.lo.num.c) ∧ w'.cell? ⟨w.heap.size + 1, 2, none⟩ = some (.bool u.lo.den.g) ∧ w'.cell? ⟨w.heap.size + 1, 3, none⟩ = some (.slice u.lo.den.a u.lo.den.n u.lo.den.c) ∧ w'.cell? ⟨w.heap.size + 1, 4, none⟩ = some (.bool u.hi.num.g) ∧ w'.cell? ⟨w.heap.size + 1, 5, none⟩ = some (.slice u.hi.num.a u.hi.num.n u.hi.num.c) ∧ w'.cell? ⟨w.heap.size + 1, 6, none⟩ = some (.bool u.hi.den.g) ∧ w'.cell? ⟨w.heap.size + 1, 7, none⟩ = some (.slice u.hi.den.a u.hi.den.n u.hi.den.c)) (with_reducible (first | exact ⟨k0_0, k0_1, k0_2, k0_3, k0_4, k0_5, k0_6, k0_7, k1_0, k1_1, k1_2, k1_3, k1_4, k1_5, k1_6, k1_7⟩ | exact ⟨cd_other k0_0, cd_other k0_1, cd_other k0_2, cd_other k0_3, cd_other k0_4, cd_other k0_5, cd_other k0_6, cd_other k0_7, cd_other k1_0, cd_other k1_1, cd_other k1_2, cd_other k1_3, cd_other k1_4, cd_other k1_5, cd_other k1_6, cd_other k1_7⟩ | exact ⟨ca_other k0_0, ca_other k0_1, ca_other k0_2, ca_other k0_3, ca_other k0_4, ca_other k0_5, ca_other k0_6, ca_other k0_7, ca_other k1_0, ca_other k1_1, ca_other k1_2, ca_other k1_3, ca_other k1_4, ca_other k1_5, ca_other k1_6, ca_other k1_7⟩ | exact ⟨cs_other (cs_other (cs_other (cs_other (cs_other (cs_other (cs_other (cs_other (k0_0) ne0_2) ne0_2) ne0_2) ne0_2) ne0_2) ne0_2) ne0_2) ne0_2, cs_other (cs_other (cs_other (cs_other (cs_other (cs_other (cs_other (cs_other (k0_1) ne0_2) ne0_2) ne0_2) ne0_2) ne0_2) ne0_2) ne0_2) ne0_2, cs_other (cs_other (cs_other (cs_other (cs_other (cs_other (cs_other (cs_other (k0_2) ne0_2) ne0_2) ne0_2) ne0_2) ne0_2) ne0_2) ne0_2) ne0_2, cs_other (cs_other (cs_other (cs_other (cs_other (cs_other (cs_other (cs_other (k0_3) ne0_2) ne0_2) ne0_2) ne0_2) ne0_2) ne0_2) ne0_2) ne0_2, cs_other (cs_other (cs_other (cs_other (cs_other (cs_other (cs_other (cs_other (k0_4) ne0_2) ne0_2) ne0_2) ne0_2) ne0_2) ne0_2) ne0_2) ne0_2, cs_other (cs_other (cs_other (cs_other (cs_other (cs_other (cs_other (cs_other (k0_5) ne0_2) ne0_2) ne0_2) ne0_2) ne0_2) ne0_2) ne0_2) ne0_2, cs_other (cs_other (cs_other (cs_other (cs_other (cs_other (cs_other (cs_other (k0_6) ne0_2) ne0_2) ne0_2) ne0_2) ne0_2) ne0_2) ne0_2) ne0_2, cs_other (cs_other (cs_other (cs_other (cs_other (cs_other (cs_other (cs_other (k0_7) ne0_2) ne0_2) ne0_2) ne0_2) ne0_2) ne0_2) ne0_2) ne0_2, cs_other (cs_other (cs_other (cs_other (cs_other (cs_other (cs_other (cs_other (k1_0) ne1_2) ne1_2) ne1_2) ne1_2) ne1_2) ne1_2) ne1_2) ne1_2, cs_other (cs_other (cs_other (cs_other (cs_other (cs_other (cs_other (cs_other (k1_1) ne1_2) ne1_2) ne1_2) ne1_2) ne1_2) ne1_2) ne1_2) ne1_2, cs_other (cs_other (cs_other (cs_other (cs_other (cs_other (cs_other (cs_other (k1_2) ne1_2) ne1_2) ne1_2) ne1_2) ne1_2) ne1_2) ne1_2) ne1_2, cs_other (cs_other (cs_other (cs_other (cs_other (cs_other (cs_other (cs_other (k1_3) ne1_2) ne1_2) ne1_2) ne1_2) ne1_2) ne1_2) ne1_2) ne1_2, cs_other (cs_other (cs_other (cs_other (cs_other (cs_other (cs_other (cs_other (k1_4) ne1_2) ne1_2) ne1_2) ne1_2) ne1_2) ne1_2) ne1_2) ne1_2, cs_other (cs_other (cs_other (cs_other (cs_other (cs_other (cs_other (cs_other (k1_5) ne1_2) ne1_2) ne1_2) ne1_2) ne1_2) ne1_2) ne1_2) ne1_2, cs_other (cs_other (cs_other (cs_other (cs_other (cs_other (cs_other (cs_other (k1_6) ne1_2) ne1_2) ne1_2) ne1_2) ne1_2) ne1_2) ne1_2) ne1_2, cs_other (cs_other (cs_other (cs_other (cs_other (cs_other (cs_other (cs_other (k1_7) ne1_2) ne1_2) ne1_2) ne1_2) ne1_2) ne1_2) ne1_2) ne1_2⟩ | fail))
    (first
    | (have chk := Px4; clear chk; go_at_call 137; refine (leastI ⟨x1, lowN (nQ d.lo * nQ e.lo) (dQ d.lo * dQ e.lo), lowD (nQ d.lo * nQ e.lo) (dQ d.lo * dQ e.lo)⟩ w4b.heap.size 0 3 3 [⟨x2, lowN (nQ d.lo * nQ e.hi) (dQ d.lo * dQ e.hi), lowD (nQ d.lo * nQ e.hi) (dQ d.lo * dQ e.hi)⟩, ⟨x3, lowN (nQ d.hi * nQ e.lo) (dQ d.hi * dQ e.lo), lowD (nQ d.hi * nQ e.lo) (dQ d.hi * dQ e.lo)⟩, ⟨x4, lowN (nQ d.hi * nQ e.hi) (dQ d.hi * dQ e.hi), lowD (nQ d.hi * nQ e.hi) (dQ d.hi * dQ e.hi)⟩] _ ?_ ?_ rfl (by omega)).mono ?_; (exact ⟨(unhide Px1).later ((Below.refl _ _).alloc (Nat.le_refl _) _), (mBd (unhide J1).lo (unhide J2).lo).1, (mBd (unhide J1).lo (unhide J2).lo).2⟩); (exact rats_3 (r1 := ⟨x2, lowN (nQ d.lo * nQ e.hi) (dQ d.lo * dQ e.hi), lowD (nQ d.lo * nQ e.hi) (dQ d.lo * dQ e.hi)⟩) (r2 := ⟨x3, lowN (nQ d.hi * nQ e.lo) (dQ d.hi * dQ e.lo), lowD (nQ d.hi * nQ e.lo) (dQ d.hi * dQ e.lo)⟩) (r3 := ⟨x4, lowN (nQ d.hi * nQ e.hi) (dQ d.hi * dQ e.hi), lowD (nQ d.hi * nQ e.hi) (dQ d.hi * dQ e.hi)⟩) ⟨(unhide Px2), (mBd (unhide J1).lo (unhide J2).hi).1, (mBd (unhide J1).lo (unhide J2).hi).2⟩ ⟨(unhide Px3), (mBd (unhide J1).hi (unhide J2).lo).1, (mBd (unhide J1).hi (unhide J2).lo).2⟩ ⟨(unhide Px4), (mBd (unhide J1).hi (unhide J2).hi).1, (mBd (unhide J1).hi (unhide J2).hi).2⟩); rintro e w5b ⟨r, xs, us, ys, vs, rfl, hb0, or, ar, n1, n2, n3, n4⟩; have hb := ba hb0; have szl := hb0.size; (try simp at szl); have hbx : Below w4b.heap.size w4b w5b := hb; have szw5b := hbx.size; replace z2 := fun o => frozen_later hbx (World.block_lt_of_cell? _ _ k2_0) (z2 o); replace k0_0 := cell_later hbx k0_0; replace k0_1 := cell_later hbx k0_1; replace k0_2 := cell_later hbx k0_2; replace k0_3 := cell_later hbx k0_3; replace k0_4 := cell_later hbx k0_4; replace k0_5 := cell_later hbx k0_5; replace k0_6 := cell_later hbx k0_6; replace k0_7 := cell_later hbx k0_7; replace k1_0 := cell_later hbx k1_0; replace k1_1 := cell_later hbx k1_1; replace k1_2 := cell_later hbx k1_2; replace k1_3 := cell_later hbx k1_3; replace k1_4 := cell_later hbx k1_4; replace k1_5 := cell_later hbx k1_5; replace k1_6 := cell_later hbx k1_6; replace k1_7 := cell_later hbx k1_7; replace k2_0 := cell_later hbx k2_0; replace k2_1 := cell_later hbx k2_1; replace k2_2 := cell_later hbx k2_2; replace k2_3 := cell_later hbx k2_3; replace k2_4 := cell_later hbx k2_4; replace k2_5 := cell_later hbx k2_5; replace k2_6 := cell_later hbx k2_6; replace k2_7 := cell_later hbx k2_7; replace S1 := hide ((unhide S1).later hbx); replace S2 := hide ((unhide S2).later hbx); replace Px1 := hide ((unhide Px1).later hbx); replace Px2 := hide ((unhide Px2).later hbx); replace Px3 := hide ((unhide Px3).later hbx); replace Px4 := hide ((unhide Px4).later hbx); have OR := hide (And.intro or (And.intro ar (And.intro n1 (And.intro n2 (And.intro n3 n4))))); have HBr := hide (below_on (unhide HBr) hbx); clear hbx hb or ar n1 n2 n3 n4 hb0)
    | (have chk := Px3; clear chk; go_at_call 115; refine (mulQI v.hi u.hi _ _ _ _ _ ?_ ?_ (mNz (unhide J1).hi (unhide J2).hi) ((unhide J1).hi.kn.mono (by omega)) ((unhide J1).hi.kd.mono (by omega)) ((unhide J2).hi.kn.mono (by omega)) ((unhide J2).hi.kd.mono (by omega))).mono ?_; exact (unhide S1).hi.is.later (Below.refl _ _); exact (unhide S2).hi.is.later (Below.refl _ _); rintro e w4b ⟨x4, lx4, mx4, rfl, hb, o4, a4, n4, k4⟩; have hbx : Below w3b.heap.size w3b w4b := hb; have szw4b := hbx.size; replace z2 := fun o => frozen_later hbx (World.block_lt_of_cell? _ _ k2_0) (z2 o); replace k0_0 := cell_later hbx k0_0; replace k0_1 := cell_later hbx k0_1; replace k0_2 := cell_later hbx k0_2; replace k0_3 := cell_later hbx k0_3; replace k0_4 := cell_later hbx k0_4; replace k0_5 := cell_later hbx k0_5; replace k0_6 := cell_later hbx k0_6; replace k0_7 := cell_later hbx k0_7; replace k1_0 := cell_later hbx k1_0; replace k1_1 := cell_later hbx k1_1; replace k1_2 := cell_later hbx k1_2; replace k1_3 := cell_later hbx k1_3; replace k1_4 := cell_later hbx k1_4; replace k1_5 := cell_later hbx k1_5; replace k1_6 := cell_later hbx k1_6; replace k1_7 := cell_later hbx k1_7; replace k2_0 := cell_later hbx k2_0; replace k2_1 := cell_later hbx k2_1; replace k2_2 := cell_later hbx k2_2; replace k2_3 := cell_later hbx k2_3; replace k2_4 := cell_later hbx k2_4; replace k2_5 := cell_later hbx k2_5; replace k2_6 := cell_later hbx k2_6; replace k2_7 := cell_later hbx k2_7; replace S1 := hide ((unhide S1).later hbx); replace S2 := hide ((unhide S2).later hbx); replace Px1 := hide ((unhide Px1).later hbx); replace Px2 := hide ((unhide Px2).later hbx); replace Px3 := hide ((unhide Px3).later hbx); have Px4 := hide (isQ_of a4 n4 k4); have HBr := hide (below_on (unhide HBr) hbx); clear hbx hb o4 a4 n4 k4)
    | (have chk := Px2; clear chk; go_at_call 115; refine (mulQI v.hi u.lo _ _ _ _ _ ?_ ?_ (mNz (unhide J1).hi (unhide J2).lo) ((unhide J1).hi.kn.mono (by omega)) ((unhide J1).hi.kd.mono (by omega)) ((unhide J2).lo.kn.mono (by omega)) ((unhide J2).lo.kd.mono (by omega))).mono ?_; exact (unhide S1).hi.is.later (Below.refl _ _); exact (unhide S2).lo.is.later (Below.refl _ _); rintro e w3b ⟨x3, lx3, mx3, rfl, hb, o3, a3, n3, k3⟩; have hbx : Below w2b.heap.size w2b w3b := hb; have szw3b := hbx.size; replace z2 := fun o => frozen_later hbx (World.block_lt_of_cell? _ _ k2_0) (z2 o); replace k0_0 := cell_later hbx k0_0; replace k0_1 := cell_later hbx k0_1; replace k0_2 := cell_later hbx k0_2; replace k0_3 := cell_later hbx k0_3; replace k0_4 := cell_later hbx k0_4; replace k0_5 := cell_later hbx k0_5; replace k0_6 := cell_later hbx k0_6; replace k0_7 := cell_later hbx k0_7; replace k1_0 := cell_later hbx k1_0; replace k1_1 := cell_later hbx k1_1; replace k1_2 := cell_later hbx k1_2; replace k1_3 := cell_later hbx k1_3; replace k1_4 := cell_later hbx k1_4; replace k1_5 := cell_later hbx k1_5; replace k1_6 := cell_later hbx k1_6; replace k1_7 := cell_later hbx k1_7; replace k2_0 := cell_later hbx k2_0; replace k2_1 := cell_later hbx k2_1; replace k2_2 := cell_later hbx k2_2; replace k2_3 := cell_later hbx k2_3; replace k2_4 := cell_later hbx k2_4; replace k2_5 := cell_later hbx k2_5; replace k2_6 := cell_later hbx k2_6; replace k2_7 := cell_later hbx k2_7; replace S1 := hide ((unhide S1).later hbx); replace S2 := hide ((unhide S2).later hbx); replace Px1 := hide ((unhide Px1).later hbx); replace Px2 := hide ((unhide Px2).later hbx); have Px3 := hide (isQ_of a3 n3 k3); have HBr := hide (below_on (unhide HBr) hbx); clear hbx hb o3 a3 n3 k3)
    | (have chk := Px1; clear chk; go_at_call 115; refine (mulQI v.lo u.hi _ _ _ _ _ ?_ ?_ (mNz (unhide J1).lo (unhide J2).hi) ((unhide J1).lo.kn.mono (by omega)) ((unhide J1).lo.kd.mono (by omega)) ((unhide J2).hi.kn.mono (by omega)) ((unhide J2).hi.kd.mono (by omega))).mono ?_; exact (unhide S1).lo.is.later (Below.refl _ _); exact (unhide S2).hi.is.later (Below.refl _ _); rintro e w2b ⟨x2, lx2, mx2, rfl, hb, o2, a2, n2, k2⟩; have hbx : Below w1b.heap.size w1b w2b := hb; have szw2b := hbx.size; replace z2 := fun o => frozen_later hbx (World.block_lt_of_cell? _ _ k2_0) (z2 o); replace k0_0 := cell_later hbx k0_0; replace k0_1 := cell_later hbx k0_1; replace k0_2 := cell_later hbx k0_2; replace k0_3 := cell_later hbx k0_3; replace k0_4 := cell_later hbx k0_4; replace k0_5 := cell_later hbx k0_5; replace k0_6 := cell_later hbx k0_6; replace k0_7 := cell_later hbx k0_7; replace k1_0 := cell_later hbx k1_0; replace k1_1 := cell_later hbx k1_1; replace k1_2 := cell_later hbx k1_2; replace k1_3 := cell_later hbx k1_3; replace k1_4 := cell_later hbx k1_4; replace k1_5 := cell_later hbx k1_5; replace k1_6 := cell_later hbx k1_6; replace k1_7 := cell_later hbx k1_7; replace k2_0 := cell_later hbx k2_0; replace k2_1 := cell_later hbx k2_1; replace k2_2 := cell_later hbx k2_2; replace k2_3 := cell_later hbx k2_3; replace k2_4 := cell_later hbx k2_4; replace k2_5 := cell_later hbx k2_5; replace k2_6 := cell_later hbx k2_6; replace k2_7 := cell_later hbx k2_7; replace S1 := hide ((unhide S1).later hbx); replace S2 := hide ((unhide S2).later hbx); replace Px1 := hide ((unhide Px1).later hbx); have Px2 := hide (isQ_of a2 n2 k2); have HBr := hide (below_on (unhide HBr) hbx); clear hbx hb o2 a2 n2 k2)
    | (go_at_call 115; refine (mulQI v.lo u.lo _ _ _ _ _ ?_ ?_ (mNz (unhide J1).lo (unhide J2).lo) ((unhide J1).lo.kn.mono (by omega)) ((unhide J1).lo.kd.mono (by omega)) ((unhide J2).lo.kn.mono (by omega)) ((unhide J2).lo.kd.mono (by omega))).mono ?_; exact (unhide S1).lo.is.later (Below.refl _ _).drew; exact (unhide S2).lo.is.later (Below.refl _ _).drew; rintro e w1b ⟨x1, lx1, mx1, rfl, hb, o1, a1, n1, k1⟩; have hbx : Below w0.heap.size w0 w1b := below_of_drew hb; have szw1b := hbx.size; replace z2 := fun o => frozen_later hbx (World.block_lt_of_cell? _ _ k2_0) (z2 o); replace k0_0 := cell_later hbx k0_0; replace k0_1 := cell_later hbx k0_1; replace k0_2 := cell_later hbx k0_2; replace k0_3 := cell_later hbx k0_3; replace k0_4 := cell_later hbx k0_4; replace k0_5 := cell_later hbx k0_5; replace k0_6 := cell_later hbx k0_6; replace k0_7 := cell_later hbx k0_7; replace k1_0 := cell_later hbx k1_0; replace k1_1 := cell_later hbx k1_1; replace k1_2 := cell_later hbx k1_2; replace k1_3 := cell_later hbx k1_3; replace k1_4 := cell_later hbx k1_4; replace k1_5 := cell_later hbx k1_5; replace k1_6 := cell_later hbx k1_6; replace k1_7 := cell_later hbx k1_7; replace k2_0 := cell_later hbx k2_0; replace k2_1 := cell_later hbx k2_1; replace k2_2 := cell_later hbx k2_2; replace k2_3 := cell_later hbx k2_3; replace k2_4 := cell_later hbx k2_4; replace k2_5 := cell_later hbx k2_5; replace k2_6 := cell_later hbx k2_6; replace k2_7 := cell_later hbx k2_7; replace S1 := hide ((unhide S1).later hbx); replace S2 := hide ((unhide S2).later hbx); have Px1 := hide (isQ_of a1 n1 k1); have HBr := hide hbx; clear hbx hb o1 a1 n1 k1))
  replace HB := hide (below_on (unhide HB) (unhide HBr))
  clear HBr
  go_wp2
  refine bodyPost_ret (v := .agg #[.bool r.lo.num.g, .slice r.lo.num.a r.lo.num.n r.lo.num.c, .bool r.lo.den.g, .slice r.lo.den.a r.lo.den.n r.lo.den.c, .bool r.hi.num.g, .slice r.hi.num.a r.hi.num.n r.hi.num.c, .bool r.hi.den.g, .slice r.hi.den.a r.hi.den.n r.hi.den.c]) (by simp [results, Try.results144, go_sem, k2_0, k2_1, k2_2, k2_3, k2_4, k2_5, k2_6, k2_7]) rfl ?_
  have oo := (unhide OR).1
  have aa := (unhide OR).2.1
  have n1 := (unhide OR).2.2.1
  have n2 := (unhide OR).2.2.2.1
  have n3 := (unhide OR).2.2.2.2.1
  have n4 := (unhide OR).2.2.2.2.2
  have f1 := fold_lo ([⟨x2, lowN (nQ d.lo * nQ e.hi) (dQ d.lo * dQ e.hi), lowD (nQ d.lo * nQ e.hi) (dQ d.lo * dQ e.hi)⟩, ⟨x3, lowN (nQ d.hi * nQ e.lo) (dQ d.hi * dQ e.lo), lowD (nQ d.hi * nQ e.lo) (dQ d.hi * dQ e.lo)⟩, ⟨x4, lowN (nQ d.hi * nQ e.hi) (dQ d.hi * dQ e.hi), lowD (nQ d.hi * nQ e.hi) (dQ d.hi * dQ e.hi)⟩] : List RQ) (⟨x1, lowN (nQ d.lo * nQ e.lo) (dQ d.lo * dQ e.lo), lowD (nQ d.lo * nQ e.lo) (dQ d.lo * dQ e.lo)⟩ : RQ)
  have f2 := fold_hi ([⟨x2, lowN (nQ d.lo * nQ e.hi) (dQ d.lo * dQ e.hi), lowD (nQ d.lo * nQ e.hi) (dQ d.lo * dQ e.hi)⟩, ⟨x3, lowN (nQ d.hi * nQ e.lo) (dQ d.hi * dQ e.lo), lowD (nQ d.hi * nQ e.lo) (dQ d.hi * dQ e.lo)⟩, ⟨x4, lowN (nQ d.hi * nQ e.hi) (dQ d.hi * dQ e.hi), lowD (nQ d.hi * nQ e.hi) (dQ d.hi * dQ e.hi)⟩] : List RQ) (⟨x1, lowN (nQ d.lo * nQ e.lo) (dQ d.lo * dQ e.lo), lowD (nQ d.lo * nQ e.lo) (dQ d.lo * dQ e.lo)⟩ : RQ)
  have e1 : (List.foldl stLo (⟨x1, lowN (nQ d.lo * nQ e.lo) (dQ d.lo * dQ e.lo), lowD (nQ d.lo * nQ e.lo) (dQ d.lo * dQ e.lo)⟩ : RQ) [⟨x2, lowN (nQ d.lo * nQ e.hi) (dQ d.lo * dQ e.hi), lowD (nQ d.lo * nQ e.hi) (dQ d.lo * dQ e.hi)⟩, ⟨x3, lowN (nQ d.hi * nQ e.lo) (dQ d.hi * dQ e.lo), lowD (nQ d.hi * nQ e.lo) (dQ d.hi * dQ e.lo)⟩, ⟨x4, lowN (nQ d.hi * nQ e.hi) (dQ d.hi * dQ e.hi), lowD (nQ d.hi * nQ e.hi) (dQ d.hi * dQ e.hi)⟩]).N = (mLo d e).1 := congrArg Prod.fst (f1)
  have e2 : (List.foldl stLo (⟨x1, lowN (nQ d.lo * nQ e.lo) (dQ d.lo * dQ e.lo), lowD (nQ d.lo * nQ e.lo) (dQ d.lo * dQ e.lo)⟩ : RQ) [⟨x2, lowN (nQ d.lo * nQ e.hi) (dQ d.lo * dQ e.hi), lowD (nQ d.lo * nQ e.hi) (dQ d.lo * dQ e.hi)⟩, ⟨x3, lowN (nQ d.hi * nQ e.lo) (dQ d.hi * dQ e.lo), lowD (nQ d.hi * nQ e.lo) (dQ d.hi * dQ e.lo)⟩, ⟨x4, lowN (nQ d.hi * nQ e.hi) (dQ d.hi * dQ e.hi), lowD (nQ d.hi * nQ e.hi) (dQ d.hi * dQ e.hi)⟩]).D = (mLo d e).2 := congrArg Prod.snd (f1)
  have e3 : (List.foldl stHi (⟨x1, lowN (nQ d.lo * nQ e.lo) (dQ d.lo * dQ e.lo), lowD (nQ d.lo * nQ e.lo) (dQ d.lo * dQ e.lo)⟩ : RQ) [⟨x2, lowN (nQ d.lo * nQ e.hi) (dQ d.lo * dQ e.hi), lowD (nQ d.lo * nQ e.hi) (dQ d.lo * dQ e.hi)⟩, ⟨x3, lowN (nQ d.hi * nQ e.lo) (dQ d.hi * dQ e.lo), lowD (nQ d.hi * nQ e.lo) (dQ d.hi * dQ e.lo)⟩, ⟨x4, lowN (nQ d.hi * nQ e.hi) (dQ d.hi * dQ e.hi), lowD (nQ d.hi * nQ e.hi) (dQ d.hi * dQ e.hi)⟩]).N = (mHi d e).1 := congrArg Prod.fst (f2)
  have e4 : (List.foldl stHi (⟨x1, lowN (nQ d.lo * nQ e.lo) (dQ d.lo * dQ e.lo), lowD (nQ d.lo * nQ e.lo) (dQ d.lo * dQ e.lo)⟩ : RQ) [⟨x2, lowN (nQ d.lo * nQ e.hi) (dQ d.lo * dQ e.hi), lowD (nQ d.lo * nQ e.hi) (dQ d.lo * dQ e.hi)⟩, ⟨x3, lowN (nQ d.hi * nQ e.lo) (dQ d.hi * dQ e.lo), lowD (nQ d.hi * nQ e.lo) (dQ d.hi * dQ e.lo)⟩, ⟨x4, lowN (nQ d.hi * nQ e.hi) (dQ d.hi * dQ e.hi), lowD (nQ d.hi * nQ e.hi) (dQ d.hi * dQ e.hi)⟩]).D = (mHi d e).2 := congrArg Prod.snd (f2)
  rw [e1, e2, e3, e4] at oo aa
  rw [e1] at n1
  rw [e2] at n2
  rw [e3] at n3
  rw [e4] at n4
  exact outS_fin (v := r) (R := w.heap.size + 1 + 1) (by omega) (unhide HB) (metS_but (w5 := w5b) (v := r) (G := w.heap.size + 1 + 1)) (oo.wide (by simp; omega) (Nat.le_refl _)) aa n1 n2 n3 n4

set_option maxHeartbeats 4000000 in
theorem ofMulS (v u : SV) (d e : SD) (w : World) (h : AllAr w [(v.lo.num, d.lo.num), (v.lo.den, d.lo.den), (v.hi.num, d.hi.num), (v.hi.den, d.hi.den)]) (h' : AllAr w [(u.lo.num, e.lo.num), (u.lo.den, e.lo.den), (u.hi.num, e.hi.num), (u.hi.den, e.hi.den)]) :
    Calls Try.prog 140 #[.agg #[.bool v.lo.num.g, .slice v.lo.num.a v.lo.num.n v.lo.num.c, .bool v.lo.den.g, .slice v.lo.den.a v.lo.den.n v.lo.den.c, .bool v.hi.num.g, .slice v.hi.num.a v.hi.num.n v.hi.num.c, .bool v.hi.den.g, .slice v.hi.den.a v.hi.den.n v.hi.den.c], .agg #[.bool u.lo.num.g, .slice u.lo.num.a u.lo.num.n u.lo.num.c, .bool u.lo.den.g, .slice u.lo.den.a u.lo.den.n u.lo.den.c, .bool u.hi.num.g, .slice u.hi.num.a u.hi.num.n u.hi.num.c, .bool u.hi.den.g, .slice u.hi.den.a u.hi.den.n u.hi.den.c], .func (Fn.func 144) #[] #[]] w (RetS w (AnsS (gS d && gS e) (mLo d e).1 (mLo d e).2 (mHi d e).1 (mHi d e).2)) := by
  have H1 := hide h
  have H2 := hide h'
  clear h h'
  cases hg1 : gS d
  · have G1 := hide (fun w1 (k : AllAr w1 [(v.lo.num, d.lo.num), (v.lo.den, d.lo.den), (v.hi.num, d.hi.num), (v.hi.den, d.hi.den)]) => goodSI v d w1 k)
    have G2 := hide (fun w1 (k : AllAr w1 [(u.lo.num, e.lo.num), (u.lo.den, e.lo.den), (u.hi.num, e.hi.num), (u.hi.den, e.hi.den)]) => goodSI u e w1 k)
    rw [hg1] at G1
    rw [Bool.false_and]
    clear hg1
    have B0 := hide (show Below w.heap.size w (((w.alloc (.cells #[.bool v.lo.num.g, .slice v.lo.num.a v.lo.num.n v.lo.num.c, .bool v.lo.den.g, .slice v.lo.den.a v.lo.den.n v.lo.den.c, .bool v.hi.num.g, .slice v.hi.num.a v.hi.num.n v.hi.num.c, .bool v.hi.den.g, .slice v.hi.den.a v.hi.den.n v.hi.den.c] 62)).alloc (.cells #[.bool u.lo.num.g, .slice u.lo.num.a u.lo.num.n u.lo.num.c, .bool u.lo.den.g, .slice u.lo.den.a u.lo.den.n u.lo.den.c, .bool u.hi.num.g, .slice u.hi.num.a u.hi.num.n u.hi.num.c, .bool u.hi.den.g, .slice u.hi.den.a u.hi.den.n u.hi.den.c] 62)).alloc (.cells #[.bool false, .slice none 0 0, .bool false, .slice none 0 0, .bool false, .slice none 0 0, .bool false, .slice none 0 0] 62)) from ((((Below.refl _ _).alloc (by simp) _).alloc (by simp) _).alloc (by simp <;> omega) _))
    go_enter Try.func140, Try.ntmps140
    go_wp2_with fail
    refine (unhide G1 _ ((unhide H1).later (unhide B0))).mono ?_
    rintro e w1 ⟨rfl, hb⟩
    have s1 : w.heap.size + 1 + 1 < w1.heap.size := by have := hb.size; simp at this; omega
    have k2_0 : w1.cell? ⟨w.heap.size + 1 + 1, 0, none⟩ = some (.bool false) := cell_later hb (by simp [go_sem])
    have k2_1 : w1.cell? ⟨w.heap.size + 1 + 1, 1, none⟩ = some (.slice none 0 0) := cell_later hb (by simp [go_sem])
    have k2_2 : w1.cell? ⟨w.heap.size + 1 + 1, 2, none⟩ = some (.bool false) := cell_later hb (by simp [go_sem])
    have k2_3 : w1.cell? ⟨w.heap.size + 1 + 1, 3, none⟩ = some (.slice none 0 0) := cell_later hb (by simp [go_sem])
    have k2_4 : w1.cell? ⟨w.heap.size + 1 + 1, 4, none⟩ = some (.bool false) := cell_later hb (by simp [go_sem])
    have k2_5 : w1.cell? ⟨w.heap.size + 1 + 1, 5, none⟩ = some (.slice none 0 0) := cell_later hb (by simp [go_sem])
    have k2_6 : w1.cell? ⟨w.heap.size + 1 + 1, 6, none⟩ = some (.bool false) := cell_later hb (by simp [go_sem])
    have k2_7 : w1.cell? ⟨w.heap.size + 1 + 1, 7, none⟩ = some (.slice none 0 0) := cell_later hb (by simp [go_sem])
    have z2 : ∀ o, w1.frozen? ⟨w.heap.size + 1 + 1, o, none⟩ = false := fun o => frozen_later hb (by simp) (by simp [go_sem])
    have HB := hide (below_on (unhide B0) hb)
    clear hb
    go_wp2
    refine bodyPost_ret (v := .tuple #[.agg #[.bool false, .slice none 0 0, .bool false, .slice none 0 0, .bool false, .slice none 0 0, .bool false, .slice none 0 0], .bool false]) (by simp [results, Try.results140, go_sem, k2_0, k2_1, k2_2, k2_3, k2_4, k2_5, k2_6, k2_7]) rfl ?_
    exact retS_fin (v := (⟨⟨⟨false, none, 0, 0⟩, ⟨false, none, 0, 0⟩⟩, ⟨⟨false, none, 0, 0⟩, ⟨false, none, 0, 0⟩⟩⟩ : SV)) (d := (⟨⟨⟨false, []⟩, ⟨false, []⟩⟩, ⟨⟨false, []⟩, ⟨false, []⟩⟩⟩ : SD)) (R := w.heap.size + 1 + 1) (by omega) (unhide HB) (metS_but (w5 := w1) (v := (⟨⟨⟨false, none, 0, 0⟩, ⟨false, none, 0, 0⟩⟩, ⟨⟨false, none, 0, 0⟩, ⟨false, none, 0, 0⟩⟩⟩ : SV)) (G := w.heap.size + 1 + 1)) (zeroS _ _ _) (ansS_none _ _ _ _)
  · cases hg2 : gS e
    · have G1 := hide (fun w1 (k : AllAr w1 [(v.lo.num, d.lo.num), (v.lo.den, d.lo.den), (v.hi.num, d.hi.num), (v.hi.den, d.hi.den)]) => goodSI v d w1 k)
      have G2 := hide (fun w1 (k : AllAr w1 [(u.lo.num, e.lo.num), (u.lo.den, e.lo.den), (u.hi.num, e.hi.num), (u.hi.den, e.hi.den)]) => goodSI u e w1 k)
      rw [hg1] at G1
      rw [hg2] at G2
      rw [Bool.true_and]
      clear hg1 hg2
      have B0 := hide (show Below w.heap.size w (((w.alloc (.cells #[.bool v.lo.num.g, .slice v.lo.num.a v.lo.num.n v.lo.num.c, .bool v.lo.den.g, .slice v.lo.den.a v.lo.den.n v.lo.den.c, .bool v.hi.num.g, .slice v.hi.num.a v.hi.num.n v.hi.num.c, .bool v.hi.den.g, .slice v.hi.den.a v.hi.den.n v.hi.den.c] 62)).alloc (.cells #[.bool u.lo.num.g, .slice u.lo.num.a u.lo.num.n u.lo.num.c, .bool u.lo.den.g, .slice u.lo.den.a u.lo.den.n u.lo.den.c, .bool u.hi.num.g, .slice u.hi.num.a u.hi.num.n u.hi.num.c, .bool u.hi.den.g, .slice u.hi.den.a u.hi.den.n u.hi.den.c] 62)).alloc (.cells #[.bool false, .slice none 0 0, .bool false, .slice none 0 0, .bool false, .slice none 0 0, .bool false, .slice none 0 0] 62)) from ((((Below.refl _ _).alloc (by simp) _).alloc (by simp) _).alloc (by simp <;> omega) _))
      go_enter Try.func140, Try.ntmps140
      go_wp2_with fail
      refine (unhide G1 _ ((unhide H1).later (unhide B0))).mono ?_
      rintro e w1 ⟨rfl, hb⟩
      have s1 : w.heap.size + 1 + 1 < w1.heap.size := by have := hb.size; simp at this; omega
      have k1_0 : w1.cell? ⟨w.heap.size + 1, 0, none⟩ = some (.bool u.lo.num.g) := cell_later hb (by simp [go_sem])
      have k1_1 : w1.cell? ⟨w.heap.size + 1, 1, none⟩ = some (.slice u.lo.num.a u.lo.num.n u.lo.num.c) := cell_later hb (by simp [go_sem])
      have k1_2 : w1.cell? ⟨w.heap.size + 1, 2, none⟩ = some (.bool u.lo.den.g) := cell_later hb (by simp [go_sem])
      have k1_3 : w1.cell? ⟨w.heap.size + 1, 3, none⟩ = some (.slice u.lo.den.a u.lo.den.n u.lo.den.c) := cell_later hb (by simp [go_sem])
      have k1_4 : w1.cell? ⟨w.heap.size + 1, 4, none⟩ = some (.bool u.hi.num.g) := cell_later hb (by simp [go_sem])
      have k1_5 : w1.cell? ⟨w.heap.size + 1, 5, none⟩ = some (.slice u.hi.num.a u.hi.num.n u.hi.num.c) := cell_later hb (by simp [go_sem])
      have k1_6 : w1.cell? ⟨w.heap.size + 1, 6, none⟩ = some (.bool u.hi.den.g) := cell_later hb (by simp [go_sem])
      have k1_7 : w1.cell? ⟨w.heap.size + 1, 7, none⟩ = some (.slice u.hi.den.a u.hi.den.n u.hi.den.c) := cell_later hb (by simp [go_sem])
      have k2_0 : w1.cell? ⟨w.heap.size + 1 + 1, 0, none⟩ = some (.bool false) := cell_later hb (by simp [go_sem])
      have k2_1 : w1.cell? ⟨w.heap.size + 1 + 1, 1, none⟩ = some (.slice none 0 0) := cell_later hb (by simp [go_sem])
      have k2_2 : w1.cell? ⟨w.heap.size + 1 + 1, 2, none⟩ = some (.bool false) := cell_later hb (by simp [go_sem])
      have k2_3 : w1.cell? ⟨w.heap.size + 1 + 1, 3, none⟩ = some (.slice none 0 0) := cell_later hb (by simp [go_sem])
      have k2_4 : w1.cell? ⟨w.heap.size + 1 + 1, 4, none⟩ = some (.bool false) := cell_later hb (by simp [go_sem])
      have k2_5 : w1.cell? ⟨w.heap.size + 1 + 1, 5, none⟩ = some (.slice none 0 0) := cell_later hb (by simp [go_sem])
      have k2_6 : w1.cell? ⟨w.heap.size + 1 + 1, 6, none⟩ = some (.bool false) := cell_later hb (by simp [go_sem])
      have k2_7 : w1.cell? ⟨w.heap.size + 1 + 1, 7, none⟩ = some (.slice none 0 0) := cell_later hb (by simp [go_sem])
      have z2 : ∀ o, w1.frozen? ⟨w.heap.size + 1 + 1, o, none⟩ = false := fun o => frozen_later hb (by simp) (by simp [go_sem])
      have HB := hide (below_on (unhide B0) hb)
      clear hb
      go_wp2_with fail
      refine (unhide G2 _ ((unhide H2).later (unhide HB))).mono ?_
      rintro e w2 ⟨rfl, hb⟩
      have s2 := hb.size
      replace z2 := fun o => frozen_later hb (World.block_lt_of_cell? _ _ k2_0) (z2 o)
      replace k2_0 := cell_later hb k2_0
      replace k2_1 := cell_later hb k2_1
      replace k2_2 := cell_later hb k2_2
      replace k2_3 := cell_later hb k2_3
      replace k2_4 := cell_later hb k2_4
      replace k2_5 := cell_later hb k2_5
      replace k2_6 := cell_later hb k2_6
      replace k2_7 := cell_later hb k2_7
      clear k1_0 k1_1 k1_2 k1_3 k1_4 k1_5 k1_6 k1_7
      replace HB := hide (below_on (unhide HB) hb)
      clear hb
      go_wp2
      refine bodyPost_ret (v := .tuple #[.agg #[.bool false, .slice none 0 0, .bool false, .slice none 0 0, .bool false, .slice none 0 0, .bool false, .slice none 0 0], .bool false]) (by simp [results, Try.results140, go_sem, k2_0, k2_1, k2_2, k2_3, k2_4, k2_5, k2_6, k2_7]) rfl ?_
      exact retS_fin (v := (⟨⟨⟨false, none, 0, 0⟩, ⟨false, none, 0, 0⟩⟩, ⟨⟨false, none, 0, 0⟩, ⟨false, none, 0, 0⟩⟩⟩ : SV)) (d := (⟨⟨⟨false, []⟩, ⟨false, []⟩⟩, ⟨⟨false, []⟩, ⟨false, []⟩⟩⟩ : SD)) (R := w.heap.size + 1 + 1) (by omega) (unhide HB) (metS_but (w5 := w2) (v := (⟨⟨⟨false, none, 0, 0⟩, ⟨false, none, 0, 0⟩⟩, ⟨⟨false, none, 0, 0⟩, ⟨false, none, 0, 0⟩⟩⟩ : SV)) (G := w.heap.size + 1 + 1)) (zeroS _ _ _) (ansS_none _ _ _ _)
    · have G1 := hide (fun w1 (k : AllAr w1 [(v.lo.num, d.lo.num), (v.lo.den, d.lo.den), (v.hi.num, d.hi.num), (v.hi.den, d.hi.den)]) => goodSI v d w1 k)
      have G2 := hide (fun w1 (k : AllAr w1 [(u.lo.num, e.lo.num), (u.lo.den, e.lo.den), (u.hi.num, e.hi.num), (u.hi.den, e.hi.den)]) => goodSI u e w1 k)
      rw [hg1] at G1
      rw [hg2] at G2
      have j1 := isGoodS_of (unhide H1) hg1
      have j2 := isGoodS_of (unhide H2) hg2
      have NZ : Hid ((mLo d e).2 ≠ 0 ∧ (mHi d e).2 ≠ 0) := hide ⟨by have := (mPos j1 j2).1; omega, by have := (mPos j1 j2).2; omega⟩
      have J1 := hide j1
      have J2 := hide j2
      rw [Bool.true_and]
      clear hg1 hg2 j1 j2
      have B0 := hide (show Below w.heap.size w (((w.alloc (.cells #[.bool v.lo.num.g, .slice v.lo.num.a v.lo.num.n v.lo.num.c, .bool v.lo.den.g, .slice v.lo.den.a v.lo.den.n v.lo.den.c, .bool v.hi.num.g, .slice v.hi.num.a v.hi.num.n v.hi.num.c, .bool v.hi.den.g, .slice v.hi.den.a v.hi.den.n v.hi.den.c] 62)).alloc (.cells #[.bool u.lo.num.g, .slice u.lo.num.a u.lo.num.n u.lo.num.c, .bool u.lo.den.g, .slice u.lo.den.a u.lo.den.n u.lo.den.c, .bool u.hi.num.g, .slice u.hi.num.a u.hi.num.n u.hi.num.c, .bool u.hi.den.g, .slice u.hi.den.a u.hi.den.n u.hi.den.c] 62)).alloc (.cells #[.bool false, .slice none 0 0, .bool false, .slice none 0 0, .bool false, .slice none 0 0, .bool false, .slice none 0 0] 62)) from ((((Below.refl _ _).alloc (by simp) _).alloc (by simp) _).alloc (by simp <;> omega) _))
      go_enter Try.func140, Try.ntmps140
      go_wp2_with fail
      refine (unhide G1 _ ((unhide H1).later (unhide B0))).mono ?_
      rintro e w1 ⟨rfl, hb⟩
      have s1 : w.heap.size + 1 + 1 < w1.heap.size := by have := hb.size; simp at this; omega
      have k0_0 : w1.cell? ⟨w.heap.size, 0, none⟩ = some (.bool v.lo.num.g) := cell_later hb (by simp [go_sem])
      have k0_1 : w1.cell? ⟨w.heap.size, 1, none⟩ = some (.slice v.lo.num.a v.lo.num.n v.lo.num.c) := cell_later hb (by simp [go_sem])
      have k0_2 : w1.cell? ⟨w.heap.size, 2, none⟩ = some (.bool v.lo.den.g) := cell_later hb (by simp [go_sem])
      have k0_3 : w1.cell? ⟨w.heap.size, 3, none⟩ = some (.slice v.lo.den.a v.lo.den.n v.lo.den.c) := cell_later hb (by simp [go_sem])
      have k0_4 : w1.cell? ⟨w.heap.size, 4, none⟩ = some (.bool v.hi.num.g) := cell_later hb (by simp [go_sem])
      have k0_5 : w1.cell? ⟨w.heap.size, 5, none⟩ = some (.slice v.hi.num.a v.hi.num.n v.hi.num.c) := cell_later hb (by simp [go_sem])
      have k0_6 : w1.cell? ⟨w.heap.size, 6, none⟩ = some (.bool v.hi.den.g) := cell_later hb (by simp [go_sem])
      have k0_7 : w1.cell? ⟨w.heap.size, 7, none⟩ = some (.slice v.hi.den.a v.hi.den.n v.hi.den.c) := cell_later hb (by simp [go_sem])
      have k1_0 : w1.cell? ⟨w.heap.size + 1, 0, none⟩ = some (.bool u.lo.num.g) := cell_later hb (by simp [go_sem])
      have k1_1 : w1.cell? ⟨w.heap.size + 1, 1, none⟩ = some (.slice u.lo.num.a u.lo.num.n u.lo.num.c) := cell_later hb (by simp [go_sem])
      have k1_2 : w1.cell? ⟨w.heap.size + 1, 2, none⟩ = some (.bool u.lo.den.g) := cell_later hb (by simp [go_sem])
      have k1_3 : w1.cell? ⟨w.heap.size + 1, 3, none⟩ = some (.slice u.lo.den.a u.lo.den.n u.lo.den.c) := cell_later hb (by simp [go_sem])
      have k1_4 : w1.cell? ⟨w.heap.size + 1, 4, none⟩ = some (.bool u.hi.num.g) := cell_later hb (by simp [go_sem])
      have k1_5 : w1.cell? ⟨w.heap.size + 1, 5, none⟩ = some (.slice u.hi.num.a u.hi.num.n u.hi.num.c) := cell_later hb (by simp [go_sem])
      have k1_6 : w1.cell? ⟨w.heap.size + 1, 6, none⟩ = some (.bool u.hi.den.g) := cell_later hb (by simp [go_sem])
      have k1_7 : w1.cell? ⟨w.heap.size + 1, 7, none⟩ = some (.slice u.hi.den.a u.hi.den.n u.hi.den.c) := cell_later hb (by simp [go_sem])
      have k2_0 : w1.cell? ⟨w.heap.size + 1 + 1, 0, none⟩ = some (.bool false) := cell_later hb (by simp [go_sem])
      have k2_1 : w1.cell? ⟨w.heap.size + 1 + 1, 1, none⟩ = some (.slice none 0 0) := cell_later hb (by simp [go_sem])
      have k2_2 : w1.cell? ⟨w.heap.size + 1 + 1, 2, none⟩ = some (.bool false) := cell_later hb (by simp [go_sem])
      have k2_3 : w1.cell? ⟨w.heap.size + 1 + 1, 3, none⟩ = some (.slice none 0 0) := cell_later hb (by simp [go_sem])
      have k2_4 : w1.cell? ⟨w.heap.size + 1 + 1, 4, none⟩ = some (.bool false) := cell_later hb (by simp [go_sem])
      have k2_5 : w1.cell? ⟨w.heap.size + 1 + 1, 5, none⟩ = some (.slice none 0 0) := cell_later hb (by simp [go_sem])
      have k2_6 : w1.cell? ⟨w.heap.size + 1 + 1, 6, none⟩ = some (.bool false) := cell_later hb (by simp [go_sem])
      have k2_7 : w1.cell? ⟨w.heap.size + 1 + 1, 7, none⟩ = some (.slice none 0 0) := cell_later hb (by simp [go_sem])
      have z2 : ∀ o, w1.frozen? ⟨w.heap.size + 1 + 1, o, none⟩ = false := fun o => frozen_later hb (by simp) (by simp [go_sem])
      have HB := hide (below_on (unhide B0) hb)
      clear hb
      go_wp2_with fail
      refine (unhide G2 _ ((unhide H2).later (unhide HB))).mono ?_
      rintro e w2 ⟨rfl, hb⟩
      have s2 := hb.size
      replace z2 := fun o => frozen_later hb (World.block_lt_of_cell? _ _ k2_0) (z2 o)
      replace k0_0 := cell_later hb k0_0
      replace k0_1 := cell_later hb k0_1
      replace k0_2 := cell_later hb k0_2
      replace k0_3 := cell_later hb k0_3
      replace k0_4 := cell_later hb k0_4
      replace k0_5 := cell_later hb k0_5
      replace k0_6 := cell_later hb k0_6
      replace k0_7 := cell_later hb k0_7
      replace k1_0 := cell_later hb k1_0
      replace k1_1 := cell_later hb k1_1
      replace k1_2 := cell_later hb k1_2
      replace k1_3 := cell_later hb k1_3
      replace k1_4 := cell_later hb k1_4
      replace k1_5 := cell_later hb k1_5
      replace k1_6 := cell_later hb k1_6
      replace k1_7 := cell_later hb k1_7
      replace k2_0 := cell_later hb k2_0
      replace k2_1 := cell_later hb k2_1
      replace k2_2 := cell_later hb k2_2
      replace k2_3 := cell_later hb k2_3
      replace k2_4 := cell_later hb k2_4
      replace k2_5 := cell_later hb k2_5
      replace k2_6 := cell_later hb k2_6
      replace k2_7 := cell_later hb k2_7
      replace HB := hide (below_on (unhide HB) hb)
      clear hb
      go_wp2_with fail
      refine (mulSpans_v v u d e _ ((unhide J1).later (unhide HB)) ((unhide J2).later (unhide HB))).mono ?_
      rintro e w3 ⟨r, xs, us, ys, vs, rfl, hb, or, ar, n1, n2, n3, n4⟩
      have s3 := hb.size
      have M1 : r.lo.den.n ≤ maxLen := Nat.le_trans ar.tail.head.ar.cap ar.tail.head.ar.top
      have M2 : r.hi.den.n ≤ maxLen := Nat.le_trans ar.tail.tail.tail.head.ar.cap ar.tail.tail.tail.head.ar.top
      have NN := hide (And.intro n1 (And.intro n2 (And.intro n3 n4)))
      replace z2 := fun o => frozen_later hb (World.block_lt_of_cell? _ _ k2_0) (z2 o)
      replace k2_0 := cell_later hb k2_0
      replace k2_1 := cell_later hb k2_1
      replace k2_2 := cell_later hb k2_2
      replace k2_3 := cell_later hb k2_3
      replace k2_4 := cell_later hb k2_4
      replace k2_5 := cell_later hb k2_5
      replace k2_6 := cell_later hb k2_6
      replace k2_7 := cell_later hb k2_7
      clear k0_0 k0_1 k0_2 k0_3 k0_4 k0_5 k0_6 k0_7 k1_0 k1_1 k1_2 k1_3 k1_4 k1_5 k1_6 k1_7
      have OR := hide (or)
      replace HB := hide (below_on (unhide HB) hb)
      clear hb
      clear or ar n1 n2 n3 n4
      go_wp2_with fail
      refine (whereS r _ _ _ _ xs us ys vs w2.heap.size w3.heap.size _ (unhide OR) (Nat.le_refl _) M1 M2 (unhide NN).1 (unhide NN).2.1 (unhide NN).2.2.1 (unhide NN).2.2.2 (unhide NZ).1 (unhide NZ).2).mono ?_
      rintro e w4 ⟨r2, dr, ok, rfl, hb, ov, hu⟩
      have s4 := hb.size
      have UU := hide hu
      replace z2 := fun o => frozen_later hb (World.block_lt_of_cell? _ _ k2_0) (z2 o)
      replace k2_0 := cell_later hb k2_0
      replace k2_1 := cell_later hb k2_1
      replace k2_2 := cell_later hb k2_2
      replace k2_3 := cell_later hb k2_3
      replace k2_4 := cell_later hb k2_4
      replace k2_5 := cell_later hb k2_5
      replace k2_6 := cell_later hb k2_6
      replace k2_7 := cell_later hb k2_7
      replace OR := hide ((unhide OR).later hb)
      have OV := hide (ov)
      replace HB := hide (below_on (unhide HB) hb)
      clear hb
      clear ov hu
      go_wp2
      refine bodyPost_ret (v := .tuple #[.agg #[.bool r2.lo.num.g, .slice r2.lo.num.a r2.lo.num.n r2.lo.num.c, .bool r2.lo.den.g, .slice r2.lo.den.a r2.lo.den.n r2.lo.den.c, .bool r2.hi.num.g, .slice r2.hi.num.a r2.hi.num.n r2.hi.num.c, .bool r2.hi.den.g, .slice r2.hi.den.a r2.hi.den.n r2.hi.den.c], .bool ok]) (by simp [results, Try.results140, go_sem, k2_0, k2_1, k2_2, k2_3, k2_4, k2_5, k2_6, k2_7]) rfl ?_
      exact retS_fin (v := r2) (d := dr) (R := w.heap.size + 1 + 1) (by omega) (unhide HB) (metS_but (w5 := w4) (v := r2) (G := w.heap.size + 1 + 1)) ((unhide OV).wide (by omega) (by omega)) (unhide UU)

set_option maxHeartbeats 4000000 in
theorem MulSI (v u : SV) (d e : SD) (w : World) (h : AllAr w [(v.lo.num, d.lo.num), (v.lo.den, d.lo.den), (v.hi.num, d.hi.num), (v.hi.den, d.hi.den)]) (h' : AllAr w [(u.lo.num, e.lo.num), (u.lo.den, e.lo.den), (u.hi.num, e.hi.num), (u.hi.den, e.hi.den)]) : Calls Try.prog 76 #[.agg #[.bool v.lo.num.g, .slice v.lo.num.a v.lo.num.n v.lo.num.c, .bool v.lo.den.g, .slice v.lo.den.a v.lo.den.n v.lo.den.c, .bool v.hi.num.g, .slice v.hi.num.a v.hi.num.n v.hi.num.c, .bool v.hi.den.g, .slice v.hi.den.a v.hi.den.n v.hi.den.c], .agg #[.bool u.lo.num.g, .slice u.lo.num.a u.lo.num.n u.lo.num.c, .bool u.lo.den.g, .slice u.lo.den.a u.lo.den.n u.lo.den.c, .bool u.hi.num.g, .slice u.hi.num.a u.hi.num.n u.hi.num.c, .bool u.hi.den.g, .slice u.hi.den.a u.hi.den.n u.hi.den.c]] w (RetS w (AnsS (gS d && gS e) (mLo d e).1 (mLo d e).2 (mHi d e).1 (mHi d e).2)) := by
  have H1 := hide h
  have H2 := hide h'
  clear h h'
  have B0 := hide (show Below w.heap.size w (((w.alloc (.cells #[.bool v.lo.num.g, .slice v.lo.num.a v.lo.num.n v.lo.num.c, .bool v.lo.den.g, .slice v.lo.den.a v.lo.den.n v.lo.den.c, .bool v.hi.num.g, .slice v.hi.num.a v.hi.num.n v.hi.num.c, .bool v.hi.den.g, .slice v.hi.den.a v.hi.den.n v.hi.den.c] 62)).alloc (.cells #[.bool u.lo.num.g, .slice u.lo.num.a u.lo.num.n u.lo.num.c, .bool u.lo.den.g, .slice u.lo.den.a u.lo.den.n u.lo.den.c, .bool u.hi.num.g, .slice u.hi.num.a u.hi.num.n u.hi.num.c, .bool u.hi.den.g, .slice u.hi.den.a u.hi.den.n u.hi.den.c] 62)).alloc (.cells #[.bool false, .slice none 0 0, .bool false, .slice none 0 0, .bool false, .slice none 0 0, .bool false, .slice none 0 0] 62)) from ((((Below.refl _ _).alloc (by simp) _).alloc (by simp) _).alloc (by simp <;> omega) _))
  go_enter Try.func76, Try.ntmps76
  go_wp2_with fail
  refine (ofMulS v u d e _ ((unhide H1).later (unhide B0)) ((unhide H2).later (unhide B0))).mono ?_
  rintro e w2 ⟨r2, dr, ok, rfl, hb, ov, hu⟩
  have s2 : w.heap.size + 1 + 1 < w2.heap.size := by have := hb.size; simp at this; omega
  have UU := hide hu
  replace ov := ov.wide (lo' := w.heap.size + 1 + 1 + 1) (by simp) (Nat.le_refl _)
  have k2_0 : w2.cell? ⟨w.heap.size + 1 + 1, 0, none⟩ = some (.bool false) := cell_later hb (by simp [go_sem])
  have k2_1 : w2.cell? ⟨w.heap.size + 1 + 1, 1, none⟩ = some (.slice none 0 0) := cell_later hb (by simp [go_sem])
  have k2_2 : w2.cell? ⟨w.heap.size + 1 + 1, 2, none⟩ = some (.bool false) := cell_later hb (by simp [go_sem])
  have k2_3 : w2.cell? ⟨w.heap.size + 1 + 1, 3, none⟩ = some (.slice none 0 0) := cell_later hb (by simp [go_sem])
  have k2_4 : w2.cell? ⟨w.heap.size + 1 + 1, 4, none⟩ = some (.bool false) := cell_later hb (by simp [go_sem])
  have k2_5 : w2.cell? ⟨w.heap.size + 1 + 1, 5, none⟩ = some (.slice none 0 0) := cell_later hb (by simp [go_sem])
  have k2_6 : w2.cell? ⟨w.heap.size + 1 + 1, 6, none⟩ = some (.bool false) := cell_later hb (by simp [go_sem])
  have k2_7 : w2.cell? ⟨w.heap.size + 1 + 1, 7, none⟩ = some (.slice none 0 0) := cell_later hb (by simp [go_sem])
  have z2 : ∀ o, w2.frozen? ⟨w.heap.size + 1 + 1, o, none⟩ = false := fun o => frozen_later hb (by simp) (by simp [go_sem])
  have OV := hide (ov)
  have HB := hide (below_on (unhide B0) hb)
  clear hb
  clear ov hu
  go_wp2
  refine bodyPost_ret (v := .tuple #[.agg #[.bool r2.lo.num.g, .slice r2.lo.num.a r2.lo.num.n r2.lo.num.c, .bool r2.lo.den.g, .slice r2.lo.den.a r2.lo.den.n r2.lo.den.c, .bool r2.hi.num.g, .slice r2.hi.num.a r2.hi.num.n r2.hi.num.c, .bool r2.hi.den.g, .slice r2.hi.den.a r2.hi.den.n r2.hi.den.c], .bool ok]) (by simp [results, Try.results76, go_sem, k2_0, k2_1, k2_2, k2_3, k2_4, k2_5, k2_6, k2_7]) rfl ?_
  exact retS_fin (v := r2) (d := dr) (R := w.heap.size + 1 + 1) (by omega) (unhide HB) (metS_but (w5 := w2) (v := r2) (G := w.heap.size + 1 + 1)) ((unhide OV).wide (by omega) (by omega)) (unhide UU)

set_option maxHeartbeats 8000000 in
theorem MulSS (v u : SV) (d e : SD) (w : World) (h : AllAr w [(v.lo.num, d.lo.num), (v.lo.den, d.lo.den), (v.hi.num, d.hi.num), (v.hi.den, d.hi.den)]) (h' : AllAr w [(u.lo.num, e.lo.num), (u.lo.den, e.lo.den), (u.hi.num, e.hi.num), (u.hi.den, e.hi.den)]) : Calls Try.prog 75 #[.agg #[.bool v.lo.num.g, .slice v.lo.num.a v.lo.num.n v.lo.num.c, .bool v.lo.den.g, .slice v.lo.den.a v.lo.den.n v.lo.den.c, .bool v.hi.num.g, .slice v.hi.num.a v.hi.num.n v.hi.num.c, .bool v.hi.den.g, .slice v.hi.den.a v.hi.den.n v.hi.den.c], .agg #[.bool u.lo.num.g, .slice u.lo.num.a u.lo.num.n u.lo.num.c, .bool u.lo.den.g, .slice u.lo.den.a u.lo.den.n u.lo.den.c, .bool u.hi.num.g, .slice u.hi.num.a u.hi.num.n u.hi.num.c, .bool u.hi.den.g, .slice u.hi.den.a u.hi.den.n u.hi.den.c]] w (RetS w (AnsS (gS d && gS e) (mLo d e).1 (mLo d e).2 (mHi d e).1 (mHi d e).2)) := by
  have H1 := hide h
  have H2 := hide h'
  clear h h'
  cases hP : (gS d && gS e)
  · have GB := hide (fun w1 (k : AllAr w1 [(v.lo.num, d.lo.num), (v.lo.den, d.lo.den), (v.hi.num, d.hi.num), (v.hi.den, d.hi.den)]) (k' : AllAr w1 [(u.lo.num, e.lo.num), (u.lo.den, e.lo.den), (u.hi.num, e.hi.num), (u.hi.den, e.hi.den)]) => bothSS v u d e w1 k k')
    rw [hP] at GB
    clear hP
    have B0 := hide (show Below w.heap.size w (((w.alloc (.cells #[.bool v.lo.num.g, .slice v.lo.num.a v.lo.num.n v.lo.num.c, .bool v.lo.den.g, .slice v.lo.den.a v.lo.den.n v.lo.den.c, .bool v.hi.num.g, .slice v.hi.num.a v.hi.num.n v.hi.num.c, .bool v.hi.den.g, .slice v.hi.den.a v.hi.den.n v.hi.den.c] 62)).alloc (.cells #[.bool u.lo.num.g, .slice u.lo.num.a u.lo.num.n u.lo.num.c, .bool u.lo.den.g, .slice u.lo.den.a u.lo.den.n u.lo.den.c, .bool u.hi.num.g, .slice u.hi.num.a u.hi.num.n u.hi.num.c, .bool u.hi.den.g, .slice u.hi.den.a u.hi.den.n u.hi.den.c] 62)).alloc (.cells #[.bool false, .slice none 0 0, .bool false, .slice none 0 0, .bool false, .slice none 0 0, .bool false, .slice none 0 0] 62)) from ((((Below.refl _ _).alloc (by simp) _).alloc (by simp) _).alloc (by simp <;> omega) _))
    go_enter Try.func75, Try.ntmps75
    go_wp2_with fail
    refine (unhide GB _ ((unhide H1).later (unhide B0)) ((unhide H2).later (unhide B0))).mono ?_
    rintro e w1 ⟨rfl, hb⟩
    have s1 : w.heap.size + 1 + 1 < w1.heap.size := by have := hb.size; simp at this; omega
    have k2_0 : w1.cell? ⟨w.heap.size + 1 + 1, 0, none⟩ = some (.bool false) := cell_later hb (by simp [go_sem])
    have k2_1 : w1.cell? ⟨w.heap.size + 1 + 1, 1, none⟩ = some (.slice none 0 0) := cell_later hb (by simp [go_sem])
    have k2_2 : w1.cell? ⟨w.heap.size + 1 + 1, 2, none⟩ = some (.bool false) := cell_later hb (by simp [go_sem])
    have k2_3 : w1.cell? ⟨w.heap.size + 1 + 1, 3, none⟩ = some (.slice none 0 0) := cell_later hb (by simp [go_sem])
    have k2_4 : w1.cell? ⟨w.heap.size + 1 + 1, 4, none⟩ = some (.bool false) := cell_later hb (by simp [go_sem])
    have k2_5 : w1.cell? ⟨w.heap.size + 1 + 1, 5, none⟩ = some (.slice none 0 0) := cell_later hb (by simp [go_sem])
    have k2_6 : w1.cell? ⟨w.heap.size + 1 + 1, 6, none⟩ = some (.bool false) := cell_later hb (by simp [go_sem])
    have k2_7 : w1.cell? ⟨w.heap.size + 1 + 1, 7, none⟩ = some (.slice none 0 0) := cell_later hb (by simp [go_sem])
    have z2 : ∀ o, w1.frozen? ⟨w.heap.size + 1 + 1, o, none⟩ = false := fun o => frozen_later hb (by simp) (by simp [go_sem])
    have HB := hide (below_on (unhide B0) hb)
    clear hb
    go_wp2
    refine bodyPost_ret (v := .tuple #[.agg #[.bool false, .slice none 0 0, .bool false, .slice none 0 0, .bool false, .slice none 0 0, .bool false, .slice none 0 0], .bool false]) (by simp [results, Try.results75, go_sem, k2_0, k2_1, k2_2, k2_3, k2_4, k2_5, k2_6, k2_7]) rfl ?_
    exact retS_fin (v := (⟨⟨⟨false, none, 0, 0⟩, ⟨false, none, 0, 0⟩⟩, ⟨⟨false, none, 0, 0⟩, ⟨false, none, 0, 0⟩⟩⟩ : SV)) (d := (⟨⟨⟨false, []⟩, ⟨false, []⟩⟩, ⟨⟨false, []⟩, ⟨false, []⟩⟩⟩ : SD)) (R := w.heap.size + 1 + 1) (by omega) (unhide HB) (metS_but (w5 := w1) (v := (⟨⟨⟨false, none, 0, 0⟩, ⟨false, none, 0, 0⟩⟩, ⟨⟨false, none, 0, 0⟩, ⟨false, none, 0, 0⟩⟩⟩ : SV)) (G := w.heap.size + 1 + 1)) (zeroS _ _ _) (ansS_none _ _ _ _)
  · have GB := hide (fun w1 (k : AllAr w1 [(v.lo.num, d.lo.num), (v.lo.den, d.lo.den), (v.hi.num, d.hi.num), (v.hi.den, d.hi.den)]) (k' : AllAr w1 [(u.lo.num, e.lo.num), (u.lo.den, e.lo.den), (u.hi.num, e.hi.num), (u.hi.den, e.hi.den)]) => bothSS v u d e w1 k k')
    rw [hP] at GB
    have hg1 : gS d = true := by revert hP; cases gS d <;> simp
    have hg2 : gS e = true := by revert hP; cases gS e <;> simp
    have j1 := isGoodS_of (unhide H1) hg1
    have j2 := isGoodS_of (unhide H2) hg2
    have NZ := hide (mPos j1 j2)
    have J1 := hide j1
    have J2 := hide j2
    clear hP hg1 hg2 j1 j2
    have B0 := hide (show Below w.heap.size w (((w.alloc (.cells #[.bool v.lo.num.g, .slice v.lo.num.a v.lo.num.n v.lo.num.c, .bool v.lo.den.g, .slice v.lo.den.a v.lo.den.n v.lo.den.c, .bool v.hi.num.g, .slice v.hi.num.a v.hi.num.n v.hi.num.c, .bool v.hi.den.g, .slice v.hi.den.a v.hi.den.n v.hi.den.c] 62)).alloc (.cells #[.bool u.lo.num.g, .slice u.lo.num.a u.lo.num.n u.lo.num.c, .bool u.lo.den.g, .slice u.lo.den.a u.lo.den.n u.lo.den.c, .bool u.hi.num.g, .slice u.hi.num.a u.hi.num.n u.hi.num.c, .bool u.hi.den.g, .slice u.hi.den.a u.hi.den.n u.hi.den.c] 62)).alloc (.cells #[.bool false, .slice none 0 0, .bool false, .slice none 0 0, .bool false, .slice none 0 0, .bool false, .slice none 0 0] 62)) from ((((Below.refl _ _).alloc (by simp) _).alloc (by simp) _).alloc (by simp <;> omega) _))
    go_enter Try.func75, Try.ntmps75
    go_wp2_with fail
    refine (unhide GB _ ((unhide H1).later (unhide B0)) ((unhide H2).later (unhide B0))).mono ?_
    rintro e w1 ⟨rfl, hb⟩
    have s1 : w.heap.size + 1 + 1 < w1.heap.size := by have := hb.size; simp at this; omega
    have k0_0 : w1.cell? ⟨w.heap.size, 0, none⟩ = some (.bool v.lo.num.g) := cell_later hb (by simp [go_sem])
    have k0_1 : w1.cell? ⟨w.heap.size, 1, none⟩ = some (.slice v.lo.num.a v.lo.num.n v.lo.num.c) := cell_later hb (by simp [go_sem])
    have k0_2 : w1.cell? ⟨w.heap.size, 2, none⟩ = some (.bool v.lo.den.g) := cell_later hb (by simp [go_sem])
    have k0_3 : w1.cell? ⟨w.heap.size, 3, none⟩ = some (.slice v.lo.den.a v.lo.den.n v.lo.den.c) := cell_later hb (by simp [go_sem])
    have k0_4 : w1.cell? ⟨w.heap.size, 4, none⟩ = some (.bool v.hi.num.g) := cell_later hb (by simp [go_sem])
    have k0_5 : w1.cell? ⟨w.heap.size, 5, none⟩ = some (.slice v.hi.num.a v.hi.num.n v.hi.num.c) := cell_later hb (by simp [go_sem])
    have k0_6 : w1.cell? ⟨w.heap.size, 6, none⟩ = some (.bool v.hi.den.g) := cell_later hb (by simp [go_sem])
    have k0_7 : w1.cell? ⟨w.heap.size, 7, none⟩ = some (.slice v.hi.den.a v.hi.den.n v.hi.den.c) := cell_later hb (by simp [go_sem])
    have k1_0 : w1.cell? ⟨w.heap.size + 1, 0, none⟩ = some (.bool u.lo.num.g) := cell_later hb (by simp [go_sem])
    have k1_1 : w1.cell? ⟨w.heap.size + 1, 1, none⟩ = some (.slice u.lo.num.a u.lo.num.n u.lo.num.c) := cell_later hb (by simp [go_sem])
    have k1_2 : w1.cell? ⟨w.heap.size + 1, 2, none⟩ = some (.bool u.lo.den.g) := cell_later hb (by simp [go_sem])
    have k1_3 : w1.cell? ⟨w.heap.size + 1, 3, none⟩ = some (.slice u.lo.den.a u.lo.den.n u.lo.den.c) := cell_later hb (by simp [go_sem])
    have k1_4 : w1.cell? ⟨w.heap.size + 1, 4, none⟩ = some (.bool u.hi.num.g) := cell_later hb (by simp [go_sem])
    have k1_5 : w1.cell? ⟨w.heap.size + 1, 5, none⟩ = some (.slice u.hi.num.a u.hi.num.n u.hi.num.c) := cell_later hb (by simp [go_sem])
    have k1_6 : w1.cell? ⟨w.heap.size + 1, 6, none⟩ = some (.bool u.hi.den.g) := cell_later hb (by simp [go_sem])
    have k1_7 : w1.cell? ⟨w.heap.size + 1, 7, none⟩ = some (.slice u.hi.den.a u.hi.den.n u.hi.den.c) := cell_later hb (by simp [go_sem])
    have k2_0 : w1.cell? ⟨w.heap.size + 1 + 1, 0, none⟩ = some (.bool false) := cell_later hb (by simp [go_sem])
    have k2_1 : w1.cell? ⟨w.heap.size + 1 + 1, 1, none⟩ = some (.slice none 0 0) := cell_later hb (by simp [go_sem])
    have k2_2 : w1.cell? ⟨w.heap.size + 1 + 1, 2, none⟩ = some (.bool false) := cell_later hb (by simp [go_sem])
    have k2_3 : w1.cell? ⟨w.heap.size + 1 + 1, 3, none⟩ = some (.slice none 0 0) := cell_later hb (by simp [go_sem])
    have k2_4 : w1.cell? ⟨w.heap.size + 1 + 1, 4, none⟩ = some (.bool false) := cell_later hb (by simp [go_sem])
    have k2_5 : w1.cell? ⟨w.heap.size + 1 + 1, 5, none⟩ = some (.slice none 0 0) := cell_later hb (by simp [go_sem])
    have k2_6 : w1.cell? ⟨w.heap.size + 1 + 1, 6, none⟩ = some (.bool false) := cell_later hb (by simp [go_sem])
    have k2_7 : w1.cell? ⟨w.heap.size + 1 + 1, 7, none⟩ = some (.slice none 0 0) := cell_later hb (by simp [go_sem])
    have z2 : ∀ o, w1.frozen? ⟨w.heap.size + 1 + 1, o, none⟩ = false := fun o => frozen_later hb (by simp) (by simp [go_sem])
    have HB := hide (below_on (unhide B0) hb)
    clear hb
    have S1 := hide ((unhide J1).later (unhide HB))
    have S2 := hide ((unhide J2).later (unhide HB))
    go_upto_region 3 with fail
    have ne0_2 : w.heap.size ≠ w.heap.size + 1 + 1 := by omega
    have ne1_2 : w.heap.size + 1 ≠ w.heap.size + 1 + 1 := by omega
    go_region_held3 (fun w' => w'.cell? ⟨w.heap.size, 0, none⟩ = some (.bool v.lo.num.g) ∧ w'.cell? ⟨w.heap.size, 1, none⟩ = some (.slice v.lo.num.a v.lo.num.n v.lo.num.c) ∧ w'.cell? ⟨w.heap.size, 2, none⟩ = some (.bool v.lo.den.g) ∧ w'.cell? ⟨w.heap.size, 3, none⟩ = some (.slice v.lo.den.a v.lo.den.n v.lo.den.c) ∧ w'.cell? ⟨w.heap.size, 4, none⟩ = some (.bool v.hi.num.g) ∧ w'.cell? ⟨w.heap.size, 5, none⟩ = some (.slice v.hi.num.a v.hi.num.n v.hi.num.c) ∧ w'.cell? ⟨w.heap.size, 6, none⟩ = some (.bool v.hi.den.g) ∧ w'.cell? ⟨w.heap.size, 7, none⟩ = some (.slice v.hi.den.a v.hi.den.n v.hi.den.c) ∧ w'.cell? ⟨w.heap.size + 1, 0, none⟩ = some (.bool u.lo.num.g) ∧ w'.cell? ⟨w.heap.size + 1, 1, none⟩ = some (.slice u.lo.num.a u.lo.num.n u.lo.num.c) ∧ w'.cell? ⟨w.heap.size + 1, 2, none⟩ = some (.bool u.lo.den.g) ∧ w'.cell? ⟨w.heap.size + 1, 3, none⟩ = some (.slice u.lo.den.a u.lo.den.n u.lo.den.c) ∧ w'.cell? ⟨w.heap.size + 1, 4, none⟩ = some (.bool u.hi.num.g) ∧ w'.cell? ⟨w.heap.size + 1, 5, none⟩ = some (.slice u.hi.num.a u.hi.num.n u.hi.num.c) ∧ w'.cell? ⟨w.heap.size + 1, 6, none⟩ = some (.bool u.hi.den.g) ∧ w'.cell? ⟨w.heap.size + 1, 7, none⟩ = some (.slice u.hi.den.a u.hi.den.n u.hi.den.c)) (with_reducible (first | exact ⟨k0_0, k0_1, k0_2, k0_3, k0_4, k0_5, k0_6, k0_7, k1_0, k1_1, k1_2, k1_3, k1_4, k1_5, k1_6, k1_7⟩ | exact ⟨cd_other k0_0, cd_other k0_1, cd_other k0_2, cd_other k0_3, cd_other k0_4, cd_other k0_5, cd_other k0_6, cd_other k0_7, cd_other k1_0, cd_other k1_1, cd_other k1_2, cd_other k1_3, cd_other k1_4, cd_other k1_5, cd_other k1_6, cd_other k1_7⟩ | exact ⟨ca_other k0_0, ca_other k0_1, ca_other k0_2, ca_other k0_3, ca_other k0_4, ca_other k0_5, ca_other k0_6, ca_other k0_7, ca_other k1_0, ca_other k1_1, ca_other k1_2, ca_other k1_3, ca_other k1_4, ca_other k1_5, ca_other k1_6, ca_other k1_7⟩ | exact ⟨cs_other (cs_other (cs_other (cs_other (cs_other (cs_other (cs_other (cs_other (k0_0) ne0_2) ne0_2) ne0_2) ne0_2) ne0_2) ne0_2) ne0_2) ne0_2, cs_other (cs_other (cs_other (cs_other (cs_other (cs_other (cs_other (cs_other (k0_1) ne0_2) ne0_2) ne0_2) ne0_2) ne0_2) ne0_2) ne0_2) ne0_2, cs_other (cs_other (cs_other (cs_other (cs_other (cs_other (cs_other (cs_other (k0_2) ne0_2) ne0_2) ne0_2) ne0_2) ne0_2) ne0_2) ne0_2) ne0_2, cs_other (cs_other (cs_other (cs_other (cs_other (cs_other (cs_other (cs_other (k0_3) ne0_2) ne0_2) ne0_2) ne0_2) ne0_2) ne0_2) ne0_2) ne0_2, cs_other (cs_other (cs_other (cs_other (cs_other (cs_other (cs_other (cs_other (k0_4) ne0_2) ne0_2) ne0_2) ne0_2) ne0_2) ne0_2) ne0_2) ne0_2, cs_other (cs_other (cs_other (cs_other (cs_other (cs_other (cs_other (cs_other (k0_5) ne0_2) ne0_2) ne0_2) ne0_2) ne0_2) ne0_2) ne0_2) ne0_2, cs_other (cs_other (cs_other (cs_other (cs_other (cs_other (cs_other (cs_other (k0_6) ne0_2) ne0_2) ne0_2) ne0_2) ne0_2) ne0_2) ne0_2) ne0_2, cs_other (cs_other (cs_other (cs_other (cs_other (cs_other (cs_other (cs_other (k0_7) ne0_2) ne0_2) ne0_2) ne0_2) ne0_2) ne0_2) ne0_2) ne0_2, cs_other (cs_other (cs_other (cs_other (cs_other (cs_other (cs_other (cs_other (k1_0) ne1_2) ne1_2) ne1_2) ne1_2) ne1_2) ne1_2) ne1_2) ne1_2, cs_other (cs_other (cs_other (cs_other (cs_other (cs_other (cs_other (cs_other (k1_1) ne1_2) ne1_2) ne1_2) ne1_2) ne1_2) ne1_2) ne1_2) ne1_2, cs_other (cs_other (cs_other (cs_other (cs_other (cs_other (cs_other (cs_other (k1_2) ne1_2) ne1_2) ne1_2) ne1_2) ne1_2) ne1_2) ne1_2) ne1_2, cs_other (cs_other (cs_other (cs_other (cs_other (cs_other (cs_other (cs_other (k1_3) ne1_2) ne1_2) ne1_2) ne1_2) ne1_2) ne1_2) ne1_2) ne1_2, cs_other (cs_other (cs_other (cs_other (cs_other (cs_other (cs_other (cs_other (k1_4) ne1_2) ne1_2) ne1_2) ne1_2) ne1_2) ne1_2) ne1_2) ne1_2, cs_other (cs_other (cs_other (cs_other (cs_other (cs_other (cs_other (cs_other (k1_5) ne1_2) ne1_2) ne1_2) ne1_2) ne1_2) ne1_2) ne1_2) ne1_2, cs_other (cs_other (cs_other (cs_other (cs_other (cs_other (cs_other (cs_other (k1_6) ne1_2) ne1_2) ne1_2) ne1_2) ne1_2) ne1_2) ne1_2) ne1_2, cs_other (cs_other (cs_other (cs_other (cs_other (cs_other (cs_other (cs_other (k1_7) ne1_2) ne1_2) ne1_2) ne1_2) ne1_2) ne1_2) ne1_2) ne1_2⟩ | fail))
      (first
      | (go_at_call 136; refine (fitsSS r (mLo d e).1 (mLo d e).2 (mHi d e).1 (mHi d e).2 _ ?_ ?_ (unhide NZ).1 (unhide NZ).2).mono ?_; exact (unhide I1).later (Below.refl _ _); exact (unhide I2).later (Below.refl _ _); rintro e w4 ⟨r2, dr, ok, rfl, hb, ov, hu⟩; have hbx : Below w5b.heap.size w5b w4 := hb; have szw4 := hbx.size; replace z2 := fun o => frozen_later hbx (World.block_lt_of_cell? _ _ k2_0) (z2 o); replace k0_0 := cell_later hbx k0_0; replace k0_1 := cell_later hbx k0_1; replace k0_2 := cell_later hbx k0_2; replace k0_3 := cell_later hbx k0_3; replace k0_4 := cell_later hbx k0_4; replace k0_5 := cell_later hbx k0_5; replace k0_6 := cell_later hbx k0_6; replace k0_7 := cell_later hbx k0_7; replace k1_0 := cell_later hbx k1_0; replace k1_1 := cell_later hbx k1_1; replace k1_2 := cell_later hbx k1_2; replace k1_3 := cell_later hbx k1_3; replace k1_4 := cell_later hbx k1_4; replace k1_5 := cell_later hbx k1_5; replace k1_6 := cell_later hbx k1_6; replace k1_7 := cell_later hbx k1_7; replace k2_0 := cell_later hbx k2_0; replace k2_1 := cell_later hbx k2_1; replace k2_2 := cell_later hbx k2_2; replace k2_3 := cell_later hbx k2_3; replace k2_4 := cell_later hbx k2_4; replace k2_5 := cell_later hbx k2_5; replace k2_6 := cell_later hbx k2_6; replace k2_7 := cell_later hbx k2_7; replace S1 := hide ((unhide S1).later hbx); replace S2 := hide ((unhide S2).later hbx); replace Px1 := hide ((unhide Px1).later hbx); replace Px2 := hide ((unhide Px2).later hbx); replace Px3 := hide ((unhide Px3).later hbx); replace Px4 := hide ((unhide Px4).later hbx); replace I1 := hide ((unhide I1).later hbx); replace I2 := hide ((unhide I2).later hbx); have UU := hide hu; have OV := hide (ov); have HBr := hide (below_on (unhide HBr) hbx); clear hbx hb ov hu)
      | (have chk := Px4; clear chk; go_at_call 143; refine (l3Of_v ⟨x1, lowN (nQ d.lo * nQ e.lo) (dQ d.lo * dQ e.lo), lowD (nQ d.lo * nQ e.lo) (dQ d.lo * dQ e.lo)⟩ w4b.heap.size 0 4 4 [⟨x1, lowN (nQ d.lo * nQ e.lo) (dQ d.lo * dQ e.lo), lowD (nQ d.lo * nQ e.lo) (dQ d.lo * dQ e.lo)⟩, ⟨x2, lowN (nQ d.lo * nQ e.hi) (dQ d.lo * dQ e.hi), lowD (nQ d.lo * nQ e.hi) (dQ d.lo * dQ e.hi)⟩, ⟨x3, lowN (nQ d.hi * nQ e.lo) (dQ d.hi * dQ e.lo), lowD (nQ d.hi * nQ e.lo) (dQ d.hi * dQ e.lo)⟩, ⟨x4, lowN (nQ d.hi * nQ e.hi) (dQ d.hi * dQ e.hi), lowD (nQ d.hi * nQ e.hi) (dQ d.hi * dQ e.hi)⟩] _ ?_ ?_ rfl ?_ ?_ ?_).mono ?_; (exact ⟨(unhide Px1).later ((Below.refl _ _).alloc (Nat.le_refl _) _), (mBd (unhide J1).lo (unhide J2).lo).1, (mBd (unhide J1).lo (unhide J2).lo).2⟩); (exact rats_4 (r1 := ⟨x1, lowN (nQ d.lo * nQ e.lo) (dQ d.lo * dQ e.lo), lowD (nQ d.lo * nQ e.lo) (dQ d.lo * dQ e.lo)⟩) (r2 := ⟨x2, lowN (nQ d.lo * nQ e.hi) (dQ d.lo * dQ e.hi), lowD (nQ d.lo * nQ e.hi) (dQ d.lo * dQ e.hi)⟩) (r3 := ⟨x3, lowN (nQ d.hi * nQ e.lo) (dQ d.hi * dQ e.lo), lowD (nQ d.hi * nQ e.lo) (dQ d.hi * dQ e.lo)⟩) (r4 := ⟨x4, lowN (nQ d.hi * nQ e.hi) (dQ d.hi * dQ e.hi), lowD (nQ d.hi * nQ e.hi) (dQ d.hi * dQ e.hi)⟩) ⟨(unhide Px1), (mBd (unhide J1).lo (unhide J2).lo).1, (mBd (unhide J1).lo (unhide J2).lo).2⟩ ⟨(unhide Px2), (mBd (unhide J1).lo (unhide J2).hi).1, (mBd (unhide J1).lo (unhide J2).hi).2⟩ ⟨(unhide Px3), (mBd (unhide J1).hi (unhide J2).lo).1, (mBd (unhide J1).hi (unhide J2).lo).2⟩ ⟨(unhide Px4), (mBd (unhide J1).hi (unhide J2).hi).1, (mBd (unhide J1).hi (unhide J2).hi).2⟩); (omega); (omega); (simp [go_sem]); rintro e w5b ⟨r, rfl, hb0, i1, i2⟩; have hb := ba hb0; have szl := hb0.size; (try simp at szl); have hbx : Below w4b.heap.size w4b w5b := hb; have szw5b := hbx.size; replace z2 := fun o => frozen_later hbx (World.block_lt_of_cell? _ _ k2_0) (z2 o); replace k0_0 := cell_later hbx k0_0; replace k0_1 := cell_later hbx k0_1; replace k0_2 := cell_later hbx k0_2; replace k0_3 := cell_later hbx k0_3; replace k0_4 := cell_later hbx k0_4; replace k0_5 := cell_later hbx k0_5; replace k0_6 := cell_later hbx k0_6; replace k0_7 := cell_later hbx k0_7; replace k1_0 := cell_later hbx k1_0; replace k1_1 := cell_later hbx k1_1; replace k1_2 := cell_later hbx k1_2; replace k1_3 := cell_later hbx k1_3; replace k1_4 := cell_later hbx k1_4; replace k1_5 := cell_later hbx k1_5; replace k1_6 := cell_later hbx k1_6; replace k1_7 := cell_later hbx k1_7; replace k2_0 := cell_later hbx k2_0; replace k2_1 := cell_later hbx k2_1; replace k2_2 := cell_later hbx k2_2; replace k2_3 := cell_later hbx k2_3; replace k2_4 := cell_later hbx k2_4; replace k2_5 := cell_later hbx k2_5; replace k2_6 := cell_later hbx k2_6; replace k2_7 := cell_later hbx k2_7; replace S1 := hide ((unhide S1).later hbx); replace S2 := hide ((unhide S2).later hbx); replace Px1 := hide ((unhide Px1).later hbx); replace Px2 := hide ((unhide Px2).later hbx); replace Px3 := hide ((unhide Px3).later hbx); replace Px4 := hide ((unhide Px4).later hbx); have f1 := fold_lo ([⟨x1, lowN (nQ d.lo * nQ e.lo) (dQ d.lo * dQ e.lo), lowD (nQ d.lo * nQ e.lo) (dQ d.lo * dQ e.lo)⟩, ⟨x2, lowN (nQ d.lo * nQ e.hi) (dQ d.lo * dQ e.hi), lowD (nQ d.lo * nQ e.hi) (dQ d.lo * dQ e.hi)⟩, ⟨x3, lowN (nQ d.hi * nQ e.lo) (dQ d.hi * dQ e.lo), lowD (nQ d.hi * nQ e.lo) (dQ d.hi * dQ e.lo)⟩, ⟨x4, lowN (nQ d.hi * nQ e.hi) (dQ d.hi * dQ e.hi), lowD (nQ d.hi * nQ e.hi) (dQ d.hi * dQ e.hi)⟩] : List RQ) (⟨x1, lowN (nQ d.lo * nQ e.lo) (dQ d.lo * dQ e.lo), lowD (nQ d.lo * nQ e.lo) (dQ d.lo * dQ e.lo)⟩ : RQ); have f2 := fold_hi ([⟨x1, lowN (nQ d.lo * nQ e.lo) (dQ d.lo * dQ e.lo), lowD (nQ d.lo * nQ e.lo) (dQ d.lo * dQ e.lo)⟩, ⟨x2, lowN (nQ d.lo * nQ e.hi) (dQ d.lo * dQ e.hi), lowD (nQ d.lo * nQ e.hi) (dQ d.lo * dQ e.hi)⟩, ⟨x3, lowN (nQ d.hi * nQ e.lo) (dQ d.hi * dQ e.lo), lowD (nQ d.hi * nQ e.lo) (dQ d.hi * dQ e.lo)⟩, ⟨x4, lowN (nQ d.hi * nQ e.hi) (dQ d.hi * dQ e.hi), lowD (nQ d.hi * nQ e.hi) (dQ d.hi * dQ e.hi)⟩] : List RQ) (⟨x1, lowN (nQ d.lo * nQ e.lo) (dQ d.lo * dQ e.lo), lowD (nQ d.lo * nQ e.lo) (dQ d.lo * dQ e.lo)⟩ : RQ); have g1 : (([⟨x1, lowN (nQ d.lo * nQ e.lo) (dQ d.lo * dQ e.lo), lowD (nQ d.lo * nQ e.lo) (dQ d.lo * dQ e.lo)⟩, ⟨x2, lowN (nQ d.lo * nQ e.hi) (dQ d.lo * dQ e.hi), lowD (nQ d.lo * nQ e.hi) (dQ d.lo * dQ e.hi)⟩, ⟨x3, lowN (nQ d.hi * nQ e.lo) (dQ d.hi * dQ e.lo), lowD (nQ d.hi * nQ e.lo) (dQ d.hi * dQ e.lo)⟩, ⟨x4, lowN (nQ d.hi * nQ e.hi) (dQ d.hi * dQ e.hi), lowD (nQ d.hi * nQ e.hi) (dQ d.hi * dQ e.hi)⟩] : List RQ).map RQ.p).foldl pLo ((⟨x1, lowN (nQ d.lo * nQ e.lo) (dQ d.lo * dQ e.lo), lowD (nQ d.lo * nQ e.lo) (dQ d.lo * dQ e.lo)⟩ : RQ).p) = mLo d e := (by show List.foldl pLo (pLo (mp d.lo e.lo) (mp d.lo e.lo)) [mp d.lo e.hi, mp d.hi e.lo, mp d.hi e.hi] = _; rw [pLo_self]; rfl); have g2 : (([⟨x1, lowN (nQ d.lo * nQ e.lo) (dQ d.lo * dQ e.lo), lowD (nQ d.lo * nQ e.lo) (dQ d.lo * dQ e.lo)⟩, ⟨x2, lowN (nQ d.lo * nQ e.hi) (dQ d.lo * dQ e.hi), lowD (nQ d.lo * nQ e.hi) (dQ d.lo * dQ e.hi)⟩, ⟨x3, lowN (nQ d.hi * nQ e.lo) (dQ d.hi * dQ e.lo), lowD (nQ d.hi * nQ e.lo) (dQ d.hi * dQ e.lo)⟩, ⟨x4, lowN (nQ d.hi * nQ e.hi) (dQ d.hi * dQ e.hi), lowD (nQ d.hi * nQ e.hi) (dQ d.hi * dQ e.hi)⟩] : List RQ).map RQ.p).foldl pHi ((⟨x1, lowN (nQ d.lo * nQ e.lo) (dQ d.lo * dQ e.lo), lowD (nQ d.lo * nQ e.lo) (dQ d.lo * dQ e.lo)⟩ : RQ).p) = mHi d e := (by show List.foldl pHi (pHi (mp d.lo e.lo) (mp d.lo e.lo)) [mp d.lo e.hi, mp d.hi e.lo, mp d.hi e.hi] = _; rw [pHi_self]; rfl); have e1 : (List.foldl stLo (⟨x1, lowN (nQ d.lo * nQ e.lo) (dQ d.lo * dQ e.lo), lowD (nQ d.lo * nQ e.lo) (dQ d.lo * dQ e.lo)⟩ : RQ) [⟨x1, lowN (nQ d.lo * nQ e.lo) (dQ d.lo * dQ e.lo), lowD (nQ d.lo * nQ e.lo) (dQ d.lo * dQ e.lo)⟩, ⟨x2, lowN (nQ d.lo * nQ e.hi) (dQ d.lo * dQ e.hi), lowD (nQ d.lo * nQ e.hi) (dQ d.lo * dQ e.hi)⟩, ⟨x3, lowN (nQ d.hi * nQ e.lo) (dQ d.hi * dQ e.lo), lowD (nQ d.hi * nQ e.lo) (dQ d.hi * dQ e.lo)⟩, ⟨x4, lowN (nQ d.hi * nQ e.hi) (dQ d.hi * dQ e.hi), lowD (nQ d.hi * nQ e.hi) (dQ d.hi * dQ e.hi)⟩]).N = (mLo d e).1 := congrArg Prod.fst (f1.trans g1); have e2 : (List.foldl stLo (⟨x1, lowN (nQ d.lo * nQ e.lo) (dQ d.lo * dQ e.lo), lowD (nQ d.lo * nQ e.lo) (dQ d.lo * dQ e.lo)⟩ : RQ) [⟨x1, lowN (nQ d.lo * nQ e.lo) (dQ d.lo * dQ e.lo), lowD (nQ d.lo * nQ e.lo) (dQ d.lo * dQ e.lo)⟩, ⟨x2, lowN (nQ d.lo * nQ e.hi) (dQ d.lo * dQ e.hi), lowD (nQ d.lo * nQ e.hi) (dQ d.lo * dQ e.hi)⟩, ⟨x3, lowN (nQ d.hi * nQ e.lo) (dQ d.hi * dQ e.lo), lowD (nQ d.hi * nQ e.lo) (dQ d.hi * dQ e.lo)⟩, ⟨x4, lowN (nQ d.hi * nQ e.hi) (dQ d.hi * dQ e.hi), lowD (nQ d.hi * nQ e.hi) (dQ d.hi * dQ e.hi)⟩]).D = (mLo d e).2 := congrArg Prod.snd (f1.trans g1); have e3 : (List.foldl stHi (⟨x1, lowN (nQ d.lo * nQ e.lo) (dQ d.lo * dQ e.lo), lowD (nQ d.lo * nQ e.lo) (dQ d.lo * dQ e.lo)⟩ : RQ) [⟨x1, lowN (nQ d.lo * nQ e.lo) (dQ d.lo * dQ e.lo), lowD (nQ d.lo * nQ e.lo) (dQ d.lo * dQ e.lo)⟩, ⟨x2, lowN (nQ d.lo * nQ e.hi) (dQ d.lo * dQ e.hi), lowD (nQ d.lo * nQ e.hi) (dQ d.lo * dQ e.hi)⟩, ⟨x3, lowN (nQ d.hi * nQ e.lo) (dQ d.hi * dQ e.lo), lowD (nQ d.hi * nQ e.lo) (dQ d.hi * dQ e.lo)⟩, ⟨x4, lowN (nQ d.hi * nQ e.hi) (dQ d.hi * dQ e.hi), lowD (nQ d.hi * nQ e.hi) (dQ d.hi * dQ e.hi)⟩]).N = (mHi d e).1 := congrArg Prod.fst (f2.trans g2); have e4 : (List.foldl stHi (⟨x1, lowN (nQ d.lo * nQ e.lo) (dQ d.lo * dQ e.lo), lowD (nQ d.lo * nQ e.lo) (dQ d.lo * dQ e.lo)⟩ : RQ) [⟨x1, lowN (nQ d.lo * nQ e.lo) (dQ d.lo * dQ e.lo), lowD (nQ d.lo * nQ e.lo) (dQ d.lo * dQ e.lo)⟩, ⟨x2, lowN (nQ d.lo * nQ e.hi) (dQ d.lo * dQ e.hi), lowD (nQ d.lo * nQ e.hi) (dQ d.lo * dQ e.hi)⟩, ⟨x3, lowN (nQ d.hi * nQ e.lo) (dQ d.hi * dQ e.lo), lowD (nQ d.hi * nQ e.lo) (dQ d.hi * dQ e.lo)⟩, ⟨x4, lowN (nQ d.hi * nQ e.hi) (dQ d.hi * dQ e.hi), lowD (nQ d.hi * nQ e.hi) (dQ d.hi * dQ e.hi)⟩]).D = (mHi d e).2 := congrArg Prod.snd (f2.trans g2); rw [e1, e2] at i1; rw [e3, e4] at i2; clear e1 e2 e3 e4 f1 f2 g1 g2; have I1 := hide (i1); have I2 := hide (i2); have HBr := hide (below_on (unhide HBr) hbx); clear hbx hb i1 i2 hb0)
      | (have chk := Px3; clear chk; go_at_call 114; refine (mulQS v.hi u.hi _ _ _ _ _ ?_ ?_ (mNz (unhide J1).hi (unhide J2).hi) ((unhide J1).hi.kn.mono (by omega)) ((unhide J1).hi.kd.mono (by omega)) ((unhide J2).hi.kn.mono (by omega)) ((unhide J2).hi.kd.mono (by omega))).mono ?_; exact (unhide S1).hi.is.later (Below.refl _ _); exact (unhide S2).hi.is.later (Below.refl _ _); rintro e w4b ⟨x4, rfl, hb, o4, a4⟩; have hbx : Below w3b.heap.size w3b w4b := hb; have szw4b := hbx.size; replace z2 := fun o => frozen_later hbx (World.block_lt_of_cell? _ _ k2_0) (z2 o); replace k0_0 := cell_later hbx k0_0; replace k0_1 := cell_later hbx k0_1; replace k0_2 := cell_later hbx k0_2; replace k0_3 := cell_later hbx k0_3; replace k0_4 := cell_later hbx k0_4; replace k0_5 := cell_later hbx k0_5; replace k0_6 := cell_later hbx k0_6; replace k0_7 := cell_later hbx k0_7; replace k1_0 := cell_later hbx k1_0; replace k1_1 := cell_later hbx k1_1; replace k1_2 := cell_later hbx k1_2; replace k1_3 := cell_later hbx k1_3; replace k1_4 := cell_later hbx k1_4; replace k1_5 := cell_later hbx k1_5; replace k1_6 := cell_later hbx k1_6; replace k1_7 := cell_later hbx k1_7; replace k2_0 := cell_later hbx k2_0; replace k2_1 := cell_later hbx k2_1; replace k2_2 := cell_later hbx k2_2; replace k2_3 := cell_later hbx k2_3; replace k2_4 := cell_later hbx k2_4; replace k2_5 := cell_later hbx k2_5; replace k2_6 := cell_later hbx k2_6; replace k2_7 := cell_later hbx k2_7; replace S1 := hide ((unhide S1).later hbx); replace S2 := hide ((unhide S2).later hbx); replace Px1 := hide ((unhide Px1).later hbx); replace Px2 := hide ((unhide Px2).later hbx); replace Px3 := hide ((unhide Px3).later hbx); have q4 : IsQ w4b x4 (lowN (nQ d.hi * nQ e.hi) (dQ d.hi * dQ e.hi)) (lowD (nQ d.hi * nQ e.hi) (dQ d.hi * dQ e.hi)) := ⟨o4.is, a4.is⟩; have Px4 := hide (q4); have HBr := hide (below_on (unhide HBr) hbx); clear hbx hb o4 a4 q4)
      | (have chk := Px2; clear chk; go_at_call 114; refine (mulQS v.hi u.lo _ _ _ _ _ ?_ ?_ (mNz (unhide J1).hi (unhide J2).lo) ((unhide J1).hi.kn.mono (by omega)) ((unhide J1).hi.kd.mono (by omega)) ((unhide J2).lo.kn.mono (by omega)) ((unhide J2).lo.kd.mono (by omega))).mono ?_; exact (unhide S1).hi.is.later (Below.refl _ _); exact (unhide S2).lo.is.later (Below.refl _ _); rintro e w3b ⟨x3, rfl, hb, o3, a3⟩; have hbx : Below w2b.heap.size w2b w3b := hb; have szw3b := hbx.size; replace z2 := fun o => frozen_later hbx (World.block_lt_of_cell? _ _ k2_0) (z2 o); replace k0_0 := cell_later hbx k0_0; replace k0_1 := cell_later hbx k0_1; replace k0_2 := cell_later hbx k0_2; replace k0_3 := cell_later hbx k0_3; replace k0_4 := cell_later hbx k0_4; replace k0_5 := cell_later hbx k0_5; replace k0_6 := cell_later hbx k0_6; replace k0_7 := cell_later hbx k0_7; replace k1_0 := cell_later hbx k1_0; replace k1_1 := cell_later hbx k1_1; replace k1_2 := cell_later hbx k1_2; replace k1_3 := cell_later hbx k1_3; replace k1_4 := cell_later hbx k1_4; replace k1_5 := cell_later hbx k1_5; replace k1_6 := cell_later hbx k1_6; replace k1_7 := cell_later hbx k1_7; replace k2_0 := cell_later hbx k2_0; replace k2_1 := cell_later hbx k2_1; replace k2_2 := cell_later hbx k2_2; replace k2_3 := cell_later hbx k2_3; replace k2_4 := cell_later hbx k2_4; replace k2_5 := cell_later hbx k2_5; replace k2_6 := cell_later hbx k2_6; replace k2_7 := cell_later hbx k2_7; replace S1 := hide ((unhide S1).later hbx); replace S2 := hide ((unhide S2).later hbx); replace Px1 := hide ((unhide Px1).later hbx); replace Px2 := hide ((unhide Px2).later hbx); have q3 : IsQ w3b x3 (lowN (nQ d.hi * nQ e.lo) (dQ d.hi * dQ e.lo)) (lowD (nQ d.hi * nQ e.lo) (dQ d.hi * dQ e.lo)) := ⟨o3.is, a3.is⟩; have Px3 := hide (q3); have HBr := hide (below_on (unhide HBr) hbx); clear hbx hb o3 a3 q3)
      | (have chk := Px1; clear chk; go_at_call 114; refine (mulQS v.lo u.hi _ _ _ _ _ ?_ ?_ (mNz (unhide J1).lo (unhide J2).hi) ((unhide J1).lo.kn.mono (by omega)) ((unhide J1).lo.kd.mono (by omega)) ((unhide J2).hi.kn.mono (by omega)) ((unhide J2).hi.kd.mono (by omega))).mono ?_; exact (unhide S1).lo.is.later (Below.refl _ _); exact (unhide S2).hi.is.later (Below.refl _ _); rintro e w2b ⟨x2, rfl, hb, o2, a2⟩; have hbx : Below w1b.heap.size w1b w2b := hb; have szw2b := hbx.size; replace z2 := fun o => frozen_later hbx (World.block_lt_of_cell? _ _ k2_0) (z2 o); replace k0_0 := cell_later hbx k0_0; replace k0_1 := cell_later hbx k0_1; replace k0_2 := cell_later hbx k0_2; replace k0_3 := cell_later hbx k0_3; replace k0_4 := cell_later hbx k0_4; replace k0_5 := cell_later hbx k0_5; replace k0_6 := cell_later hbx k0_6; replace k0_7 := cell_later hbx k0_7; replace k1_0 := cell_later hbx k1_0; replace k1_1 := cell_later hbx k1_1; replace k1_2 := cell_later hbx k1_2; replace k1_3 := cell_later hbx k1_3; replace k1_4 := cell_later hbx k1_4; replace k1_5 := cell_later hbx k1_5; replace k1_6 := cell_later hbx k1_6; replace k1_7 := cell_later hbx k1_7; replace k2_0 := cell_later hbx k2_0; replace k2_1 := cell_later hbx k2_1; replace k2_2 := cell_later hbx k2_2; replace k2_3 := cell_later hbx k2_3; replace k2_4 := cell_later hbx k2_4; replace k2_5 := cell_later hbx k2_5; replace k2_6 := cell_later hbx k2_6; replace k2_7 := cell_later hbx k2_7; replace S1 := hide ((unhide S1).later hbx); replace S2 := hide ((unhide S2).later hbx); replace Px1 := hide ((unhide Px1).later hbx); have q2 : IsQ w2b x2 (lowN (nQ d.lo * nQ e.hi) (dQ d.lo * dQ e.hi)) (lowD (nQ d.lo * nQ e.hi) (dQ d.lo * dQ e.hi)) := ⟨o2.is, a2.is⟩; have Px2 := hide (q2); have HBr := hide (below_on (unhide HBr) hbx); clear hbx hb o2 a2 q2)
      | (go_at_call 114; refine (mulQS v.lo u.lo _ _ _ _ _ ?_ ?_ (mNz (unhide J1).lo (unhide J2).lo) ((unhide J1).lo.kn.mono (by omega)) ((unhide J1).lo.kd.mono (by omega)) ((unhide J2).lo.kn.mono (by omega)) ((unhide J2).lo.kd.mono (by omega))).mono ?_; exact (unhide S1).lo.is.later (Below.refl _ _).drew; exact (unhide S2).lo.is.later (Below.refl _ _).drew; rintro e w1b ⟨x1, rfl, hb, o1, a1⟩; have hbx : Below w1.heap.size w1 w1b := below_of_drew hb; have szw1b := hbx.size; replace z2 := fun o => frozen_later hbx (World.block_lt_of_cell? _ _ k2_0) (z2 o); replace k0_0 := cell_later hbx k0_0; replace k0_1 := cell_later hbx k0_1; replace k0_2 := cell_later hbx k0_2; replace k0_3 := cell_later hbx k0_3; replace k0_4 := cell_later hbx k0_4; replace k0_5 := cell_later hbx k0_5; replace k0_6 := cell_later hbx k0_6; replace k0_7 := cell_later hbx k0_7; replace k1_0 := cell_later hbx k1_0; replace k1_1 := cell_later hbx k1_1; replace k1_2 := cell_later hbx k1_2; replace k1_3 := cell_later hbx k1_3; replace k1_4 := cell_later hbx k1_4; replace k1_5 := cell_later hbx k1_5; replace k1_6 := cell_later hbx k1_6; replace k1_7 := cell_later hbx k1_7; replace k2_0 := cell_later hbx k2_0; replace k2_1 := cell_later hbx k2_1; replace k2_2 := cell_later hbx k2_2; replace k2_3 := cell_later hbx k2_3; replace k2_4 := cell_later hbx k2_4; replace k2_5 := cell_later hbx k2_5; replace k2_6 := cell_later hbx k2_6; replace k2_7 := cell_later hbx k2_7; replace S1 := hide ((unhide S1).later hbx); replace S2 := hide ((unhide S2).later hbx); have q1 : IsQ w1b x1 (lowN (nQ d.lo * nQ e.lo) (dQ d.lo * dQ e.lo)) (lowD (nQ d.lo * nQ e.lo) (dQ d.lo * dQ e.lo)) := ⟨o1.is, a1.is⟩; have Px1 := hide (q1); have HBr := hide hbx; clear hbx hb o1 a1 q1))
    replace HB := hide (below_on (unhide HB) (unhide HBr))
    clear HBr
    go_wp2
    refine bodyPost_ret (v := .tuple #[.agg #[.bool r2.lo.num.g, .slice r2.lo.num.a r2.lo.num.n r2.lo.num.c, .bool r2.lo.den.g, .slice r2.lo.den.a r2.lo.den.n r2.lo.den.c, .bool r2.hi.num.g, .slice r2.hi.num.a r2.hi.num.n r2.hi.num.c, .bool r2.hi.den.g, .slice r2.hi.den.a r2.hi.den.n r2.hi.den.c], .bool ok]) (by simp [results, Try.results75, go_sem, k2_0, k2_1, k2_2, k2_3, k2_4, k2_5, k2_6, k2_7]) rfl ?_
    exact retS_fin (v := r2) (d := dr) (R := w.heap.size + 1 + 1) (by omega) (unhide HB) (metS_but (w5 := w4) (v := r2) (G := w.heap.size + 1 + 1)) ((unhide OV).wide (by omega) (by omega)) (unhide UU)
end Go.Proofs.Ytgekkmibddfakaa
namespace Go.Proofs.Ytgekkmibddfakaa
open Go.RowKit
set_option linter.unusedVariables false
set_option maxRecDepth 100000
set_option linter.unusedSimpArgs false

structure TlawMulS (w wx : World) (v0 : SV) (d0 : SD) (v1 : SV) (d1 : SD) : Prop where
  bel : Below w.heap.size w wx
  x0_0 : wx.cell? ⟨w.heap.size, 0, none⟩ = some (.bool v0.lo.num.g)
  x0_1 : wx.cell? ⟨w.heap.size, 1, none⟩ = some (.slice v0.lo.num.a v0.lo.num.n v0.lo.num.c)
  x0_2 : wx.cell? ⟨w.heap.size, 2, none⟩ = some (.bool v0.lo.den.g)
  x0_3 : wx.cell? ⟨w.heap.size, 3, none⟩ = some (.slice v0.lo.den.a v0.lo.den.n v0.lo.den.c)
  x0_4 : wx.cell? ⟨w.heap.size, 4, none⟩ = some (.bool v0.hi.num.g)
  x0_5 : wx.cell? ⟨w.heap.size, 5, none⟩ = some (.slice v0.hi.num.a v0.hi.num.n v0.hi.num.c)
  x0_6 : wx.cell? ⟨w.heap.size, 6, none⟩ = some (.bool v0.hi.den.g)
  x0_7 : wx.cell? ⟨w.heap.size, 7, none⟩ = some (.slice v0.hi.den.a v0.hi.den.n v0.hi.den.c)
  x1_0 : wx.cell? ⟨w.heap.size + 1, 0, none⟩ = some (.bool v1.lo.num.g)
  x1_1 : wx.cell? ⟨w.heap.size + 1, 1, none⟩ = some (.slice v1.lo.num.a v1.lo.num.n v1.lo.num.c)
  x1_2 : wx.cell? ⟨w.heap.size + 1, 2, none⟩ = some (.bool v1.lo.den.g)
  x1_3 : wx.cell? ⟨w.heap.size + 1, 3, none⟩ = some (.slice v1.lo.den.a v1.lo.den.n v1.lo.den.c)
  x1_4 : wx.cell? ⟨w.heap.size + 1, 4, none⟩ = some (.bool v1.hi.num.g)
  x1_5 : wx.cell? ⟨w.heap.size + 1, 5, none⟩ = some (.slice v1.hi.num.a v1.hi.num.n v1.hi.num.c)
  x1_6 : wx.cell? ⟨w.heap.size + 1, 6, none⟩ = some (.bool v1.hi.den.g)
  x1_7 : wx.cell? ⟨w.heap.size + 1, 7, none⟩ = some (.slice v1.hi.den.a v1.hi.den.n v1.hi.den.c)
  s0 : AllSl wx [(v0.lo.num, d0.lo.num), (v0.lo.den, d0.lo.den), (v0.hi.num, d0.hi.num), (v0.hi.den, d0.hi.den)]
  s1 : AllSl wx [(v1.lo.num, d1.lo.num), (v1.lo.den, d1.lo.den), (v1.hi.num, d1.hi.num), (v1.hi.den, d1.hi.den)]
theorem TlawMulS.later {w wx wy : World} {v0 : SV} {d0 : SD} {v1 : SV} {d1 : SD} (h : TlawMulS w wx v0 d0 v1 d1) (hb : Below wx.heap.size wx wy) : TlawMulS w wy v0 d0 v1 d1 :=
  ⟨below_on h.bel hb, cell_later hb h.x0_0, cell_later hb h.x0_1, cell_later hb h.x0_2, cell_later hb h.x0_3, cell_later hb h.x0_4, cell_later hb h.x0_5, cell_later hb h.x0_6, cell_later hb h.x0_7, cell_later hb h.x1_0, cell_later hb h.x1_1, cell_later hb h.x1_2, cell_later hb h.x1_3, cell_later hb h.x1_4, cell_later hb h.x1_5, cell_later hb h.x1_6, cell_later hb h.x1_7, h.s0.later hb, h.s1.later hb⟩
theorem TlawMulS.but {w wx wy : World} {v0 : SV} {d0 : SD} {v1 : SV} {d1 : SD} {lo hi : Nat} (h : TlawMulS w wx v0 d0 v1 d1) (hb : But lo hi wx wy) (hl : w.heap.size + 2 ≤ lo) (hx0 : AllSl w [(v0.lo.num, d0.lo.num), (v0.lo.den, d0.lo.den), (v0.hi.num, d0.hi.num), (v0.hi.den, d0.hi.den)]) (hx1 : AllSl w [(v1.lo.num, d1.lo.num), (v1.lo.den, d1.lo.den), (v1.hi.num, d1.hi.num), (v1.hi.den, d1.hi.den)]) : TlawMulS w wy v0 d0 v1 d1 := by
  have hB := hb.below h.bel (by omega) h.bel.size
  exact ⟨hB, hb.cell h.x0_0 (by omega), hb.cell h.x0_1 (by omega), hb.cell h.x0_2 (by omega), hb.cell h.x0_3 (by omega), hb.cell h.x0_4 (by omega), hb.cell h.x0_5 (by omega), hb.cell h.x0_6 (by omega), hb.cell h.x0_7 (by omega), hb.cell h.x1_0 (by omega), hb.cell h.x1_1 (by omega), hb.cell h.x1_2 (by omega), hb.cell h.x1_3 (by omega), hb.cell h.x1_4 (by omega), hb.cell h.x1_5 (by omega), hb.cell h.x1_6 (by omega), hb.cell h.x1_7 (by omega), hx0.later hB, hx1.later hB⟩
theorem TlawMulS.start (w : World) (v0 : SV) (d0 : SD) (v1 : SV) (d1 : SD) (t0 : TypeId) (t1 : TypeId) (hx0 : AllSl w [(v0.lo.num, d0.lo.num), (v0.lo.den, d0.lo.den), (v0.hi.num, d0.hi.num), (v0.hi.den, d0.hi.den)]) (hx1 : AllSl w [(v1.lo.num, d1.lo.num), (v1.lo.den, d1.lo.den), (v1.hi.num, d1.hi.num), (v1.hi.den, d1.hi.den)]) : TlawMulS w ((w.alloc (.cells #[.bool v0.lo.num.g, .slice v0.lo.num.a v0.lo.num.n v0.lo.num.c, .bool v0.lo.den.g, .slice v0.lo.den.a v0.lo.den.n v0.lo.den.c, .bool v0.hi.num.g, .slice v0.hi.num.a v0.hi.num.n v0.hi.num.c, .bool v0.hi.den.g, .slice v0.hi.den.a v0.hi.den.n v0.hi.den.c] t0)).alloc (.cells #[.bool v1.lo.num.g, .slice v1.lo.num.a v1.lo.num.n v1.lo.num.c, .bool v1.lo.den.g, .slice v1.lo.den.a v1.lo.den.n v1.lo.den.c, .bool v1.hi.num.g, .slice v1.hi.num.a v1.hi.num.n v1.hi.num.c, .bool v1.hi.den.g, .slice v1.hi.den.a v1.hi.den.n v1.hi.den.c] t1)) v0 d0 v1 d1 := by
  have hb : Below w.heap.size w ((w.alloc (.cells #[.bool v0.lo.num.g, .slice v0.lo.num.a v0.lo.num.n v0.lo.num.c, .bool v0.lo.den.g, .slice v0.lo.den.a v0.lo.den.n v0.lo.den.c, .bool v0.hi.num.g, .slice v0.hi.num.a v0.hi.num.n v0.hi.num.c, .bool v0.hi.den.g, .slice v0.hi.den.a v0.hi.den.n v0.hi.den.c] t0)).alloc (.cells #[.bool v1.lo.num.g, .slice v1.lo.num.a v1.lo.num.n v1.lo.num.c, .bool v1.lo.den.g, .slice v1.lo.den.a v1.lo.den.n v1.lo.den.c, .bool v1.hi.num.g, .slice v1.hi.num.a v1.hi.num.n v1.hi.num.c, .bool v1.hi.den.g, .slice v1.hi.den.a v1.hi.den.n v1.hi.den.c] t1)) := ((Below.refl _ _).alloc (Nat.le_refl _) _).alloc (by simp) _
  exact ⟨hb, by simp [go_sem], by simp [go_sem], by simp [go_sem], by simp [go_sem], by simp [go_sem], by simp [go_sem], by simp [go_sem], by simp [go_sem], by simp [go_sem], by simp [go_sem], by simp [go_sem], by simp [go_sem], by simp [go_sem], by simp [go_sem], by simp [go_sem], by simp [go_sem], hx0.later hb, hx1.later hb⟩

set_option maxHeartbeats 1000000 in
theorem lawMulS_out0 (v0 : SV) (v1 : SV) (w : World) (m0 : v0.lo.num.n ≤ maxLen) (m1 : v0.lo.den.n ≤ maxLen) (m2 : v0.hi.num.n ≤ maxLen) (m3 : v0.hi.den.n ≤ maxLen) (h0 : 0 ≤ 1048576) (h : 1048576 < v0.lo.num.n + v0.lo.den.n + v0.hi.num.n + v0.hi.den.n) :
    Calls Try.prog 19 #[.agg #[.bool v0.lo.num.g, .slice v0.lo.num.a v0.lo.num.n v0.lo.num.c, .bool v0.lo.den.g, .slice v0.lo.den.a v0.lo.den.n v0.lo.den.c, .bool v0.hi.num.g, .slice v0.hi.num.a v0.hi.num.n v0.hi.num.c, .bool v0.hi.den.g, .slice v0.hi.den.a v0.hi.den.n v0.hi.den.c], .agg #[.bool v1.lo.num.g, .slice v1.lo.num.a v1.lo.num.n v1.lo.num.c, .bool v1.lo.den.g, .slice v1.lo.den.a v1.lo.den.n v1.lo.den.c, .bool v1.hi.num.g, .slice v1.hi.num.a v1.hi.num.n v1.hi.num.c, .bool v1.hi.den.g, .slice v1.hi.den.a v1.hi.den.n v1.hi.den.c]] w fun e w' => e = .returned (.bool true) ∧ Below w.heap.size w w' := by
  go_enter Try.func19, Try.ntmps19
  go_wp2_with fail
  refine (szS_out v0 _ _ (by omega) (by omega) m0 m1 m2 m3 (by omega)).mono ?_
  rintro e w1 ⟨rfl, hb⟩
  have HB := hide (below_two' hb)
  clear hb
  go_wp2
  go_ret
  exact ⟨rfl, unhide HB⟩

set_option maxHeartbeats 1000000 in
theorem lawMulS_out1 (v0 : SV) (v1 : SV) (w : World) (m0 : v1.lo.num.n ≤ maxLen) (m1 : v1.lo.den.n ≤ maxLen) (m2 : v1.hi.num.n ≤ maxLen) (m3 : v1.hi.den.n ≤ maxLen) (h0 : v0.lo.num.n + v0.lo.den.n + v0.hi.num.n + v0.hi.den.n ≤ 1048576) (h : 1048576 < v0.lo.num.n + v0.lo.den.n + v0.hi.num.n + v0.hi.den.n + v1.lo.num.n + v1.lo.den.n + v1.hi.num.n + v1.hi.den.n) :
    Calls Try.prog 19 #[.agg #[.bool v0.lo.num.g, .slice v0.lo.num.a v0.lo.num.n v0.lo.num.c, .bool v0.lo.den.g, .slice v0.lo.den.a v0.lo.den.n v0.lo.den.c, .bool v0.hi.num.g, .slice v0.hi.num.a v0.hi.num.n v0.hi.num.c, .bool v0.hi.den.g, .slice v0.hi.den.a v0.hi.den.n v0.hi.den.c], .agg #[.bool v1.lo.num.g, .slice v1.lo.num.a v1.lo.num.n v1.lo.num.c, .bool v1.lo.den.g, .slice v1.lo.den.a v1.lo.den.n v1.lo.den.c, .bool v1.hi.num.g, .slice v1.hi.num.a v1.hi.num.n v1.hi.num.c, .bool v1.hi.den.g, .slice v1.hi.den.a v1.hi.den.n v1.hi.den.c]] w fun e w' => e = .returned (.bool true) ∧ Below w.heap.size w w' := by
  have hd0 : ¬ ((1048576 : Int) - (v0.lo.num.n : Int) - (v0.lo.den.n : Int) - (v0.hi.num.n : Int) - (v0.hi.den.n : Int) < 0) := by omega
  go_enter Try.func19, Try.ntmps19
  go_wp2_with fail
  refine (szS_in v0 _ _ (by omega) (by omega) (by omega)).mono ?_
  rintro e w1 ⟨rfl, hb⟩
  have y1_0 : w1.cell? ⟨w.heap.size + 1, 0, none⟩ = some (.bool v1.lo.num.g) := cell_later hb (by simp [go_sem])
  have y1_1 : w1.cell? ⟨w.heap.size + 1, 1, none⟩ = some (.slice v1.lo.num.a v1.lo.num.n v1.lo.num.c) := cell_later hb (by simp [go_sem])
  have y1_2 : w1.cell? ⟨w.heap.size + 1, 2, none⟩ = some (.bool v1.lo.den.g) := cell_later hb (by simp [go_sem])
  have y1_3 : w1.cell? ⟨w.heap.size + 1, 3, none⟩ = some (.slice v1.lo.den.a v1.lo.den.n v1.lo.den.c) := cell_later hb (by simp [go_sem])
  have y1_4 : w1.cell? ⟨w.heap.size + 1, 4, none⟩ = some (.bool v1.hi.num.g) := cell_later hb (by simp [go_sem])
  have y1_5 : w1.cell? ⟨w.heap.size + 1, 5, none⟩ = some (.slice v1.hi.num.a v1.hi.num.n v1.hi.num.c) := cell_later hb (by simp [go_sem])
  have y1_6 : w1.cell? ⟨w.heap.size + 1, 6, none⟩ = some (.bool v1.hi.den.g) := cell_later hb (by simp [go_sem])
  have y1_7 : w1.cell? ⟨w.heap.size + 1, 7, none⟩ = some (.slice v1.hi.den.a v1.hi.den.n v1.hi.den.c) := cell_later hb (by simp [go_sem])
  have HB := hide (below_two' hb)
  clear hb
  go_wp2_with fail
  refine (szS_out v1 _ _ (by omega) (by omega) m0 m1 m2 m3 (by omega)).mono ?_
  rintro e w2 ⟨rfl, hb⟩
  replace HB := hide (below_on (unhide HB) hb)
  clear hb
  go_wp2
  go_ret
  exact ⟨rfl, unhide HB⟩

set_option maxRecDepth 100000 in
set_option maxHeartbeats 16000000 in
theorem lawMulS_in (v0 : SV) (v1 : SV) (d0 : SD) (d1 : SD) (w : World) (hx0 : AllSl w [(v0.lo.num, d0.lo.num), (v0.lo.den, d0.lo.den), (v0.hi.num, d0.hi.num), (v0.hi.den, d0.hi.den)]) (hx1 : AllSl w [(v1.lo.num, d1.lo.num), (v1.lo.den, d1.lo.den), (v1.hi.num, d1.hi.num), (v1.hi.den, d1.hi.den)])  (h : v0.lo.num.n + v0.lo.den.n + v0.hi.num.n + v0.hi.den.n + v1.lo.num.n + v1.lo.den.n + v1.hi.num.n + v1.hi.den.n ≤ 1048576) :
    Calls Try.prog 19 #[.agg #[.bool v0.lo.num.g, .slice v0.lo.num.a v0.lo.num.n v0.lo.num.c, .bool v0.lo.den.g, .slice v0.lo.den.a v0.lo.den.n v0.lo.den.c, .bool v0.hi.num.g, .slice v0.hi.num.a v0.hi.num.n v0.hi.num.c, .bool v0.hi.den.g, .slice v0.hi.den.a v0.hi.den.n v0.hi.den.c], .agg #[.bool v1.lo.num.g, .slice v1.lo.num.a v1.lo.num.n v1.lo.num.c, .bool v1.lo.den.g, .slice v1.lo.den.a v1.lo.den.n v1.lo.den.c, .bool v1.hi.num.g, .slice v1.hi.num.a v1.hi.num.n v1.hi.num.c, .bool v1.hi.den.g, .slice v1.hi.den.a v1.hi.den.n v1.hi.den.c]] w fun e w' => e = .returned (.bool true) ∧ Below w.heap.size w w' := by
  have HX0 := hide hx0
  have HX1 := hide hx1
  clear hx0 hx1
  have l0 : v0.lo.num.n ≤ 1048576 := by omega
  have lm0 : v0.lo.num.n ≤ maxLen := by unfold maxLen; omega
  have l1 : v0.lo.den.n ≤ 1048576 := by omega
  have lm1 : v0.lo.den.n ≤ maxLen := by unfold maxLen; omega
  have l2 : v0.hi.num.n ≤ 1048576 := by omega
  have lm2 : v0.hi.num.n ≤ maxLen := by unfold maxLen; omega
  have l3 : v0.hi.den.n ≤ 1048576 := by omega
  have lm3 : v0.hi.den.n ≤ maxLen := by unfold maxLen; omega
  have l4 : v1.lo.num.n ≤ 1048576 := by omega
  have lm4 : v1.lo.num.n ≤ maxLen := by unfold maxLen; omega
  have l5 : v1.lo.den.n ≤ 1048576 := by omega
  have lm5 : v1.lo.den.n ≤ maxLen := by unfold maxLen; omega
  have l6 : v1.hi.num.n ≤ 1048576 := by omega
  have lm6 : v1.hi.num.n ≤ maxLen := by unfold maxLen; omega
  have l7 : v1.hi.den.n ≤ 1048576 := by omega
  have lm7 : v1.hi.den.n ≤ maxLen := by unfold maxLen; omega
  have hd0 : ¬ ((1048576 : Int) - (v0.lo.num.n : Int) - (v0.lo.den.n : Int) - (v0.hi.num.n : Int) - (v0.hi.den.n : Int) < 0) := by omega
  have hd1 : ¬ ((1048576 : Int) - (v0.lo.num.n : Int) - (v0.lo.den.n : Int) - (v0.hi.num.n : Int) - (v0.hi.den.n : Int) - (v1.lo.num.n : Int) - (v1.lo.den.n : Int) - (v1.hi.num.n : Int) - (v1.hi.den.n : Int) < 0) := by omega
  obtain ⟨U, HU⟩ : ∃ U : SD → Bool → Prop, Hid (U = AnsS (gS d0 && gS d1) (mLo d0 d1).1 (mLo d0 d1).2 (mHi d0 d1).1 (mHi d0 d1).2) := ⟨_, hide rfl⟩
  have US : Hid (∀ d ok d' ok', U d ok → U d' ok' → d = d' ∧ ok = ok') := hide (by rw [unhide HU]; exact fun d ok d' ok' h k => h.same k)
  have UL : Hid (∀ d ok, U d ok → d.lo.num.xs.length ≤ 40 ∧ d.lo.den.xs.length ≤ 40 ∧ d.hi.num.xs.length ≤ 40 ∧ d.hi.den.xs.length ≤ 40) := hide (by rw [unhide HU]; exact fun d ok h => h.lens)
  have CS : Hid (∀ (q0 : SV) (q1 : SV) (w : World), AllAr w [(q0.lo.num, d0.lo.num), (q0.lo.den, d0.lo.den), (q0.hi.num, d0.hi.num), (q0.hi.den, d0.hi.den)] → AllAr w [(q1.lo.num, d1.lo.num), (q1.lo.den, d1.lo.den), (q1.hi.num, d1.hi.num), (q1.hi.den, d1.hi.den)] → Calls Try.prog 75 #[.agg #[.bool q0.lo.num.g, .slice q0.lo.num.a q0.lo.num.n q0.lo.num.c, .bool q0.lo.den.g, .slice q0.lo.den.a q0.lo.den.n q0.lo.den.c, .bool q0.hi.num.g, .slice q0.hi.num.a q0.hi.num.n q0.hi.num.c, .bool q0.hi.den.g, .slice q0.hi.den.a q0.hi.den.n q0.hi.den.c], .agg #[.bool q1.lo.num.g, .slice q1.lo.num.a q1.lo.num.n q1.lo.num.c, .bool q1.lo.den.g, .slice q1.lo.den.a q1.lo.den.n q1.lo.den.c, .bool q1.hi.num.g, .slice q1.hi.num.a q1.hi.num.n q1.hi.num.c, .bool q1.hi.den.g, .slice q1.hi.den.a q1.hi.den.n q1.hi.den.c]] w (RetS w U)) := hide (by rw [unhide HU]; exact fun q0 q1 w h0 h1 => MulSS q0 q1 d0 d1 w h0 h1)
  have CI : Hid (∀ (q0 : SV) (q1 : SV) (w : World), AllAr w [(q0.lo.num, d0.lo.num), (q0.lo.den, d0.lo.den), (q0.hi.num, d0.hi.num), (q0.hi.den, d0.hi.den)] → AllAr w [(q1.lo.num, d1.lo.num), (q1.lo.den, d1.lo.den), (q1.hi.num, d1.hi.num), (q1.hi.den, d1.hi.den)] → Calls Try.prog 76 #[.agg #[.bool q0.lo.num.g, .slice q0.lo.num.a q0.lo.num.n q0.lo.num.c, .bool q0.lo.den.g, .slice q0.lo.den.a q0.lo.den.n q0.lo.den.c, .bool q0.hi.num.g, .slice q0.hi.num.a q0.hi.num.n q0.hi.num.c, .bool q0.hi.den.g, .slice q0.hi.den.a q0.hi.den.n q0.hi.den.c], .agg #[.bool q1.lo.num.g, .slice q1.lo.num.a q1.lo.num.n q1.lo.num.c, .bool q1.lo.den.g, .slice q1.lo.den.a q1.lo.den.n q1.lo.den.c, .bool q1.hi.num.g, .slice q1.hi.num.a q1.hi.num.n q1.hi.num.c, .bool q1.hi.den.g, .slice q1.hi.den.a q1.hi.den.n q1.hi.den.c]] w (RetS w U)) := hide (by rw [unhide HU]; exact fun q0 q1 w h0 h1 => MulSI q0 q1 d0 d1 w h0 h1)
  clear HU
  go_enter Try.func19, Try.ntmps19
  go_wp2_with fail
  refine (szS_in v0 _ _ (by omega) (by omega) (by omega)).mono ?_
  rintro e w1 ⟨rfl, hb⟩
  have T := hide ((TlawMulS.start w v0 d0 v1 d1 58 58 (unhide HX0) (unhide HX1)).later hb)
  have z : w.heap.size + 2 ≤ w1.heap.size := by have := hb.size; simp at this; omega
  have y0 := (unhide T).x1_0
  have y1 := (unhide T).x1_1
  have y2 := (unhide T).x1_2
  have y3 := (unhide T).x1_3
  have y4 := (unhide T).x1_4
  have y5 := (unhide T).x1_5
  have y6 := (unhide T).x1_6
  have y7 := (unhide T).x1_7
  clear hb
  go_wp2_with fail
  refine (szS_in v1 _ _ (by omega) (by omega) (by omega)).mono ?_
  rintro e w2 ⟨rfl, hb⟩
  replace T := hide ((unhide T).later hb)
  replace z : w.heap.size + 2 ≤ w2.heap.size := Nat.le_trans z hb.size
  clear y0 y1 y2 y3 y4 y5 y6 y7
  clear hb
  go_upto_region 8 with fail
  go_cut [6, 7] (fun p q wx => ∃ (G : Nat) (v : SV) (d : SD) (ok : Bool), p = .pointer (some ⟨G, 0, none⟩) ∧ q = .bool ok ∧ Hid (MetS w2 wx G v d) ∧ Hid (U d ok) ∧ Hid (TlawMulS w wx v0 d0 v1 d1))
  case first =>
    have ka0 := (unhide T).x0_0
    have ka1 := (unhide T).x0_1
    have ka2 := (unhide T).x0_2
    have ka3 := (unhide T).x0_3
    have ka4 := (unhide T).x0_4
    have ka5 := (unhide T).x0_5
    have ka6 := (unhide T).x0_6
    have ka7 := (unhide T).x0_7
    have ka8 := (unhide T).x1_0
    have ka9 := (unhide T).x1_1
    have ka10 := (unhide T).x1_2
    have ka11 := (unhide T).x1_3
    have ka12 := (unhide T).x1_4
    have ka13 := (unhide T).x1_5
    have ka14 := (unhide T).x1_6
    have ka15 := (unhide T).x1_7
    go_region_held3 (fun w' => w'.cell? ⟨w.heap.size, 0, none⟩ = some (.bool v0.lo.num.g) ∧ w'.cell? ⟨w.heap.size, 1, none⟩ = some (.slice v0.lo.num.a v0.lo.num.n v0.lo.num.c) ∧ w'.cell? ⟨w.heap.size, 2, none⟩ = some (.bool v0.lo.den.g) ∧ w'.cell? ⟨w.heap.size, 3, none⟩ = some (.slice v0.lo.den.a v0.lo.den.n v0.lo.den.c) ∧ w'.cell? ⟨w.heap.size, 4, none⟩ = some (.bool v0.hi.num.g) ∧ w'.cell? ⟨w.heap.size, 5, none⟩ = some (.slice v0.hi.num.a v0.hi.num.n v0.hi.num.c) ∧ w'.cell? ⟨w.heap.size, 6, none⟩ = some (.bool v0.hi.den.g) ∧ w'.cell? ⟨w.heap.size, 7, none⟩ = some (.slice v0.hi.den.a v0.hi.den.n v0.hi.den.c) ∧ w'.cell? ⟨w.heap.size + 1, 0, none⟩ = some (.bool v1.lo.num.g) ∧ w'.cell? ⟨w.heap.size + 1, 1, none⟩ = some (.slice v1.lo.num.a v1.lo.num.n v1.lo.num.c) ∧ w'.cell? ⟨w.heap.size + 1, 2, none⟩ = some (.bool v1.lo.den.g) ∧ w'.cell? ⟨w.heap.size + 1, 3, none⟩ = some (.slice v1.lo.den.a v1.lo.den.n v1.lo.den.c) ∧ w'.cell? ⟨w.heap.size + 1, 4, none⟩ = some (.bool v1.hi.num.g) ∧ w'.cell? ⟨w.heap.size + 1, 5, none⟩ = some (.slice v1.hi.num.a v1.hi.num.n v1.hi.num.c) ∧ w'.cell? ⟨w.heap.size + 1, 6, none⟩ = some (.bool v1.hi.den.g) ∧ w'.cell? ⟨w.heap.size + 1, 7, none⟩ = some (.slice v1.hi.den.a v1.hi.den.n v1.hi.den.c)) (with_reducible (first | exact ⟨ka0, ka1, ka2, ka3, ka4, ka5, ka6, ka7, ka8, ka9, ka10, ka11, ka12, ka13, ka14, ka15⟩ | exact ⟨cd_other ka0, cd_other ka1, cd_other ka2, cd_other ka3, cd_other ka4, cd_other ka5, cd_other ka6, cd_other ka7, cd_other ka8, cd_other ka9, cd_other ka10, cd_other ka11, cd_other ka12, cd_other ka13, cd_other ka14, cd_other ka15⟩ | exact ⟨ca_other ka0, ca_other ka1, ca_other ka2, ca_other ka3, ca_other ka4, ca_other ka5, ca_other ka6, ca_other ka7, ca_other ka8, ca_other ka9, ca_other ka10, ca_other ka11, ca_other ka12, ca_other ka13, ca_other ka14, ca_other ka15⟩ | exact ⟨cd_other (ca_other ka0), cd_other (ca_other ka1), cd_other (ca_other ka2), cd_other (ca_other ka3), cd_other (ca_other ka4), cd_other (ca_other ka5), cd_other (ca_other ka6), cd_other (ca_other ka7), cd_other (ca_other ka8), cd_other (ca_other ka9), cd_other (ca_other ka10), cd_other (ca_other ka11), cd_other (ca_other ka12), cd_other (ca_other ka13), cd_other (ca_other ka14), cd_other (ca_other ka15)⟩ | exact ⟨cs_other (cs_other (cs_other (cs_other (cs_other (cs_other (cs_other (cs_other (ka0) (by omega)) (by omega)) (by omega)) (by omega)) (by omega)) (by omega)) (by omega)) (by omega), cs_other (cs_other (cs_other (cs_other (cs_other (cs_other (cs_other (cs_other (ka1) (by omega)) (by omega)) (by omega)) (by omega)) (by omega)) (by omega)) (by omega)) (by omega), cs_other (cs_other (cs_other (cs_other (cs_other (cs_other (cs_other (cs_other (ka2) (by omega)) (by omega)) (by omega)) (by omega)) (by omega)) (by omega)) (by omega)) (by omega), cs_other (cs_other (cs_other (cs_other (cs_other (cs_other (cs_other (cs_other (ka3) (by omega)) (by omega)) (by omega)) (by omega)) (by omega)) (by omega)) (by omega)) (by omega), cs_other (cs_other (cs_other (cs_other (cs_other (cs_other (cs_other (cs_other (ka4) (by omega)) (by omega)) (by omega)) (by omega)) (by omega)) (by omega)) (by omega)) (by omega), cs_other (cs_other (cs_other (cs_other (cs_other (cs_other (cs_other (cs_other (ka5) (by omega)) (by omega)) (by omega)) (by omega)) (by omega)) (by omega)) (by omega)) (by omega), cs_other (cs_other (cs_other (cs_other (cs_other (cs_other (cs_other (cs_other (ka6) (by omega)) (by omega)) (by omega)) (by omega)) (by omega)) (by omega)) (by omega)) (by omega), cs_other (cs_other (cs_other (cs_other (cs_other (cs_other (cs_other (cs_other (ka7) (by omega)) (by omega)) (by omega)) (by omega)) (by omega)) (by omega)) (by omega)) (by omega), cs_other (cs_other (cs_other (cs_other (cs_other (cs_other (cs_other (cs_other (ka8) (by omega)) (by omega)) (by omega)) (by omega)) (by omega)) (by omega)) (by omega)) (by omega), cs_other (cs_other (cs_other (cs_other (cs_other (cs_other (cs_other (cs_other (ka9) (by omega)) (by omega)) (by omega)) (by omega)) (by omega)) (by omega)) (by omega)) (by omega), cs_other (cs_other (cs_other (cs_other (cs_other (cs_other (cs_other (cs_other (ka10) (by omega)) (by omega)) (by omega)) (by omega)) (by omega)) (by omega)) (by omega)) (by omega), cs_other (cs_other (cs_other (cs_other (cs_other (cs_other (cs_other (cs_other (ka11) (by omega)) (by omega)) (by omega)) (by omega)) (by omega)) (by omega)) (by omega)) (by omega), cs_other (cs_other (cs_other (cs_other (cs_other (cs_other (cs_other (cs_other (ka12) (by omega)) (by omega)) (by omega)) (by omega)) (by omega)) (by omega)) (by omega)) (by omega), cs_other (cs_other (cs_other (cs_other (cs_other (cs_other (cs_other (cs_other (ka13) (by omega)) (by omega)) (by omega)) (by omega)) (by omega)) (by omega)) (by omega)) (by omega), cs_other (cs_other (cs_other (cs_other (cs_other (cs_other (cs_other (cs_other (ka14) (by omega)) (by omega)) (by omega)) (by omega)) (by omega)) (by omega)) (by omega)) (by omega), cs_other (cs_other (cs_other (cs_other (cs_other (cs_other (cs_other (cs_other (ka15) (by omega)) (by omega)) (by omega)) (by omega)) (by omega)) (by omega)) (by omega)) (by omega)⟩ | fail))
      (first
      | (go_at_call_of 62 (Value.agg #[Value.bool v0.lo.num.g, Value.slice v0.lo.num.a v0.lo.num.n v0.lo.num.c, Value.bool v0.lo.den.g, Value.slice v0.lo.den.a v0.lo.den.n v0.lo.den.c, Value.bool v0.hi.num.g, Value.slice v0.hi.num.a v0.hi.num.n v0.hi.num.c, Value.bool v0.hi.den.g, Value.slice v0.hi.den.a v0.hi.den.n v0.hi.den.c]); refine (toS_at v0 d0 _ ?_ l0 l1 l2 l3).mono ?_; (first | exact (unhide T).s0.later (Below.refl _ _).drew | exact (unhide T).s0.later ((Below.refl _ _).alloc (Nat.le_refl _) _).drew); rintro e wa0 ⟨qa0, rfl, hb, hna0, ow, ar⟩; have hbx : Below w2.heap.size w2 wa0 := (by first | exact below_of_drew hb | exact bad hb); have sz0 := hbx.size; replace T := hide ((unhide T).later hbx); replace ka0 := (unhide T).x0_0; replace ka1 := (unhide T).x0_1; replace ka2 := (unhide T).x0_2; replace ka3 := (unhide T).x0_3; replace ka4 := (unhide T).x0_4; replace ka5 := (unhide T).x0_5; replace ka6 := (unhide T).x0_6; replace ka7 := (unhide T).x0_7; replace ka8 := (unhide T).x1_0; replace ka9 := (unhide T).x1_1; replace ka10 := (unhide T).x1_2; replace ka11 := (unhide T).x1_3; replace ka12 := (unhide T).x1_4; replace ka13 := (unhide T).x1_5; replace ka14 := (unhide T).x1_6; replace ka15 := (unhide T).x1_7; (try (replace gf := fun o => frozen_later hbx (World.block_lt_of_cell? _ _ g0) (gf o); replace g0 := cell_later hbx g0; replace g1 := cell_later hbx g1; replace g2 := cell_later hbx g2; replace g3 := cell_later hbx g3; replace g4 := cell_later hbx g4; replace g5 := cell_later hbx g5; replace g6 := cell_later hbx g6; replace g7 := cell_later hbx g7)); (try (refine cutP (p := wa0.cell? ⟨w2.heap.size, 0, none⟩ = some (.bool false) ∧ wa0.cell? ⟨w2.heap.size, 1, none⟩ = some (.slice none 0 0) ∧ wa0.cell? ⟨w2.heap.size, 2, none⟩ = some (.bool false) ∧ wa0.cell? ⟨w2.heap.size, 3, none⟩ = some (.slice none 0 0) ∧ wa0.cell? ⟨w2.heap.size, 4, none⟩ = some (.bool false) ∧ wa0.cell? ⟨w2.heap.size, 5, none⟩ = some (.slice none 0 0) ∧ wa0.cell? ⟨w2.heap.size, 6, none⟩ = some (.bool false) ∧ wa0.cell? ⟨w2.heap.size, 7, none⟩ = some (.slice none 0 0) ∧ ∀ o, wa0.frozen? ⟨w2.heap.size, o, none⟩ = false) ?_ (fun dd => ?_); (focus (refine ⟨cell_later hb ?_, cell_later hb ?_, cell_later hb ?_, cell_later hb ?_, cell_later hb ?_, cell_later hb ?_, cell_later hb ?_, cell_later hb ?_, fun o => frozen_later hb ?_ ?_⟩ <;> (simp [go_sem]; done))); obtain ⟨g0, g1, g2, g3, g4, g5, g6, g7, gf⟩ := dd)); have zz0 := hb.size; (try simp at zz0); have HBr := hide hbx; have A0 := hide ar; clear hb hbx ow ar hna0)
      | (go_at_call_of 62 (Value.agg #[Value.bool v1.lo.num.g, Value.slice v1.lo.num.a v1.lo.num.n v1.lo.num.c, Value.bool v1.lo.den.g, Value.slice v1.lo.den.a v1.lo.den.n v1.lo.den.c, Value.bool v1.hi.num.g, Value.slice v1.hi.num.a v1.hi.num.n v1.hi.num.c, Value.bool v1.hi.den.g, Value.slice v1.hi.den.a v1.hi.den.n v1.hi.den.c]); refine (toS_at v1 d1 _ ?_ l4 l5 l6 l7).mono ?_; (first | exact (unhide T).s1 | exact (unhide T).s1.later ((Below.refl _ _).alloc (Nat.le_refl _) _)); rintro e wa1 ⟨qa1, rfl, hb, hna1, ow, ar⟩; have hbx : Below wa0.heap.size wa0 wa1 := (by first | exact hb | exact ba hb); have sz1 := hbx.size; replace T := hide ((unhide T).later hbx); replace ka0 := (unhide T).x0_0; replace ka1 := (unhide T).x0_1; replace ka2 := (unhide T).x0_2; replace ka3 := (unhide T).x0_3; replace ka4 := (unhide T).x0_4; replace ka5 := (unhide T).x0_5; replace ka6 := (unhide T).x0_6; replace ka7 := (unhide T).x0_7; replace ka8 := (unhide T).x1_0; replace ka9 := (unhide T).x1_1; replace ka10 := (unhide T).x1_2; replace ka11 := (unhide T).x1_3; replace ka12 := (unhide T).x1_4; replace ka13 := (unhide T).x1_5; replace ka14 := (unhide T).x1_6; replace ka15 := (unhide T).x1_7; replace A0 := hide ((unhide A0).later hbx); (try (replace gf := fun o => frozen_later hbx (World.block_lt_of_cell? _ _ g0) (gf o); replace g0 := cell_later hbx g0; replace g1 := cell_later hbx g1; replace g2 := cell_later hbx g2; replace g3 := cell_later hbx g3; replace g4 := cell_later hbx g4; replace g5 := cell_later hbx g5; replace g6 := cell_later hbx g6; replace g7 := cell_later hbx g7)); (try (refine cutP (p := wa1.cell? ⟨wa0.heap.size, 0, none⟩ = some (.bool false) ∧ wa1.cell? ⟨wa0.heap.size, 1, none⟩ = some (.slice none 0 0) ∧ wa1.cell? ⟨wa0.heap.size, 2, none⟩ = some (.bool false) ∧ wa1.cell? ⟨wa0.heap.size, 3, none⟩ = some (.slice none 0 0) ∧ wa1.cell? ⟨wa0.heap.size, 4, none⟩ = some (.bool false) ∧ wa1.cell? ⟨wa0.heap.size, 5, none⟩ = some (.slice none 0 0) ∧ wa1.cell? ⟨wa0.heap.size, 6, none⟩ = some (.bool false) ∧ wa1.cell? ⟨wa0.heap.size, 7, none⟩ = some (.slice none 0 0) ∧ ∀ o, wa1.frozen? ⟨wa0.heap.size, o, none⟩ = false) ?_ (fun dd => ?_); (focus (refine ⟨cell_later hb ?_, cell_later hb ?_, cell_later hb ?_, cell_later hb ?_, cell_later hb ?_, cell_later hb ?_, cell_later hb ?_, cell_later hb ?_, fun o => frozen_later hb ?_ ?_⟩ <;> (simp [go_sem]; done))); obtain ⟨g0, g1, g2, g3, g4, g5, g6, g7, gf⟩ := dd)); have zz1 := hb.size; (try simp at zz1); have HBr := hide (below_on (unhide HBr) hbx); have A1 := hide ar; clear hb hbx ow ar hna1)
      | (go_at_call 75; refine (unhide CS _ _ _ ?_ ?_).mono ?_; (first | exact unhide A0 | exact (unhide A0).later ((Below.refl _ _).alloc (Nat.le_refl _) _)); (first | exact unhide A1 | exact (unhide A1).later ((Below.refl _ _).alloc (Nat.le_refl _) _)); rintro e w5 ⟨vr, dr, okr, rfl, hb, hown, hu⟩; have hbx : Below wa1.heap.size wa1 w5 := (by first | exact hb | exact ba hb); have sz2 := hbx.size; replace T := hide ((unhide T).later hbx); replace ka0 := (unhide T).x0_0; replace ka1 := (unhide T).x0_1; replace ka2 := (unhide T).x0_2; replace ka3 := (unhide T).x0_3; replace ka4 := (unhide T).x0_4; replace ka5 := (unhide T).x0_5; replace ka6 := (unhide T).x0_6; replace ka7 := (unhide T).x0_7; replace ka8 := (unhide T).x1_0; replace ka9 := (unhide T).x1_1; replace ka10 := (unhide T).x1_2; replace ka11 := (unhide T).x1_3; replace ka12 := (unhide T).x1_4; replace ka13 := (unhide T).x1_5; replace ka14 := (unhide T).x1_6; replace ka15 := (unhide T).x1_7; replace A0 := hide ((unhide A0).later hbx); replace A1 := hide ((unhide A1).later hbx); (try (replace gf := fun o => frozen_later hbx (World.block_lt_of_cell? _ _ g0) (gf o); replace g0 := cell_later hbx g0; replace g1 := cell_later hbx g1; replace g2 := cell_later hbx g2; replace g3 := cell_later hbx g3; replace g4 := cell_later hbx g4; replace g5 := cell_later hbx g5; replace g6 := cell_later hbx g6; replace g7 := cell_later hbx g7)); (try (refine cutP (p := w5.cell? ⟨wa1.heap.size, 0, none⟩ = some (.bool false) ∧ w5.cell? ⟨wa1.heap.size, 1, none⟩ = some (.slice none 0 0) ∧ w5.cell? ⟨wa1.heap.size, 2, none⟩ = some (.bool false) ∧ w5.cell? ⟨wa1.heap.size, 3, none⟩ = some (.slice none 0 0) ∧ w5.cell? ⟨wa1.heap.size, 4, none⟩ = some (.bool false) ∧ w5.cell? ⟨wa1.heap.size, 5, none⟩ = some (.slice none 0 0) ∧ w5.cell? ⟨wa1.heap.size, 6, none⟩ = some (.bool false) ∧ w5.cell? ⟨wa1.heap.size, 7, none⟩ = some (.slice none 0 0) ∧ ∀ o, w5.frozen? ⟨wa1.heap.size, o, none⟩ = false) ?_ (fun dd => ?_); (focus (refine ⟨cell_later hb ?_, cell_later hb ?_, cell_later hb ?_, cell_later hb ?_, cell_later hb ?_, cell_later hb ?_, cell_later hb ?_, cell_later hb ?_, fun o => frozen_later hb ?_ ?_⟩ <;> (simp [go_sem]; done))); obtain ⟨g0, g1, g2, g3, g4, g5, g6, g7, gf⟩ := dd)); have zz2 := hb.size; (try simp at zz2); have HBr := hide (below_on (unhide HBr) hbx); have O5 := hide hown; have U5 := hide hu; clear hb hbx hown hu))
    all_goals go_wp2_with fail
    all_goals go_meet
    all_goals first
      | (with_reducible refine ⟨_, vr, dr, okr, rfl, rfl, hide (metS_alloc 62 (unhide HBr) (unhide O5) ?_), U5, hide ((unhide T).later ((Below.refl _ _).alloc (Nat.le_refl _) _))⟩; omega)
      | (with_reducible refine ⟨_, vr, dr, okr, rfl, rfl, hide (metS_set (unhide HBr) (unhide O5) ?_ ?_ g0 g1 g2 g3 g4 g5 g6 g7), U5, hide ((unhide T).but metS_but ?_ (unhide HX0) (unhide HX1))⟩ <;> first | omega | (simp; done) | (simp; omega))
  case rest =>
    obtain ⟨G0, vr, dr, okr, rfl, rfl, HM, UR, T3⟩ := hcut
    clear T
    have T := T3
    clear T3
    have V0 := hide (unhide HM).var
    have zG1 : w.heap.size + 2 ≤ G0 := Nat.le_trans z (unhide HM).lo
    have zG2 : G0 < wc.heap.size := (unhide HM).hi
    clear HM
    have r0 : vr.lo.num.n ≤ 40 := by rw [← ((unhide V0).own.own (vr.lo.num, dr.lo.num) (by simp)).len]; exact (unhide UL _ _ (unhide UR)).1
    have rm0 : vr.lo.num.n ≤ maxLen := by unfold maxLen; omega
    have rl0 : vr.lo.num.n ≤ 1048576 := by omega
    have r1 : vr.lo.den.n ≤ 40 := by rw [← ((unhide V0).own.own (vr.lo.den, dr.lo.den) (by simp)).len]; exact (unhide UL _ _ (unhide UR)).2.1
    have rm1 : vr.lo.den.n ≤ maxLen := by unfold maxLen; omega
    have rl1 : vr.lo.den.n ≤ 1048576 := by omega
    have r2 : vr.hi.num.n ≤ 40 := by rw [← ((unhide V0).own.own (vr.hi.num, dr.hi.num) (by simp)).len]; exact (unhide UL _ _ (unhide UR)).2.2.1
    have rm2 : vr.hi.num.n ≤ maxLen := by unfold maxLen; omega
    have rl2 : vr.hi.num.n ≤ 1048576 := by omega
    have r3 : vr.hi.den.n ≤ 40 := by rw [← ((unhide V0).own.own (vr.hi.den, dr.hi.den) (by simp)).len]; exact (unhide UL _ _ (unhide UR)).2.2.2
    have rm3 : vr.hi.den.n ≤ maxLen := by unfold maxLen; omega
    have rl3 : vr.hi.den.n ≤ 1048576 := by omega
    have p0 := (unhide T).x0_0
    have p1 := (unhide T).x0_1
    have p2 := (unhide T).x0_2
    have p3 := (unhide T).x0_3
    have p4 := (unhide T).x0_4
    have p5 := (unhide T).x0_5
    have p6 := (unhide T).x0_6
    have p7 := (unhide T).x0_7
    go_wp2_with fail
    refine (toS_at v0 d0 _ (unhide T).s0 l0 l1 l2 l3).mono ?_
    rintro e wx0 ⟨y0, rfl, hb, hnn, ow0, ar0⟩
    have hn0 := hide hnn
    clear hnn
    have VX0 := hide (VarS.start 62 ow0)
    have AX0 := hide (ar0.later ((Below.refl _ _).alloc (Nat.le_refl _) (.cells #[.bool y0.lo.num.g, .slice y0.lo.num.a y0.lo.num.n y0.lo.num.c, .bool y0.lo.den.g, .slice y0.lo.den.a y0.lo.den.n y0.lo.den.c, .bool y0.hi.num.g, .slice y0.hi.num.a y0.hi.num.n y0.hi.num.c, .bool y0.hi.den.g, .slice y0.hi.den.a y0.hi.den.n y0.hi.den.c] 62)))
    have s0 : wc.heap.size ≤ wx0.heap.size := by have := hb.size; exact this
    replace V0 := hide ((unhide V0).later hb)
    replace T := hide ((unhide T).later hb)
    replace V0 := hide ((unhide V0).later ((Below.refl _ _).alloc (Nat.le_refl _) (.cells #[.bool y0.lo.num.g, .slice y0.lo.num.a y0.lo.num.n y0.lo.num.c, .bool y0.lo.den.g, .slice y0.lo.den.a y0.lo.den.n y0.lo.den.c, .bool y0.hi.num.g, .slice y0.hi.num.a y0.hi.num.n y0.hi.num.c, .bool y0.hi.den.g, .slice y0.hi.den.a y0.hi.den.n y0.hi.den.c] 62)))
    replace T := hide ((unhide T).later ((Below.refl _ _).alloc (Nat.le_refl _) (.cells #[.bool y0.lo.num.g, .slice y0.lo.num.a y0.lo.num.n y0.lo.num.c, .bool y0.lo.den.g, .slice y0.lo.den.a y0.lo.den.n y0.lo.den.c, .bool y0.hi.num.g, .slice y0.hi.num.a y0.hi.num.n y0.hi.num.c, .bool y0.hi.den.g, .slice y0.hi.den.a y0.hi.den.n y0.hi.den.c] 62)))
    clear hb ow0 ar0 p0 p1 p2 p3 p4 p5 p6 p7
    have p0 := (unhide T).x1_0
    have p1 := (unhide T).x1_1
    have p2 := (unhide T).x1_2
    have p3 := (unhide T).x1_3
    have p4 := (unhide T).x1_4
    have p5 := (unhide T).x1_5
    have p6 := (unhide T).x1_6
    have p7 := (unhide T).x1_7
    go_wp2_with fail
    refine (toS_at v1 d1 _ (unhide T).s1 l4 l5 l6 l7).mono ?_
    rintro e wx1 ⟨y1, rfl, hb, hnn, ow1, ar1⟩
    have hn1 := hide hnn
    clear hnn
    have VX1 := hide (VarS.start 62 (ow1.wide (lo' := wx0.heap.size + 1) (by simp) (Nat.le_refl _)))
    have AX1 := hide (ar1.later ((Below.refl _ _).alloc (Nat.le_refl _) (.cells #[.bool y1.lo.num.g, .slice y1.lo.num.a y1.lo.num.n y1.lo.num.c, .bool y1.lo.den.g, .slice y1.lo.den.a y1.lo.den.n y1.lo.den.c, .bool y1.hi.num.g, .slice y1.hi.num.a y1.hi.num.n y1.hi.num.c, .bool y1.hi.den.g, .slice y1.hi.den.a y1.hi.den.n y1.hi.den.c] 62)))
    have s1 : wx0.heap.size + 1 ≤ wx1.heap.size := by have := hb.size; simp at this; omega
    replace V0 := hide ((unhide V0).later hb)
    replace T := hide ((unhide T).later hb)
    replace VX0 := hide ((unhide VX0).later hb)
    replace AX0 := hide ((unhide AX0).later hb)
    replace V0 := hide ((unhide V0).later ((Below.refl _ _).alloc (Nat.le_refl _) (.cells #[.bool y1.lo.num.g, .slice y1.lo.num.a y1.lo.num.n y1.lo.num.c, .bool y1.lo.den.g, .slice y1.lo.den.a y1.lo.den.n y1.lo.den.c, .bool y1.hi.num.g, .slice y1.hi.num.a y1.hi.num.n y1.hi.num.c, .bool y1.hi.den.g, .slice y1.hi.den.a y1.hi.den.n y1.hi.den.c] 62)))
    replace T := hide ((unhide T).later ((Below.refl _ _).alloc (Nat.le_refl _) (.cells #[.bool y1.lo.num.g, .slice y1.lo.num.a y1.lo.num.n y1.lo.num.c, .bool y1.lo.den.g, .slice y1.lo.den.a y1.lo.den.n y1.lo.den.c, .bool y1.hi.num.g, .slice y1.hi.num.a y1.hi.num.n y1.hi.num.c, .bool y1.hi.den.g, .slice y1.hi.den.a y1.hi.den.n y1.hi.den.c] 62)))
    replace VX0 := hide ((unhide VX0).later ((Below.refl _ _).alloc (Nat.le_refl _) (.cells #[.bool y1.lo.num.g, .slice y1.lo.num.a y1.lo.num.n y1.lo.num.c, .bool y1.lo.den.g, .slice y1.lo.den.a y1.lo.den.n y1.lo.den.c, .bool y1.hi.num.g, .slice y1.hi.num.a y1.hi.num.n y1.hi.num.c, .bool y1.hi.den.g, .slice y1.hi.den.a y1.hi.den.n y1.hi.den.c] 62)))
    replace AX0 := hide ((unhide AX0).later ((Below.refl _ _).alloc (Nat.le_refl _) (.cells #[.bool y1.lo.num.g, .slice y1.lo.num.a y1.lo.num.n y1.lo.num.c, .bool y1.lo.den.g, .slice y1.lo.den.a y1.lo.den.n y1.lo.den.c, .bool y1.hi.num.g, .slice y1.hi.num.a y1.hi.num.n y1.hi.num.c, .bool y1.hi.den.g, .slice y1.hi.den.a y1.hi.den.n y1.hi.den.c] 62)))
    clear hb ow1 ar1 p0 p1 p2 p3 p4 p5 p6 p7
    have p0_0 := (unhide VX0).c0
    have p0_1 := (unhide VX0).c1
    have p0_2 := (unhide VX0).c2
    have p0_3 := (unhide VX0).c3
    have p0_4 := (unhide VX0).c4
    have p0_5 := (unhide VX0).c5
    have p0_6 := (unhide VX0).c6
    have p0_7 := (unhide VX0).c7
    go_wp2_with fail
    refine (unhide CI y0 y1 _ (unhide AX0) (unhide AX1)).mono ?_
    rintro e w5 ⟨vg, dg, okg, rfl, hb, hown, hu⟩
    obtain ⟨e1, e2⟩ := unhide US _ _ _ _ (unhide UR) hu
    subst e1 e2
    have VG := hide (VarS.start 62 (hown.wide (lo' := wx1.heap.size + 1) (by simp) (Nat.le_refl _)))
    have sg : wx1.heap.size + 1 ≤ w5.heap.size := by have := hb.size; simp at this; omega
    have en0 : vg.lo.num.n = vr.lo.num.n := by rw [← ((unhide VG).own.own (vg.lo.num, dr.lo.num) (by simp)).len, ← ((unhide V0).own.own (vr.lo.num, dr.lo.num) (by simp)).len]
    have q0 : vg.lo.num.n ≤ 40 := by omega
    have qm0 : vg.lo.num.n ≤ maxLen := by omega
    have ql0 : vg.lo.num.n ≤ 1048576 := by omega
    have en1 : vg.lo.den.n = vr.lo.den.n := by rw [← ((unhide VG).own.own (vg.lo.den, dr.lo.den) (by simp)).len, ← ((unhide V0).own.own (vr.lo.den, dr.lo.den) (by simp)).len]
    have q1 : vg.lo.den.n ≤ 40 := by omega
    have qm1 : vg.lo.den.n ≤ maxLen := by omega
    have ql1 : vg.lo.den.n ≤ 1048576 := by omega
    have en2 : vg.hi.num.n = vr.hi.num.n := by rw [← ((unhide VG).own.own (vg.hi.num, dr.hi.num) (by simp)).len, ← ((unhide V0).own.own (vr.hi.num, dr.hi.num) (by simp)).len]
    have q2 : vg.hi.num.n ≤ 40 := by omega
    have qm2 : vg.hi.num.n ≤ maxLen := by omega
    have ql2 : vg.hi.num.n ≤ 1048576 := by omega
    have en3 : vg.hi.den.n = vr.hi.den.n := by rw [← ((unhide VG).own.own (vg.hi.den, dr.hi.den) (by simp)).len, ← ((unhide V0).own.own (vr.hi.den, dr.hi.den) (by simp)).len]
    have q3 : vg.hi.den.n ≤ 40 := by omega
    have qm3 : vg.hi.den.n ≤ maxLen := by omega
    have ql3 : vg.hi.den.n ≤ 1048576 := by omega
    clear AX0 AX1 p0_0 p0_1 p0_2 p0_3 p0_4 p0_5 p0_6 p0_7
    replace V0 := hide ((unhide V0).later hb)
    replace T := hide ((unhide T).later hb)
    replace VX0 := hide ((unhide VX0).later hb)
    replace VX1 := hide ((unhide VX1).later hb)
    clear hb hown hu
    replace V0 := hide ((unhide V0).later ((Below.refl _ _).alloc (Nat.le_refl _) (.cells #[.bool vg.lo.num.g, .slice vg.lo.num.a vg.lo.num.n vg.lo.num.c, .bool vg.lo.den.g, .slice vg.lo.den.a vg.lo.den.n vg.lo.den.c, .bool vg.hi.num.g, .slice vg.hi.num.a vg.hi.num.n vg.hi.num.c, .bool vg.hi.den.g, .slice vg.hi.den.a vg.hi.den.n vg.hi.den.c] 62)))
    replace T := hide ((unhide T).later ((Below.refl _ _).alloc (Nat.le_refl _) (.cells #[.bool vg.lo.num.g, .slice vg.lo.num.a vg.lo.num.n vg.lo.num.c, .bool vg.lo.den.g, .slice vg.lo.den.a vg.lo.den.n vg.lo.den.c, .bool vg.hi.num.g, .slice vg.hi.num.a vg.hi.num.n vg.hi.num.c, .bool vg.hi.den.g, .slice vg.hi.den.a vg.hi.den.n vg.hi.den.c] 62)))
    replace VX0 := hide ((unhide VX0).later ((Below.refl _ _).alloc (Nat.le_refl _) (.cells #[.bool vg.lo.num.g, .slice vg.lo.num.a vg.lo.num.n vg.lo.num.c, .bool vg.lo.den.g, .slice vg.lo.den.a vg.lo.den.n vg.lo.den.c, .bool vg.hi.num.g, .slice vg.hi.num.a vg.hi.num.n vg.hi.num.c, .bool vg.hi.den.g, .slice vg.hi.den.a vg.hi.den.n vg.hi.den.c] 62)))
    replace VX1 := hide ((unhide VX1).later ((Below.refl _ _).alloc (Nat.le_refl _) (.cells #[.bool vg.lo.num.g, .slice vg.lo.num.a vg.lo.num.n vg.lo.num.c, .bool vg.lo.den.g, .slice vg.lo.den.a vg.lo.den.n vg.lo.den.c, .bool vg.hi.num.g, .slice vg.hi.num.a vg.hi.num.n vg.hi.num.c, .bool vg.hi.den.g, .slice vg.hi.den.a vg.hi.den.n vg.hi.den.c] 62)))
    have enh0 := hide en0
    clear en0
    have enh1 := hide en1
    clear en1
    have enh2 := hide en2
    clear en2
    have enh3 := hide en3
    clear en3
    have p0 := (unhide V0).c0
    have p1 := (unhide V0).c1
    have p2 := (unhide V0).c2
    have p3 := (unhide V0).c3
    have p4 := (unhide V0).c4
    have p5 := (unhide V0).c5
    have p6 := (unhide V0).c6
    have p7 := (unhide V0).c7
    go_wp2_with fail
    refine (eqS_at vg vr dr _ (unhide VG).own.sl (unhide V0).own.sl qm0 qm1 qm2 qm3).mono ?_
    rintro e w6 ⟨rfl, hb⟩
    clear p0 p1 p2 p3 p4 p5 p6 p7
    replace V0 := hide ((unhide V0).later hb)
    replace T := hide ((unhide T).later hb)
    replace VX0 := hide ((unhide VX0).later hb)
    replace VX1 := hide ((unhide VX1).later hb)
    replace VG := hide ((unhide VG).later hb)
    clear hb
    generalize wx0.heap.size = GX0 at *
    generalize wx1.heap.size = GX1 at *
    generalize w5.heap.size = GG at *
    generalize wc.heap.size = GC at *
    go_wp2_with fail
    have ka0 := (unhide T).x0_0
    have kx0 := (unhide VX0).c0
    have ka1 := (unhide T).x0_1
    have kx1 := (unhide VX0).c1
    have ka2 := (unhide T).x0_2
    have kx2 := (unhide VX0).c2
    have ka3 := (unhide T).x0_3
    have kx3 := (unhide VX0).c3
    have ka4 := (unhide T).x0_4
    have kx4 := (unhide VX0).c4
    have ka5 := (unhide T).x0_5
    have kx5 := (unhide VX0).c5
    have ka6 := (unhide T).x0_6
    have kx6 := (unhide VX0).c6
    have ka7 := (unhide T).x0_7
    have kx7 := (unhide VX0).c7
    go_region_held3 (fun w' => w'.cell? ⟨w.heap.size, 0, none⟩ = some (.bool v0.lo.num.g) ∧ w'.cell? ⟨w.heap.size, 1, none⟩ = some (.slice v0.lo.num.a v0.lo.num.n v0.lo.num.c) ∧ w'.cell? ⟨w.heap.size, 2, none⟩ = some (.bool v0.lo.den.g) ∧ w'.cell? ⟨w.heap.size, 3, none⟩ = some (.slice v0.lo.den.a v0.lo.den.n v0.lo.den.c) ∧ w'.cell? ⟨w.heap.size, 4, none⟩ = some (.bool v0.hi.num.g) ∧ w'.cell? ⟨w.heap.size, 5, none⟩ = some (.slice v0.hi.num.a v0.hi.num.n v0.hi.num.c) ∧ w'.cell? ⟨w.heap.size, 6, none⟩ = some (.bool v0.hi.den.g) ∧ w'.cell? ⟨w.heap.size, 7, none⟩ = some (.slice v0.hi.den.a v0.hi.den.n v0.hi.den.c) ∧ w'.cell? ⟨GX0, 0, none⟩ = some (.bool y0.lo.num.g) ∧ w'.cell? ⟨GX0, 1, none⟩ = some (.slice y0.lo.num.a y0.lo.num.n y0.lo.num.c) ∧ w'.cell? ⟨GX0, 2, none⟩ = some (.bool y0.lo.den.g) ∧ w'.cell? ⟨GX0, 3, none⟩ = some (.slice y0.lo.den.a y0.lo.den.n y0.lo.den.c) ∧ w'.cell? ⟨GX0, 4, none⟩ = some (.bool y0.hi.num.g) ∧ w'.cell? ⟨GX0, 5, none⟩ = some (.slice y0.hi.num.a y0.hi.num.n y0.hi.num.c) ∧ w'.cell? ⟨GX0, 6, none⟩ = some (.bool y0.hi.den.g) ∧ w'.cell? ⟨GX0, 7, none⟩ = some (.slice y0.hi.den.a y0.hi.den.n y0.hi.den.c)) (with_reducible (first | exact ⟨ka0, ka1, ka2, ka3, ka4, ka5, ka6, ka7, kx0, kx1, kx2, kx3, kx4, kx5, kx6, kx7⟩ | exact ⟨cd_other ka0, cd_other ka1, cd_other ka2, cd_other ka3, cd_other ka4, cd_other ka5, cd_other ka6, cd_other ka7, cd_other kx0, cd_other kx1, cd_other kx2, cd_other kx3, cd_other kx4, cd_other kx5, cd_other kx6, cd_other kx7⟩ | fail))
      (first
      | (go_at_call 62; refine (toS_at v0 d0 _ ?_ l0 l1 l2 l3).mono ?_; exact (unhide T).s0.later (Below.refl _ _).drew; rintro e w7 ⟨u7, rfl, hb', hn7, ow7, ar7⟩; have hb := below_of_drew hb'; replace V0 := hide ((unhide V0).later hb); replace T := hide ((unhide T).later hb); replace VX0 := hide ((unhide VX0).later hb); replace VX1 := hide ((unhide VX1).later hb); replace VG := hide ((unhide VG).later hb); replace ka0 := (unhide T).x0_0; replace kx0 := (unhide VX0).c0; replace ka1 := (unhide T).x0_1; replace kx1 := (unhide VX0).c1; replace ka2 := (unhide T).x0_2; replace kx2 := (unhide VX0).c2; replace ka3 := (unhide T).x0_3; replace kx3 := (unhide VX0).c3; replace ka4 := (unhide T).x0_4; replace kx4 := (unhide VX0).c4; replace ka5 := (unhide T).x0_5; replace kx5 := (unhide VX0).c5; replace ka6 := (unhide T).x0_6; replace kx6 := (unhide VX0).c6; replace ka7 := (unhide T).x0_7; replace kx7 := (unhide VX0).c7; have S7 := hide ow7.sl; clear hb hb' ow7 ar7 hn7)
      | (go_at_call 64; refine (eqS_at y0 u7 d0 _ (unhide VX0).own.sl (unhide S7) (by rw [(unhide hn0).1]; exact lm0) (by rw [(unhide hn0).2.1]; exact lm1) (by rw [(unhide hn0).2.2.1]; exact lm2) (by rw [(unhide hn0).2.2.2]; exact lm3)).mono ?_; rintro e w8 ⟨rfl, hb⟩; replace V0 := hide ((unhide V0).later hb); replace T := hide ((unhide T).later hb); replace VX0 := hide ((unhide VX0).later hb); replace VX1 := hide ((unhide VX1).later hb); replace VG := hide ((unhide VG).later hb); replace ka0 := (unhide T).x0_0; replace kx0 := (unhide VX0).c0; replace ka1 := (unhide T).x0_1; replace kx1 := (unhide VX0).c1; replace ka2 := (unhide T).x0_2; replace kx2 := (unhide VX0).c2; replace ka3 := (unhide T).x0_3; replace kx3 := (unhide VX0).c3; replace ka4 := (unhide T).x0_4; replace kx4 := (unhide VX0).c4; replace ka5 := (unhide T).x0_5; replace kx5 := (unhide VX0).c5; replace ka6 := (unhide T).x0_6; replace kx6 := (unhide VX0).c6; replace ka7 := (unhide T).x0_7; replace kx7 := (unhide VX0).c7; clear hb))
    clear S7 ka0 kx0 ka1 kx1 ka2 kx2 ka3 kx3 ka4 kx4 ka5 kx5 ka6 kx6 ka7 kx7
    go_wp2_with fail
    have ka0 := (unhide T).x1_0
    have kx0 := (unhide VX1).c0
    have ka1 := (unhide T).x1_1
    have kx1 := (unhide VX1).c1
    have ka2 := (unhide T).x1_2
    have kx2 := (unhide VX1).c2
    have ka3 := (unhide T).x1_3
    have kx3 := (unhide VX1).c3
    have ka4 := (unhide T).x1_4
    have kx4 := (unhide VX1).c4
    have ka5 := (unhide T).x1_5
    have kx5 := (unhide VX1).c5
    have ka6 := (unhide T).x1_6
    have kx6 := (unhide VX1).c6
    have ka7 := (unhide T).x1_7
    have kx7 := (unhide VX1).c7
    go_region_held3 (fun w' => w'.cell? ⟨w.heap.size + 1, 0, none⟩ = some (.bool v1.lo.num.g) ∧ w'.cell? ⟨w.heap.size + 1, 1, none⟩ = some (.slice v1.lo.num.a v1.lo.num.n v1.lo.num.c) ∧ w'.cell? ⟨w.heap.size + 1, 2, none⟩ = some (.bool v1.lo.den.g) ∧ w'.cell? ⟨w.heap.size + 1, 3, none⟩ = some (.slice v1.lo.den.a v1.lo.den.n v1.lo.den.c) ∧ w'.cell? ⟨w.heap.size + 1, 4, none⟩ = some (.bool v1.hi.num.g) ∧ w'.cell? ⟨w.heap.size + 1, 5, none⟩ = some (.slice v1.hi.num.a v1.hi.num.n v1.hi.num.c) ∧ w'.cell? ⟨w.heap.size + 1, 6, none⟩ = some (.bool v1.hi.den.g) ∧ w'.cell? ⟨w.heap.size + 1, 7, none⟩ = some (.slice v1.hi.den.a v1.hi.den.n v1.hi.den.c) ∧ w'.cell? ⟨GX1, 0, none⟩ = some (.bool y1.lo.num.g) ∧ w'.cell? ⟨GX1, 1, none⟩ = some (.slice y1.lo.num.a y1.lo.num.n y1.lo.num.c) ∧ w'.cell? ⟨GX1, 2, none⟩ = some (.bool y1.lo.den.g) ∧ w'.cell? ⟨GX1, 3, none⟩ = some (.slice y1.lo.den.a y1.lo.den.n y1.lo.den.c) ∧ w'.cell? ⟨GX1, 4, none⟩ = some (.bool y1.hi.num.g) ∧ w'.cell? ⟨GX1, 5, none⟩ = some (.slice y1.hi.num.a y1.hi.num.n y1.hi.num.c) ∧ w'.cell? ⟨GX1, 6, none⟩ = some (.bool y1.hi.den.g) ∧ w'.cell? ⟨GX1, 7, none⟩ = some (.slice y1.hi.den.a y1.hi.den.n y1.hi.den.c)) (with_reducible (first | exact ⟨ka0, ka1, ka2, ka3, ka4, ka5, ka6, ka7, kx0, kx1, kx2, kx3, kx4, kx5, kx6, kx7⟩ | exact ⟨cd_other ka0, cd_other ka1, cd_other ka2, cd_other ka3, cd_other ka4, cd_other ka5, cd_other ka6, cd_other ka7, cd_other kx0, cd_other kx1, cd_other kx2, cd_other kx3, cd_other kx4, cd_other kx5, cd_other kx6, cd_other kx7⟩ | fail))
      (first
      | (go_at_call 62; refine (toS_at v1 d1 _ ?_ l4 l5 l6 l7).mono ?_; exact (unhide T).s1.later (Below.refl _ _).drew; rintro e w7 ⟨u7, rfl, hb', hn7, ow7, ar7⟩; have hb := below_of_drew hb'; replace V0 := hide ((unhide V0).later hb); replace T := hide ((unhide T).later hb); replace VX0 := hide ((unhide VX0).later hb); replace VX1 := hide ((unhide VX1).later hb); replace VG := hide ((unhide VG).later hb); replace ka0 := (unhide T).x1_0; replace kx0 := (unhide VX1).c0; replace ka1 := (unhide T).x1_1; replace kx1 := (unhide VX1).c1; replace ka2 := (unhide T).x1_2; replace kx2 := (unhide VX1).c2; replace ka3 := (unhide T).x1_3; replace kx3 := (unhide VX1).c3; replace ka4 := (unhide T).x1_4; replace kx4 := (unhide VX1).c4; replace ka5 := (unhide T).x1_5; replace kx5 := (unhide VX1).c5; replace ka6 := (unhide T).x1_6; replace kx6 := (unhide VX1).c6; replace ka7 := (unhide T).x1_7; replace kx7 := (unhide VX1).c7; have S7 := hide ow7.sl; clear hb hb' ow7 ar7 hn7)
      | (go_at_call 64; refine (eqS_at y1 u7 d1 _ (unhide VX1).own.sl (unhide S7) (by rw [(unhide hn1).1]; exact lm4) (by rw [(unhide hn1).2.1]; exact lm5) (by rw [(unhide hn1).2.2.1]; exact lm6) (by rw [(unhide hn1).2.2.2]; exact lm7)).mono ?_; rintro e w8 ⟨rfl, hb⟩; replace V0 := hide ((unhide V0).later hb); replace T := hide ((unhide T).later hb); replace VX0 := hide ((unhide VX0).later hb); replace VX1 := hide ((unhide VX1).later hb); replace VG := hide ((unhide VG).later hb); replace ka0 := (unhide T).x1_0; replace kx0 := (unhide VX1).c0; replace ka1 := (unhide T).x1_1; replace kx1 := (unhide VX1).c1; replace ka2 := (unhide T).x1_2; replace kx2 := (unhide VX1).c2; replace ka3 := (unhide T).x1_3; replace kx3 := (unhide VX1).c3; replace ka4 := (unhide T).x1_4; replace kx4 := (unhide VX1).c4; replace ka5 := (unhide T).x1_5; replace kx5 := (unhide VX1).c5; replace ka6 := (unhide T).x1_6; replace kx6 := (unhide VX1).c6; replace ka7 := (unhide T).x1_7; replace kx7 := (unhide VX1).c7; clear hb))
    clear S7 ka0 kx0 ka1 kx1 ka2 kx2 ka3 kx3 ka4 kx4 ka5 kx5 ka6 kx6 ka7 kx7
    have p0 := (unhide VX0).c0
    have p1 := (unhide VX0).c1
    have p2 := (unhide VX0).c2
    have p3 := (unhide VX0).c3
    have p4 := (unhide VX0).c4
    have p5 := (unhide VX0).c5
    have p6 := (unhide VX0).c6
    have p7 := (unhide VX0).c7
    have hl0 : y0.lo.num.n ≤ 1048576 := by rw [(unhide hn0).1]; exact l0
    have hl1 : y0.lo.den.n ≤ 1048576 := by rw [(unhide hn0).2.1]; exact l1
    have hl2 : y0.hi.num.n ≤ 1048576 := by rw [(unhide hn0).2.2.1]; exact l2
    have hl3 : y0.hi.den.n ≤ 1048576 := by rw [(unhide hn0).2.2.2]; exact l3
    go_wp2_with fail
    refine (markS_at y0 d0 [] [] 1 (GC) GX0 _ (unhide VX0).own hl0 hl1 hl2 hl3 (by have := (unhide VX0).gt; omega) (by omega) (by have := (unhide hn0).1; have := (unhide hn0).2.1; have := (unhide hn0).2.2.1; have := (unhide hn0).2.2.2; omega)).mono ?_
    rintro e w10 ⟨rfl, hbt, hmk⟩
    replace T := hide ((unhide T).but hbt (by omega) (unhide HX0) (unhide HX1))
    replace V0 := hide ((unhide V0).but hbt (by omega) (by omega))
    replace VX1 := hide ((unhide VX1).but hbt (by omega) (by omega))
    replace VG := hide ((unhide VG).but hbt (by omega) (by omega))
    clear VX0 p0 p1 p2 p3 p4 p5 p6 p7 hbt hmk hl0 hl1 hl2 hl3
    have p0 := (unhide VX1).c0
    have p1 := (unhide VX1).c1
    have p2 := (unhide VX1).c2
    have p3 := (unhide VX1).c3
    have p4 := (unhide VX1).c4
    have p5 := (unhide VX1).c5
    have p6 := (unhide VX1).c6
    have p7 := (unhide VX1).c7
    have hl0 : y1.lo.num.n ≤ 1048576 := by rw [(unhide hn1).1]; exact l4
    have hl1 : y1.lo.den.n ≤ 1048576 := by rw [(unhide hn1).2.1]; exact l5
    have hl2 : y1.hi.num.n ≤ 1048576 := by rw [(unhide hn1).2.2.1]; exact l6
    have hl3 : y1.hi.den.n ≤ 1048576 := by rw [(unhide hn1).2.2.2]; exact l7
    go_wp2_with fail
    refine (markS_at y1 d1 [] [] _ (GX0 + 1) GX1 _ (unhide VX1).own hl0 hl1 hl2 hl3 (by have := (unhide VX1).gt; omega) (by omega) (by have := (unhide hn0).1; have := (unhide hn0).2.1; have := (unhide hn0).2.2.1; have := (unhide hn0).2.2.2; have := (unhide hn1).1; have := (unhide hn1).2.1; have := (unhide hn1).2.2.1; have := (unhide hn1).2.2.2; omega)).mono ?_
    rintro e w11 ⟨rfl, hbt, hmk⟩
    replace T := hide ((unhide T).but hbt (by omega) (unhide HX0) (unhide HX1))
    replace V0 := hide ((unhide V0).but hbt (by omega) (by omega))
    replace VG := hide ((unhide VG).but hbt (by omega) (by omega))
    clear VX1 p0 p1 p2 p3 p4 p5 p6 p7 hbt hmk hl0 hl1 hl2 hl3
    have hk0 : decide ((1 : Int) + (y0.lo.num.n : Int) + (y0.lo.den.n : Int) + (y0.hi.num.n : Int) + (y0.hi.den.n : Int) + (y1.lo.num.n : Int) + (y1.lo.den.n : Int) + (y1.hi.num.n : Int) + (y1.hi.den.n : Int) < 0) = false := by simp; omega
    have p0 := (unhide VG).c0
    have pq0 := (unhide V0).c0
    have p1 := (unhide VG).c1
    have pq1 := (unhide V0).c1
    have p2 := (unhide VG).c2
    have pq2 := (unhide V0).c2
    have p3 := (unhide VG).c3
    have pq3 := (unhide V0).c3
    have p4 := (unhide VG).c4
    have pq4 := (unhide V0).c4
    have p5 := (unhide VG).c5
    have pq5 := (unhide V0).c5
    have p6 := (unhide VG).c6
    have pq6 := (unhide V0).c6
    have p7 := (unhide VG).c7
    have pq7 := (unhide V0).c7
    go_wp2_with fail
    refine (eqS_at vg vr dr _ (unhide VG).own.sl (unhide V0).own.sl qm0 qm1 qm2 qm3).mono ?_
    rintro e w20 ⟨rfl, hb⟩
    clear p0 pq0 p1 pq1 p2 pq2 p3 pq3 p4 pq4 p5 pq5 p6 pq6 p7 pq7 hk0
    replace V0 := hide ((unhide V0).later hb)
    replace T := hide ((unhide T).later hb)
    replace VG := hide ((unhide VG).later hb)
    clear hb
    have p0 := (unhide VG).c0
    have p1 := (unhide VG).c1
    have p2 := (unhide VG).c2
    have p3 := (unhide VG).c3
    have p4 := (unhide VG).c4
    have p5 := (unhide VG).c5
    have p6 := (unhide VG).c6
    have p7 := (unhide VG).c7
    go_wp2_with fail
    refine (markS_at vg dr [] [] 1 (GX1 + 1) GG _ (unhide VG).own ql0 ql1 ql2 ql3 (by have := (unhide VG).gt; omega) (by omega) (by omega)).mono ?_
    rintro e w21 ⟨rfl, hbt, hmk⟩
    replace T := hide ((unhide T).but hbt (by omega) (unhide HX0) (unhide HX1))
    replace V0 := hide ((unhide V0).but hbt (by omega) (by omega))
    replace VG := hide ((unhide VG).mark (d' := ⟨⟨⟨dr.lo.num.g, marks (1) vg.lo.num.n⟩, ⟨dr.lo.den.g, marks (1 + vg.lo.num.n) vg.lo.den.n⟩⟩, ⟨⟨dr.hi.num.g, marks (1 + vg.lo.num.n + vg.lo.den.n) vg.hi.num.n⟩, ⟨dr.hi.den.g, marks (1 + vg.lo.num.n + vg.lo.den.n + vg.hi.num.n) vg.hi.den.n⟩⟩⟩) hbt (by omega) hmk)
    clear p0 p1 p2 p3 p4 p5 p6 p7 hbt hmk
    have p0 := (unhide VG).c0
    have p1 := (unhide VG).c1
    have p2 := (unhide VG).c2
    have p3 := (unhide VG).c3
    have p4 := (unhide VG).c4
    have p5 := (unhide VG).c5
    have p6 := (unhide VG).c6
    have p7 := (unhide VG).c7
    go_wp2_with fail
    refine (heldS_at vg 1 _ ((unhide VG).own.sl (vg.lo.num, ⟨dr.lo.num.g, marks (1) vg.lo.num.n⟩) (by simp)).sl ((unhide VG).own.sl (vg.lo.den, ⟨dr.lo.den.g, marks (1 + (vg.lo.num.n : Int)) vg.lo.den.n⟩) (by simp)).sl ((unhide VG).own.sl (vg.hi.num, ⟨dr.hi.num.g, marks (1 + (vg.lo.num.n : Int) + (vg.lo.den.n : Int)) vg.hi.num.n⟩) (by simp)).sl ((unhide VG).own.sl (vg.hi.den, ⟨dr.hi.den.g, marks (1 + (vg.lo.num.n : Int) + (vg.lo.den.n : Int) + (vg.hi.num.n : Int)) vg.hi.den.n⟩) (by simp)).sl ql0 ql1 ql2 ql3 (by omega) (by omega)).mono ?_
    rintro e wk ⟨rfl, hb⟩
    replace V0 := hide ((unhide V0).later hb)
    replace T := hide ((unhide T).later hb)
    replace VG := hide ((unhide VG).later hb)
    have hr0 : ¬ ((1 : Int) + (vg.lo.num.n : Int) + (vg.lo.den.n : Int) + (vg.hi.num.n : Int) + (vg.hi.den.n : Int) < 0) := by omega
    have zk : w.heap.size + 2 ≤ wk.heap.size := by have h1 := (unhide VG).gt; omega
    clear p0 p1 p2 p3 p4 p5 p6 p7 hb
    go_upto_region 31 with fail
    go_cut [15, 16] (fun p q wx => ∃ (G : Nat) (v : SV) (d : SD) (ok : Bool), p = .pointer (some ⟨G, 0, none⟩) ∧ q = .bool ok ∧ Hid (MetS wk wx G v d) ∧ Hid (U d ok) ∧ Hid (TlawMulS w wx v0 d0 v1 d1))
    case first =>
      have ka0 := (unhide T).x0_0
      have ka1 := (unhide T).x0_1
      have ka2 := (unhide T).x0_2
      have ka3 := (unhide T).x0_3
      have ka4 := (unhide T).x0_4
      have ka5 := (unhide T).x0_5
      have ka6 := (unhide T).x0_6
      have ka7 := (unhide T).x0_7
      have ka8 := (unhide T).x1_0
      have ka9 := (unhide T).x1_1
      have ka10 := (unhide T).x1_2
      have ka11 := (unhide T).x1_3
      have ka12 := (unhide T).x1_4
      have ka13 := (unhide T).x1_5
      have ka14 := (unhide T).x1_6
      have ka15 := (unhide T).x1_7
      go_region_held3 (fun w' => w'.cell? ⟨w.heap.size, 0, none⟩ = some (.bool v0.lo.num.g) ∧ w'.cell? ⟨w.heap.size, 1, none⟩ = some (.slice v0.lo.num.a v0.lo.num.n v0.lo.num.c) ∧ w'.cell? ⟨w.heap.size, 2, none⟩ = some (.bool v0.lo.den.g) ∧ w'.cell? ⟨w.heap.size, 3, none⟩ = some (.slice v0.lo.den.a v0.lo.den.n v0.lo.den.c) ∧ w'.cell? ⟨w.heap.size, 4, none⟩ = some (.bool v0.hi.num.g) ∧ w'.cell? ⟨w.heap.size, 5, none⟩ = some (.slice v0.hi.num.a v0.hi.num.n v0.hi.num.c) ∧ w'.cell? ⟨w.heap.size, 6, none⟩ = some (.bool v0.hi.den.g) ∧ w'.cell? ⟨w.heap.size, 7, none⟩ = some (.slice v0.hi.den.a v0.hi.den.n v0.hi.den.c) ∧ w'.cell? ⟨w.heap.size + 1, 0, none⟩ = some (.bool v1.lo.num.g) ∧ w'.cell? ⟨w.heap.size + 1, 1, none⟩ = some (.slice v1.lo.num.a v1.lo.num.n v1.lo.num.c) ∧ w'.cell? ⟨w.heap.size + 1, 2, none⟩ = some (.bool v1.lo.den.g) ∧ w'.cell? ⟨w.heap.size + 1, 3, none⟩ = some (.slice v1.lo.den.a v1.lo.den.n v1.lo.den.c) ∧ w'.cell? ⟨w.heap.size + 1, 4, none⟩ = some (.bool v1.hi.num.g) ∧ w'.cell? ⟨w.heap.size + 1, 5, none⟩ = some (.slice v1.hi.num.a v1.hi.num.n v1.hi.num.c) ∧ w'.cell? ⟨w.heap.size + 1, 6, none⟩ = some (.bool v1.hi.den.g) ∧ w'.cell? ⟨w.heap.size + 1, 7, none⟩ = some (.slice v1.hi.den.a v1.hi.den.n v1.hi.den.c)) (with_reducible (first | exact ⟨ka0, ka1, ka2, ka3, ka4, ka5, ka6, ka7, ka8, ka9, ka10, ka11, ka12, ka13, ka14, ka15⟩ | exact ⟨cd_other ka0, cd_other ka1, cd_other ka2, cd_other ka3, cd_other ka4, cd_other ka5, cd_other ka6, cd_other ka7, cd_other ka8, cd_other ka9, cd_other ka10, cd_other ka11, cd_other ka12, cd_other ka13, cd_other ka14, cd_other ka15⟩ | exact ⟨ca_other ka0, ca_other ka1, ca_other ka2, ca_other ka3, ca_other ka4, ca_other ka5, ca_other ka6, ca_other ka7, ca_other ka8, ca_other ka9, ca_other ka10, ca_other ka11, ca_other ka12, ca_other ka13, ca_other ka14, ca_other ka15⟩ | exact ⟨cd_other (ca_other ka0), cd_other (ca_other ka1), cd_other (ca_other ka2), cd_other (ca_other ka3), cd_other (ca_other ka4), cd_other (ca_other ka5), cd_other (ca_other ka6), cd_other (ca_other ka7), cd_other (ca_other ka8), cd_other (ca_other ka9), cd_other (ca_other ka10), cd_other (ca_other ka11), cd_other (ca_other ka12), cd_other (ca_other ka13), cd_other (ca_other ka14), cd_other (ca_other ka15)⟩ | exact ⟨cs_other (cs_other (cs_other (cs_other (cs_other (cs_other (cs_other (cs_other (ka0) (by omega)) (by omega)) (by omega)) (by omega)) (by omega)) (by omega)) (by omega)) (by omega), cs_other (cs_other (cs_other (cs_other (cs_other (cs_other (cs_other (cs_other (ka1) (by omega)) (by omega)) (by omega)) (by omega)) (by omega)) (by omega)) (by omega)) (by omega), cs_other (cs_other (cs_other (cs_other (cs_other (cs_other (cs_other (cs_other (ka2) (by omega)) (by omega)) (by omega)) (by omega)) (by omega)) (by omega)) (by omega)) (by omega), cs_other (cs_other (cs_other (cs_other (cs_other (cs_other (cs_other (cs_other (ka3) (by omega)) (by omega)) (by omega)) (by omega)) (by omega)) (by omega)) (by omega)) (by omega), cs_other (cs_other (cs_other (cs_other (cs_other (cs_other (cs_other (cs_other (ka4) (by omega)) (by omega)) (by omega)) (by omega)) (by omega)) (by omega)) (by omega)) (by omega), cs_other (cs_other (cs_other (cs_other (cs_other (cs_other (cs_other (cs_other (ka5) (by omega)) (by omega)) (by omega)) (by omega)) (by omega)) (by omega)) (by omega)) (by omega), cs_other (cs_other (cs_other (cs_other (cs_other (cs_other (cs_other (cs_other (ka6) (by omega)) (by omega)) (by omega)) (by omega)) (by omega)) (by omega)) (by omega)) (by omega), cs_other (cs_other (cs_other (cs_other (cs_other (cs_other (cs_other (cs_other (ka7) (by omega)) (by omega)) (by omega)) (by omega)) (by omega)) (by omega)) (by omega)) (by omega), cs_other (cs_other (cs_other (cs_other (cs_other (cs_other (cs_other (cs_other (ka8) (by omega)) (by omega)) (by omega)) (by omega)) (by omega)) (by omega)) (by omega)) (by omega), cs_other (cs_other (cs_other (cs_other (cs_other (cs_other (cs_other (cs_other (ka9) (by omega)) (by omega)) (by omega)) (by omega)) (by omega)) (by omega)) (by omega)) (by omega), cs_other (cs_other (cs_other (cs_other (cs_other (cs_other (cs_other (cs_other (ka10) (by omega)) (by omega)) (by omega)) (by omega)) (by omega)) (by omega)) (by omega)) (by omega), cs_other (cs_other (cs_other (cs_other (cs_other (cs_other (cs_other (cs_other (ka11) (by omega)) (by omega)) (by omega)) (by omega)) (by omega)) (by omega)) (by omega)) (by omega), cs_other (cs_other (cs_other (cs_other (cs_other (cs_other (cs_other (cs_other (ka12) (by omega)) (by omega)) (by omega)) (by omega)) (by omega)) (by omega)) (by omega)) (by omega), cs_other (cs_other (cs_other (cs_other (cs_other (cs_other (cs_other (cs_other (ka13) (by omega)) (by omega)) (by omega)) (by omega)) (by omega)) (by omega)) (by omega)) (by omega), cs_other (cs_other (cs_other (cs_other (cs_other (cs_other (cs_other (cs_other (ka14) (by omega)) (by omega)) (by omega)) (by omega)) (by omega)) (by omega)) (by omega)) (by omega), cs_other (cs_other (cs_other (cs_other (cs_other (cs_other (cs_other (cs_other (ka15) (by omega)) (by omega)) (by omega)) (by omega)) (by omega)) (by omega)) (by omega)) (by omega)⟩ | fail))
        (first
        | (go_at_call_of 62 (Value.agg #[Value.bool v0.lo.num.g, Value.slice v0.lo.num.a v0.lo.num.n v0.lo.num.c, Value.bool v0.lo.den.g, Value.slice v0.lo.den.a v0.lo.den.n v0.lo.den.c, Value.bool v0.hi.num.g, Value.slice v0.hi.num.a v0.hi.num.n v0.hi.num.c, Value.bool v0.hi.den.g, Value.slice v0.hi.den.a v0.hi.den.n v0.hi.den.c]); refine (toS_at v0 d0 _ ?_ l0 l1 l2 l3).mono ?_; (first | exact (unhide T).s0.later (Below.refl _ _).drew | exact (unhide T).s0.later ((Below.refl _ _).alloc (Nat.le_refl _) _).drew); rintro e wa0 ⟨qa0, rfl, hb, hna0, ow, ar⟩; have hbx : Below wk.heap.size wk wa0 := (by first | exact below_of_drew hb | exact bad hb); have sz0 := hbx.size; replace T := hide ((unhide T).later hbx); replace ka0 := (unhide T).x0_0; replace ka1 := (unhide T).x0_1; replace ka2 := (unhide T).x0_2; replace ka3 := (unhide T).x0_3; replace ka4 := (unhide T).x0_4; replace ka5 := (unhide T).x0_5; replace ka6 := (unhide T).x0_6; replace ka7 := (unhide T).x0_7; replace ka8 := (unhide T).x1_0; replace ka9 := (unhide T).x1_1; replace ka10 := (unhide T).x1_2; replace ka11 := (unhide T).x1_3; replace ka12 := (unhide T).x1_4; replace ka13 := (unhide T).x1_5; replace ka14 := (unhide T).x1_6; replace ka15 := (unhide T).x1_7; (try (replace gf := fun o => frozen_later hbx (World.block_lt_of_cell? _ _ g0) (gf o); replace g0 := cell_later hbx g0; replace g1 := cell_later hbx g1; replace g2 := cell_later hbx g2; replace g3 := cell_later hbx g3; replace g4 := cell_later hbx g4; replace g5 := cell_later hbx g5; replace g6 := cell_later hbx g6; replace g7 := cell_later hbx g7)); (try (refine cutP (p := wa0.cell? ⟨wk.heap.size, 0, none⟩ = some (.bool false) ∧ wa0.cell? ⟨wk.heap.size, 1, none⟩ = some (.slice none 0 0) ∧ wa0.cell? ⟨wk.heap.size, 2, none⟩ = some (.bool false) ∧ wa0.cell? ⟨wk.heap.size, 3, none⟩ = some (.slice none 0 0) ∧ wa0.cell? ⟨wk.heap.size, 4, none⟩ = some (.bool false) ∧ wa0.cell? ⟨wk.heap.size, 5, none⟩ = some (.slice none 0 0) ∧ wa0.cell? ⟨wk.heap.size, 6, none⟩ = some (.bool false) ∧ wa0.cell? ⟨wk.heap.size, 7, none⟩ = some (.slice none 0 0) ∧ ∀ o, wa0.frozen? ⟨wk.heap.size, o, none⟩ = false) ?_ (fun dd => ?_); (focus (refine ⟨cell_later hb ?_, cell_later hb ?_, cell_later hb ?_, cell_later hb ?_, cell_later hb ?_, cell_later hb ?_, cell_later hb ?_, cell_later hb ?_, fun o => frozen_later hb ?_ ?_⟩ <;> (simp [go_sem]; done))); obtain ⟨g0, g1, g2, g3, g4, g5, g6, g7, gf⟩ := dd)); have zz0 := hb.size; (try simp at zz0); have HBr := hide hbx; have A0 := hide ar; clear hb hbx ow ar hna0)
        | (go_at_call_of 62 (Value.agg #[Value.bool v1.lo.num.g, Value.slice v1.lo.num.a v1.lo.num.n v1.lo.num.c, Value.bool v1.lo.den.g, Value.slice v1.lo.den.a v1.lo.den.n v1.lo.den.c, Value.bool v1.hi.num.g, Value.slice v1.hi.num.a v1.hi.num.n v1.hi.num.c, Value.bool v1.hi.den.g, Value.slice v1.hi.den.a v1.hi.den.n v1.hi.den.c]); refine (toS_at v1 d1 _ ?_ l4 l5 l6 l7).mono ?_; (first | exact (unhide T).s1 | exact (unhide T).s1.later ((Below.refl _ _).alloc (Nat.le_refl _) _)); rintro e wa1 ⟨qa1, rfl, hb, hna1, ow, ar⟩; have hbx : Below wa0.heap.size wa0 wa1 := (by first | exact hb | exact ba hb); have sz1 := hbx.size; replace T := hide ((unhide T).later hbx); replace ka0 := (unhide T).x0_0; replace ka1 := (unhide T).x0_1; replace ka2 := (unhide T).x0_2; replace ka3 := (unhide T).x0_3; replace ka4 := (unhide T).x0_4; replace ka5 := (unhide T).x0_5; replace ka6 := (unhide T).x0_6; replace ka7 := (unhide T).x0_7; replace ka8 := (unhide T).x1_0; replace ka9 := (unhide T).x1_1; replace ka10 := (unhide T).x1_2; replace ka11 := (unhide T).x1_3; replace ka12 := (unhide T).x1_4; replace ka13 := (unhide T).x1_5; replace ka14 := (unhide T).x1_6; replace ka15 := (unhide T).x1_7; replace A0 := hide ((unhide A0).later hbx); (try (replace gf := fun o => frozen_later hbx (World.block_lt_of_cell? _ _ g0) (gf o); replace g0 := cell_later hbx g0; replace g1 := cell_later hbx g1; replace g2 := cell_later hbx g2; replace g3 := cell_later hbx g3; replace g4 := cell_later hbx g4; replace g5 := cell_later hbx g5; replace g6 := cell_later hbx g6; replace g7 := cell_later hbx g7)); (try (refine cutP (p := wa1.cell? ⟨wa0.heap.size, 0, none⟩ = some (.bool false) ∧ wa1.cell? ⟨wa0.heap.size, 1, none⟩ = some (.slice none 0 0) ∧ wa1.cell? ⟨wa0.heap.size, 2, none⟩ = some (.bool false) ∧ wa1.cell? ⟨wa0.heap.size, 3, none⟩ = some (.slice none 0 0) ∧ wa1.cell? ⟨wa0.heap.size, 4, none⟩ = some (.bool false) ∧ wa1.cell? ⟨wa0.heap.size, 5, none⟩ = some (.slice none 0 0) ∧ wa1.cell? ⟨wa0.heap.size, 6, none⟩ = some (.bool false) ∧ wa1.cell? ⟨wa0.heap.size, 7, none⟩ = some (.slice none 0 0) ∧ ∀ o, wa1.frozen? ⟨wa0.heap.size, o, none⟩ = false) ?_ (fun dd => ?_); (focus (refine ⟨cell_later hb ?_, cell_later hb ?_, cell_later hb ?_, cell_later hb ?_, cell_later hb ?_, cell_later hb ?_, cell_later hb ?_, cell_later hb ?_, fun o => frozen_later hb ?_ ?_⟩ <;> (simp [go_sem]; done))); obtain ⟨g0, g1, g2, g3, g4, g5, g6, g7, gf⟩ := dd)); have zz1 := hb.size; (try simp at zz1); have HBr := hide (below_on (unhide HBr) hbx); have A1 := hide ar; clear hb hbx ow ar hna1)
        | (go_at_call 76; refine (unhide CI _ _ _ ?_ ?_).mono ?_; (first | exact unhide A0 | exact (unhide A0).later ((Below.refl _ _).alloc (Nat.le_refl _) _)); (first | exact unhide A1 | exact (unhide A1).later ((Below.refl _ _).alloc (Nat.le_refl _) _)); rintro e w5 ⟨vr, dr, okr, rfl, hb, hown, hu⟩; have hbx : Below wa1.heap.size wa1 w5 := (by first | exact hb | exact ba hb); have sz2 := hbx.size; replace T := hide ((unhide T).later hbx); replace ka0 := (unhide T).x0_0; replace ka1 := (unhide T).x0_1; replace ka2 := (unhide T).x0_2; replace ka3 := (unhide T).x0_3; replace ka4 := (unhide T).x0_4; replace ka5 := (unhide T).x0_5; replace ka6 := (unhide T).x0_6; replace ka7 := (unhide T).x0_7; replace ka8 := (unhide T).x1_0; replace ka9 := (unhide T).x1_1; replace ka10 := (unhide T).x1_2; replace ka11 := (unhide T).x1_3; replace ka12 := (unhide T).x1_4; replace ka13 := (unhide T).x1_5; replace ka14 := (unhide T).x1_6; replace ka15 := (unhide T).x1_7; replace A0 := hide ((unhide A0).later hbx); replace A1 := hide ((unhide A1).later hbx); (try (replace gf := fun o => frozen_later hbx (World.block_lt_of_cell? _ _ g0) (gf o); replace g0 := cell_later hbx g0; replace g1 := cell_later hbx g1; replace g2 := cell_later hbx g2; replace g3 := cell_later hbx g3; replace g4 := cell_later hbx g4; replace g5 := cell_later hbx g5; replace g6 := cell_later hbx g6; replace g7 := cell_later hbx g7)); (try (refine cutP (p := w5.cell? ⟨wa1.heap.size, 0, none⟩ = some (.bool false) ∧ w5.cell? ⟨wa1.heap.size, 1, none⟩ = some (.slice none 0 0) ∧ w5.cell? ⟨wa1.heap.size, 2, none⟩ = some (.bool false) ∧ w5.cell? ⟨wa1.heap.size, 3, none⟩ = some (.slice none 0 0) ∧ w5.cell? ⟨wa1.heap.size, 4, none⟩ = some (.bool false) ∧ w5.cell? ⟨wa1.heap.size, 5, none⟩ = some (.slice none 0 0) ∧ w5.cell? ⟨wa1.heap.size, 6, none⟩ = some (.bool false) ∧ w5.cell? ⟨wa1.heap.size, 7, none⟩ = some (.slice none 0 0) ∧ ∀ o, w5.frozen? ⟨wa1.heap.size, o, none⟩ = false) ?_ (fun dd => ?_); (focus (refine ⟨cell_later hb ?_, cell_later hb ?_, cell_later hb ?_, cell_later hb ?_, cell_later hb ?_, cell_later hb ?_, cell_later hb ?_, cell_later hb ?_, fun o => frozen_later hb ?_ ?_⟩ <;> (simp [go_sem]; done))); obtain ⟨g0, g1, g2, g3, g4, g5, g6, g7, gf⟩ := dd)); have zz2 := hb.size; (try simp at zz2); have HBr := hide (below_on (unhide HBr) hbx); have O5 := hide hown; have U5 := hide hu; clear hb hbx hown hu))
      all_goals go_wp2_with fail
      all_goals go_meet
      all_goals first
        | (with_reducible refine ⟨_, vr, dr, okr, rfl, rfl, hide (metS_alloc 62 (unhide HBr) (unhide O5) ?_), U5, hide ((unhide T).later ((Below.refl _ _).alloc (Nat.le_refl _) _))⟩; omega)
        | (with_reducible refine ⟨_, vr, dr, okr, rfl, rfl, hide (metS_set (unhide HBr) (unhide O5) ?_ ?_ g0 g1 g2 g3 g4 g5 g6 g7), U5, hide ((unhide T).but metS_but ?_ (unhide HX0) (unhide HX1))⟩ <;> first | omega | (simp; done) | (simp; omega))
    case rest =>
      obtain ⟨GH, vh, dh, okh, rfl, rfl, HM, UH, T9⟩ := hcut
      obtain ⟨e1, e2⟩ := unhide US _ _ _ _ (unhide UR) (unhide UH)
      subst e1 e2
      have VH := hide (unhide HM).var
      replace V0 := hide ((unhide V0).later (unhide HM).bel)
      replace VG := hide ((unhide VG).later (unhide HM).bel)
      clear HM
      clear T
      have T := T9
      clear T9
      have hm0 : vh.lo.num.n ≤ maxLen := by rw [← ((unhide VH).own.own (vh.lo.num, dr.lo.num) (by simp)).len, ((unhide V0).own.own (vr.lo.num, dr.lo.num) (by simp)).len]; exact rm0
      have hm1 : vh.lo.den.n ≤ maxLen := by rw [← ((unhide VH).own.own (vh.lo.den, dr.lo.den) (by simp)).len, ((unhide V0).own.own (vr.lo.den, dr.lo.den) (by simp)).len]; exact rm1
      have hm2 : vh.hi.num.n ≤ maxLen := by rw [← ((unhide VH).own.own (vh.hi.num, dr.hi.num) (by simp)).len, ((unhide V0).own.own (vr.hi.num, dr.hi.num) (by simp)).len]; exact rm2
      have hm3 : vh.hi.den.n ≤ maxLen := by rw [← ((unhide VH).own.own (vh.hi.den, dr.hi.den) (by simp)).len, ((unhide V0).own.own (vr.hi.den, dr.hi.den) (by simp)).len]; exact rm3
      have p0 := (unhide VH).c0
      have pq0 := (unhide V0).c0
      have p1 := (unhide VH).c1
      have pq1 := (unhide V0).c1
      have p2 := (unhide VH).c2
      have pq2 := (unhide V0).c2
      have p3 := (unhide VH).c3
      have pq3 := (unhide V0).c3
      have p4 := (unhide VH).c4
      have pq4 := (unhide V0).c4
      have p5 := (unhide VH).c5
      have pq5 := (unhide V0).c5
      have p6 := (unhide VH).c6
      have pq6 := (unhide V0).c6
      have p7 := (unhide VH).c7
      have pq7 := (unhide V0).c7
      go_wp2_with fail
      refine (eqS_at vh vr dr _ (unhide VH).own.sl (unhide V0).own.sl hm0 hm1 hm2 hm3).mono ?_
      rintro e w30 ⟨rfl, hb⟩
      clear p0 pq0 p1 pq1 p2 pq2 p3 pq3 p4 pq4 p5 pq5 p6 pq6 p7 pq7
      replace T := hide ((unhide T).later hb)
      replace VG := hide ((unhide VG).later hb)
      clear hb VH V0
      have p0 := (unhide VG).c0
      have p1 := (unhide VG).c1
      have p2 := (unhide VG).c2
      have p3 := (unhide VG).c3
      have p4 := (unhide VG).c4
      have p5 := (unhide VG).c5
      have p6 := (unhide VG).c6
      have p7 := (unhide VG).c7
      go_wp2_with fail
      refine (heldS_at vg 1 _ ((unhide VG).own.sl (vg.lo.num, ⟨dr.lo.num.g, marks (1) vg.lo.num.n⟩) (by simp)).sl ((unhide VG).own.sl (vg.lo.den, ⟨dr.lo.den.g, marks (1 + (vg.lo.num.n : Int)) vg.lo.den.n⟩) (by simp)).sl ((unhide VG).own.sl (vg.hi.num, ⟨dr.hi.num.g, marks (1 + (vg.lo.num.n : Int) + (vg.lo.den.n : Int)) vg.hi.num.n⟩) (by simp)).sl ((unhide VG).own.sl (vg.hi.den, ⟨dr.hi.den.g, marks (1 + (vg.lo.num.n : Int) + (vg.lo.den.n : Int) + (vg.hi.num.n : Int)) vg.hi.den.n⟩) (by simp)).sl ql0 ql1 ql2 ql3 (by omega) (by omega)).mono ?_
      rintro e w31 ⟨rfl, hb⟩
      replace T := hide ((unhide T).later hb)
      clear p0 p1 p2 p3 p4 p5 p6 p7 hb
      go_wp2
      go_ret
      exact ⟨rfl, (unhide T).bel⟩

theorem lawMulS_walk (v0 : SV) (v1 : SV) (d0 : SD) (d1 : SD) (w : World) (hx0 : AllSl w [(v0.lo.num, d0.lo.num), (v0.lo.den, d0.lo.den), (v0.hi.num, d0.hi.num), (v0.hi.den, d0.hi.den)]) (hx1 : AllSl w [(v1.lo.num, d1.lo.num), (v1.lo.den, d1.lo.den), (v1.hi.num, d1.hi.num), (v1.hi.den, d1.hi.den)])  (m0 : v0.lo.num.n ≤ maxLen) (m1 : v0.lo.den.n ≤ maxLen) (m2 : v0.hi.num.n ≤ maxLen) (m3 : v0.hi.den.n ≤ maxLen) (m4 : v1.lo.num.n ≤ maxLen) (m5 : v1.lo.den.n ≤ maxLen) (m6 : v1.hi.num.n ≤ maxLen) (m7 : v1.hi.den.n ≤ maxLen) :
    Calls Try.prog 19 #[.agg #[.bool v0.lo.num.g, .slice v0.lo.num.a v0.lo.num.n v0.lo.num.c, .bool v0.lo.den.g, .slice v0.lo.den.a v0.lo.den.n v0.lo.den.c, .bool v0.hi.num.g, .slice v0.hi.num.a v0.hi.num.n v0.hi.num.c, .bool v0.hi.den.g, .slice v0.hi.den.a v0.hi.den.n v0.hi.den.c], .agg #[.bool v1.lo.num.g, .slice v1.lo.num.a v1.lo.num.n v1.lo.num.c, .bool v1.lo.den.g, .slice v1.lo.den.a v1.lo.den.n v1.lo.den.c, .bool v1.hi.num.g, .slice v1.hi.num.a v1.hi.num.n v1.hi.num.c, .bool v1.hi.den.g, .slice v1.hi.den.a v1.hi.den.n v1.hi.den.c]] w fun e w' => e = .returned (.bool true) ∧ Below w.heap.size w w' := by
  by_cases g0 : v0.lo.num.n + v0.lo.den.n + v0.hi.num.n + v0.hi.den.n ≤ 1048576
  · by_cases g1 : v0.lo.num.n + v0.lo.den.n + v0.hi.num.n + v0.hi.den.n + v1.lo.num.n + v1.lo.den.n + v1.hi.num.n + v1.hi.den.n ≤ 1048576
    · exact lawMulS_in v0 v1 d0 d1 w hx0 hx1  g1
    · exact lawMulS_out1 v0 v1 w m4 m5 m6 m7 g0 (by omega)
  · exact lawMulS_out0 v0 v1 w m0 m1 m2 m3 (by omega) (by omega)
end Go.Proofs.Ytgekkmibddfakaa
namespace Go.Proofs.Ytgekkmibddfakaa
open Go.ChangeShapes Go.WideShapes Go.ChangeAt Go.RowKit Go.Joins
set_option linter.unusedVariables false
set_option maxRecDepth 100000
set_option linter.unusedSimpArgs false

set_option maxRecDepth 100000 in
theorem mulS_holds_lifted (os : Os) (started : os.Started) (H : Type) (enc : TypeId × Value → H) :
    ReturnsInHanded {} Try.checked os 19 .any (Rows.fnExactMulSpanSpec.pre6 enc Try.prog Try.f19 Rows.fnExactMulSpanRow.domain false) (Rows.fnExactMulSpanSpec.post enc Try.prog Try.f19 false true false false) := by
  refine returnsInHanded_of_change (C := Try.checked) own started (by kernel_rfl) Try.func19
    (ChangeSpec.witness6 (enc := enc) (C := Try.checked) false ⟨#[], #[.agg #[.bool false, .slice none 0 0, .bool false, .slice none 0 0, .bool false, .slice none 0 0, .bool false, .slice none 0 0], .agg #[.bool false, .slice none 0 0, .bool false, .slice none 0 0, .bool false, .slice none 0 0, .bool false, .slice none 0 0]], []⟩ 8 (by kernel_rfl) (by kernel_rfl) (by kernel_rfl) (by kernel_rfl)) ?_
  intro W base args ds gs before hval0 hW hcnd _
  have hval : ∀ (j : Nat) t v, Try.f19.params[j]? = some t → args[j]? = some v → Value.okWide Try.prog W .any base t v := hval0
  have hW' := hW
  obtain ⟨p, q, hA0, hV, rfl, hfz, hnd⟩ := hW
  have hA : DataW.TrodAll enc Try.prog W 0 (fun _ => true) true Try.f19.params.toList args.toList ds p := hA0
  rw [Try.params19] at hA hval
  obtain ⟨v0, vs0, d0, ds0, p0, q0, hargs, rfl, rfl, h0, r0⟩ := trodAll_cons hA
  obtain ⟨v1, vs1, d1, ds1, p1, q1, rfl, rfl, rfl, h1, r1⟩ := trodAll_cons r0
  obtain ⟨rfl, rfl, rfl⟩ := trodAll_nil r1
  obtain rfl : args = #[v0, v1] := by cases args; simp_all
  obtain ⟨rfl, rfl⟩ := trodVars_none hV
  have lt0 : ∀ x ∈ p0, x.block < W.heap.size := by obtain ⟨m, hm⟩ := h0; exact DataW.trod_lt m _ _ _ hm
  obtain ⟨u0, e0, rfl, sl0, m0_0, m0_1, m0_2, m0_3⟩ := open_S (hval 0 58 v0 rfl rfl) h0
  have lt1 : ∀ x ∈ p1, x.block < W.heap.size := by obtain ⟨m, hm⟩ := h1; exact DataW.trod_lt m _ _ _ hm
  obtain ⟨u1, e1, rfl, sl1, m1_0, m1_1, m1_2, m1_3⟩ := open_S (hval 1 58 v1 rfl rfl) h1
  clear hA0 hval0
  refine (lawMulS_walk u0 u1 e0 e1 W sl0 sl1 m0_0 m0_1 m0_2 m0_3 m1_0 m1_1 m1_2 m1_3).mono fun e W' ⟨he, bel⟩ => ?_
  subst he
  exact ⟨_, rfl, _, _, _, [], _, [], hW', trodAll_mk1 (shut_bool Try.underlying4 _), (trodAll_cons_mk (Below.trod laidOut (by kernel_rfl) (of_decide_eq_true (by kernel_rfl)) h0 bel lt0) (trodAll_cons_mk (Below.trod laidOut (by kernel_rfl) (of_decide_eq_true (by kernel_rfl)) h1 bel lt1) trodAll_mk0)), rfl, bel.frame _, fun h => by cases h⟩

theorem mulS_holds_c0 : (Rows.fnExactMulSpanRow.wf (OpenSpec.ofChange Rows.fnExactMulSpanSpec)) = true := by kernel_rfl
theorem mulS_holds_c1 : (laidOutB Try.pinned.checked.prog) = true := by kernel_rfl
theorem mulS_holds_c2 : (mapsRowed Try.pinned.checked.prog) = true := by kernel_rfl
theorem mulS_holds_c3 : (Try.f19.params.all (Try.pinned.checked.prog.readableRec ·)) = true := by kernel_rfl
theorem mulS_holds_c4 : (namedTie Try.pinned.checked.prog Rows.fnExactMulSpanRow.named Rows.fnExactMulSpanSpec.vars) = true := by kernel_rfl
theorem mulS_holds_c5 : (Rows.fnExactMulSpanRow.stops == []) = true := by kernel_rfl
theorem mulS_holds_c6 : (Try.pinned.checked.prog.stops == []) = true := by kernel_rfl
theorem mulS_holds_c7 : (Rows.fnExactMulSpanRow.knobs == []) = true := by kernel_rfl
theorem mulS_holds_c8 : (Try.pinned.checked.prog.stopKnobs == []) = true := by kernel_rfl
theorem mulS_holds_c9 : (Rows.fnExactMulSpanRow.inPlace == Try.pinned.checked.prog.inPlace 19) = true := by kernel_rfl
theorem mulS_holds_c10 : (Rows.fnExactMulSpanRow.unfollowed == Try.pinned.checked.prog.unfollowed 19) = true := by kernel_rfl
theorem mulS_holds_c11 : (Rows.fnExactMulSpanRow.recurses == Try.pinned.checked.prog.recurses 19) = true := by kernel_rfl
theorem mulS_holds_c12 : (Rows.fnExactMulSpanRow.named == Try.pinned.checked.prog.varsNamed 19) = true := by kernel_rfl
theorem mulS_holds_c13 : (Rows.fnExactMulSpanRow.maps == (Try.f19.params.toList ++ Rows.fnExactMulSpanSpec.plain.varTypes Try.pinned.checked.prog).any (Try.pinned.checked.prog.mapsRec ·)) = true := by kernel_rfl
theorem mulS_holds_c14 : (Rows.fnExactMulSpanRow.ifaces == (Try.f19.params.toList ++ Rows.fnExactMulSpanSpec.plain.varTypes Try.pinned.checked.prog).any (Try.pinned.checked.prog.ifacesRec ·)) = true := by kernel_rfl
theorem mulS_holds_c15 : (Rows.fnExactMulSpanRow.mapsOut == Try.pinned.checked.prog.mapsAmong Try.f19.resultTypes.toList) = true := by kernel_rfl
theorem mulS_holds_c16 : (Rows.fnExactMulSpanRow.loops == (Try.f19.params.toList ++ Rows.fnExactMulSpanSpec.plain.varTypes Try.pinned.checked.prog).any (Try.pinned.checked.prog.loopsFrom ·)) = true := by kernel_rfl
theorem mulS_holds_c17 : (Rows.fnExactMulSpanRow.wideKeys == (Try.f19.params.toList ++ Rows.fnExactMulSpanSpec.plain.varTypes Try.pinned.checked.prog ++ Try.f19.resultTypes.toList).any (Try.pinned.checked.prog.wideKeysFrom ·)) = true := by kernel_rfl
theorem mulS_holds_c18 : (Rows.fnExactMulSpanSpec.vars.all (Try.pinned.checked.prog.varReadable ·)) = true := by kernel_rfl
theorem mulS_holds_c19 : (Try.f19.resultTypes.all (fun t => Try.pinned.checked.prog.readableRec t && decide (t < Try.pinned.checked.prog.types.size))) = true := by kernel_rfl
theorem mulS_holds_c20 : (Rows.fnExactMulSpanRow.ifacesOut == Try.f19.resultTypes.toList.any (Try.pinned.checked.prog.ifacesRec ·)) = true := by kernel_rfl
theorem mulS_holds_c21 : (Rows.fnExactMulSpanRow.loopsOut == Try.f19.resultTypes.toList.any (Try.pinned.checked.prog.loopsFrom ·)) = true := by kernel_rfl
theorem mulS_holds_c22 : (Rows.fnExactMulSpanRow.plainKeys == Try.pinned.checked.prog.plainKeys) = true := by kernel_rfl
theorem mulS_holds_c23 : (Rows.fnExactMulSpanRow.shortTexts.isNone) = true := by kernel_rfl
theorem mulS_holds_c24 : (Try.pinned.checked.prog.stopsHeard) = true := by kernel_rfl
theorem mulS_holds_c25 : (Try.pinned.checked.prog.mayEnter) = true := io_enter
theorem mulS_holds_c26 : (Rows.fnExactMulSpanRow.lifted == Try.pinned.checked.prog.liftsFinal) = true := by rw [io_lifts]; kernel_rfl
theorem mulS_holds_c27 : (Try.pinned.checked.prog.make == some Rows.fnExactMulSpanRow.make) = true := by rw [io_make]; kernel_rfl
theorem mulS_holds_c28 : (Rows.fnExactMulSpanRow.kinds == (if Rows.fnExactMulSpanRow.domain.isEmpty then [] else Try.f19.params.toList.map fun t => match Try.pinned.checked.prog.underlying t with | some (.int k) => some k | _ => none)) = true := by kernel_rfl
theorem mulS_holds_c29 : (Rows.fnExactMulSpanRow.pinned == Rows.fnExactMulSpanRow.pinnedBy) = true := by kernel_rfl
theorem mulS_holds_c30 : (Rows.fnExactMulSpanRow.veiled == (Try.f19.params.toList ++ Rows.fnExactMulSpanSpec.plain.varTypes Try.pinned.checked.prog ++ Try.f19.resultTypes.toList).any (Try.pinned.checked.prog.veiledRec ·)) = true := by kernel_rfl
theorem mulS_holds_c31 : (Rows.fnExactMulSpanRow.veiledFits Try.pinned.checked.prog Try.f19.params.toList (Try.f19.params.toList ++ Rows.fnExactMulSpanSpec.plain.varTypes Try.pinned.checked.prog ++ Try.f19.resultTypes.toList)) = true := by kernel_rfl
theorem mulS_holds_and {a b : Bool} (h : a = true) (k : b = true) : (a && b) = true := by rw [h, k]; rfl
theorem mulS_holds_closed : joinedFacts Try.pinned.checked.prog 19 Try.f19 Rows.fnExactMulSpanSpec Rows.fnExactMulSpanRow = true := (mulS_holds_and (mulS_holds_and (mulS_holds_and (mulS_holds_and (mulS_holds_and (mulS_holds_and (mulS_holds_and (mulS_holds_and (mulS_holds_and (mulS_holds_and (mulS_holds_and (mulS_holds_and (mulS_holds_and (mulS_holds_and (mulS_holds_and (mulS_holds_and (mulS_holds_and (mulS_holds_and (mulS_holds_and (mulS_holds_and (mulS_holds_and (mulS_holds_and (mulS_holds_and (mulS_holds_and (mulS_holds_and (mulS_holds_and (mulS_holds_and (mulS_holds_and (mulS_holds_and (mulS_holds_and (mulS_holds_and mulS_holds_c0 mulS_holds_c1) mulS_holds_c2) mulS_holds_c3) mulS_holds_c4) mulS_holds_c5) mulS_holds_c6) mulS_holds_c7) mulS_holds_c8) mulS_holds_c9) mulS_holds_c10) mulS_holds_c11) mulS_holds_c12) mulS_holds_c13) mulS_holds_c14) mulS_holds_c15) mulS_holds_c16) mulS_holds_c17) mulS_holds_c18) mulS_holds_c19) mulS_holds_c20) mulS_holds_c21) mulS_holds_c22) mulS_holds_c23) mulS_holds_c24) mulS_holds_c25) mulS_holds_c26) mulS_holds_c27) mulS_holds_c28) mulS_holds_c29) mulS_holds_c30) mulS_holds_c31)
theorem mulS_holds_named : Try.pinned.checked.prog.funcNamed Rows.fnExactMulSpanRow.func = some 19 := by kernel_rfl
theorem mulS_holds_inst : Try.f19.isInstance Try.pinned.checked.prog Rows.fnExactMulSpanRow.origin Rows.fnExactMulSpanRow.targs := of_decide_eq_true (by kernel_rfl)
theorem mulS_holds_wrap : Try.f19.isWrapper Try.pinned.checked.prog Rows.fnExactMulSpanRow.wrapper Rows.fnExactMulSpanRow.mainSum := by unfold Func.isWrapper; first | (rw [if_pos (by decide +kernel)]; kernel_rfl) | (rw [if_neg (by decide +kernel)]; exact ⟨rfl, rfl⟩)
theorem mulS_holds : Rows.FnExactMulSpanSaid :=
  OpenClaim.holds_of_wide 19 Try.f19 rfl rfl rfl rfl rfl rfl rfl ⟨rfl, rfl, rfl, rfl, rfl⟩ rfl rfl rfl rfl rfl mulS_holds_named Try.func19 mulS_holds_closed mulS_holds_inst mulS_holds_wrap
    (fun os started H enc _ => mulS_holds_lifted os started H enc)
#print axioms mulS_holds
end Go.Proofs.Ytgekkmibddfakaa
