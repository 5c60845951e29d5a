/- The law FnExactFromTerms returns true for every argument and leaves it as it was: the given statement FnExactFromTermsSaid. No condition. -/
import Derived.Test.YtliaddmkomcmnaaOpenQ
import Derived.Test.YtliaddmkomcmnaaPackSW
import Derived.Deep.Slices
import Derived.Test.YtliaddmkomcmnaaFlat
import Derived.Test.YtliaddmkomcmnaaLow
import Derived.RangeFuncNested
import Derived.RangeFuncBound
import Derived.RangeFuncCalls
import Derived.RangeFuncLeaves
import Derived.Shelf.Abstract
import Derived.Shelf.RegionOpen
import Derived.WalkKit
import Derived.OwnWalkIn
import Derived.TacticsInMore
import Derived.LoopNIn
import Derived.LoopIn
import Derived.Test.YtliaddmkomcmnaaPackE
import Derived.Test.YtliaddmkomcmnaaRatG
import Derived.OrdersIn
import Derived.TacticsIn
import Derived.Test.YtliaddmkomcmnaaAid
import Derived.Test.YtliaddmkomcmnaaIo
namespace Go.Proofs.Ytliaddmkomcmnaa
open Go.ChangeShapes Go.WideShapes Go.ChangeAt Go.RowKit Go.Joins
set_option linter.unusedVariables false
set_option maxRecDepth 100000
set_option linter.unusedSimpArgs false

theorem open_ratc {H : Type} {enc : TypeId × Value → H} {W : World} {m : Nat} {c0 c1 c2 c3 : Value} {x : DataW H × List MemPlace}
    (hf : DataW.trod enc Try.prog W 0 (fun _ => true) true m 26 [c0, c1, c2, c3] = some x) :
    ∃ p : QV × QD, (c0 = .bool p.1.num.g ∧ c1 = .slice p.1.num.a p.1.num.n p.1.num.c ∧ c2 = .bool p.1.den.g ∧ c3 = .slice p.1.den.a p.1.den.n p.1.den.c) ∧ AllSl W [(p.1.num, p.2.num), (p.1.den, p.2.den)] ∧ p.1.num.n ≤ maxLen ∧ p.1.den.n ≤ maxLen := by
  obtain ⟨y0, y1, n, hx, _, h0, h1⟩ := trod_struct2 Try.underlying26 hf
  have k0 : DataW.trod enc Try.prog W 0 (fun _ => true) true n 24 [c0, c1] = some y0 := by simpa [Value.cells, Try.cells24] using h0
  have k1 : DataW.trod enc Try.prog W 0 (fun _ => true) true n 24 [c2, c3] = some y1 := by simpa [Value.cells, Try.cells24] using h1
  obtain ⟨z0, z1, n1, _, _, p0, p1⟩ := trod_struct2 Try.underlying24 k0
  obtain ⟨z2, z3, n2, _, _, p2, p3⟩ := trod_struct2 Try.underlying24 k1
  have c_b : Try.prog.cellsOf 4 = 1 := by kernel_rfl
  have c_s : Try.prog.cellsOf 22 = 1 := by kernel_rfl
  obtain ⟨g, a, n', c, xs, rfl, rfl, s1, s2, s3, _⟩ := open_two (c0 := c0) (c1 := c1) (by simpa [c_b] using p0) (by simpa [c_s] using p1)
  obtain ⟨h, b, q, e, us, rfl, rfl, t1, t2, t3, _⟩ := open_two (c0 := c2) (c1 := c3) (by simpa [c_b] using p2) (by simpa [c_s] using p3)
  exact ⟨(⟨⟨g, a, n', c⟩, ⟨h, b, q, e⟩⟩, ⟨⟨g, xs⟩, ⟨h, us⟩⟩), ⟨rfl, rfl, rfl, rfl⟩, AllSl.cons ⟨rfl, s1, s2⟩ (AllSl.cons ⟨rfl, t1, t2⟩ (AllSl.nil _)), s3, t3⟩
theorem addr_add (b off k : Nat) : (⟨b, off, none⟩ : Addr).add k = ⟨b, off + k, none⟩ := by
  unfold Addr.add
  split
  · rename_i h; subst h; rfl
  · rfl
theorem addr_add_block (a : Addr) (k : Nat) : (a.add k).block = a.block := by unfold Addr.add; split <;> rfl
theorem open_PQ {H : Type} {enc : TypeId × Value → H} {W : World} {r : Reach} {b0 : Nat} {v : Value} {d : DataW H} {p : List MemPlace}
    (hv : Value.okWide Try.prog W r b0 57 v) (h : DataW.Trod enc Try.prog W 0 (fun _ => true) true 57 v d p) :
    ∃ (a : Option Addr) (n c : Nat) (l : List (QV × QD)), v = .slice a n c ∧ PSlQ W a l ∧ l.length = n ∧ n ≤ maxLen ∧ ∀ p ∈ l, p.1.num.n ≤ maxLen ∧ p.1.den.n ≤ maxLen := by
  obtain ⟨a, n, c, rfl⟩ := okWide_slice Try.underlying57 hv
  obtain ⟨fuel, hf⟩ := h
  rcases Go.Deep.open_slice Try.underlying57 hf with ⟨hcs, _⟩ | ⟨a', len, cap, m, n', D, Pl, hcs, _, hl, hm, hmm, _, hx⟩
  · simp only [Value.cells, List.cons.injEq, Value.slice.injEq, and_true] at hcs
    obtain ⟨rfl, rfl, rfl⟩ := hcs
    exact ⟨none, 0, 0, [], rfl, ⟨.inl rfl, fun p hp => by cases hp⟩, rfl, Nat.zero_le _, fun p hp => by cases hp⟩
  · simp only [Value.cells, List.cons.injEq, Value.slice.injEq, and_true] at hcs
    obtain ⟨rfl, rfl, rfl⟩ := hcs
    simp only [if_true] at hmm
    subst hmm
    have each : ∀ i, i < n → ∃ p : QV × QD, (W.cell? ((a'.add (i * 4)).add 0) = some (.bool p.1.num.g) ∧ W.cell? ((a'.add (i * 4)).add 1) = some (.slice p.1.num.a p.1.num.n p.1.num.c) ∧ W.cell? ((a'.add (i * 4)).add 2) = some (.bool p.1.den.g) ∧ W.cell? ((a'.add (i * 4)).add 3) = some (.slice p.1.den.a p.1.den.n p.1.den.c)) ∧ AllSl W [(p.1.num, p.2.num), (p.1.den, p.2.den)] ∧ p.1.num.n ≤ maxLen ∧ p.1.den.n ≤ maxLen := by
      intro i hi
      obtain ⟨cs, h1, h2⟩ := hx i (by omega)
      rw [Try.cells26] at h1
      obtain ⟨_, h3, h4⟩ := World.cells?_some h1
      match cs, h3 with
      | [c0, c1, c2, c3], _ =>
        obtain ⟨p, ⟨rfl, rfl, rfl, rfl⟩, hp⟩ := open_ratc h2
        exact ⟨p, ⟨h4 0 (by omega), h4 1 (by omega), h4 2 (by omega), h4 3 (by omega)⟩, hp⟩
    have inh : Inhabited (QV × QD) := ⟨(⟨⟨false, none, 0, 0⟩, ⟨false, none, 0, 0⟩⟩, ⟨⟨false, []⟩, ⟨false, []⟩⟩)⟩
    obtain ⟨f, hf⟩ := Go.Deep.choose_lt each
    refine ⟨some a', n, m, (List.range n).map f, rfl, ⟨?_, ?_⟩, by simp, Nat.le_trans hl hm, ?_⟩
    · by_cases h0 : n = 0
      · subst h0; exact .inl rfl
      · obtain ⟨b, off, spot⟩ := a'
        have hc := (hf 0 (by omega)).1.1
        have hspot : spot = none := by simpa [Addr.add] using World.cell?_spot hc
        subst hspot
        refine .inr ⟨b, off, rfl, ?_, fun i hi => ?_⟩
        · have := World.block_lt_of_cell? _ _ hc
          rw [addr_add, addr_add] at this
          exact this
        · have hi' : i < n := by simpa using hi
          have h1 := (hf i hi').1
          rw [addr_add, addr_add, addr_add, addr_add, addr_add] at h1
          simpa using h1
    · intro p hp
      obtain ⟨i, hi, rfl⟩ := List.mem_map.1 hp
      exact (hf i (List.mem_range.1 hi)).2.1
    · intro p hp
      obtain ⟨i, hi, rfl⟩ := List.mem_map.1 hp
      exact (hf i (List.mem_range.1 hi)).2.2
end Go.Proofs.Ytliaddmkomcmnaa
namespace Go.Proofs.Ytliaddmkomcmnaa
open Go.RowKit
set_option linter.unusedVariables false
set_option maxRecDepth 100000
set_option linter.unusedSimpArgs false

/-- The mark that stands for a sign. -/
def sg (k : Int) : Bool := (k % 3 == 0)
/-- The cells of some fractions from block G's start on. -/
def RowQ (w : World) (G : Nat) (l : List (QV × QD)) : Prop := ∃ cur, w.heap[G]? = some (.cells cur 33 (0, 0)) ∧ ∀ j p, l[j]? = some p → cur[j * 4]? = some (.bool p.1.num.g) ∧ cur[j * 4 + 1]? = some (.slice p.1.num.a p.1.num.n p.1.num.c) ∧ cur[j * 4 + 2]? = some (.bool p.1.den.g) ∧ cur[j * 4 + 3]? = some (.slice p.1.den.a p.1.den.n p.1.den.c)
theorem mid_ne {α : Type} {pre post : List α} {y y' : α} {j : Nat} (h : j ≠ pre.length) : (pre ++ y :: post)[j]? = (pre ++ y' :: post)[j]? := by
  by_cases c : j < pre.length
  · rw [List.getElem?_append_left c, List.getElem?_append_left c]
  · rw [List.getElem?_append_right (by omega), List.getElem?_append_right (by omega)]
    obtain ⟨m, hm⟩ : ∃ m, j - pre.length = m + 1 := ⟨j - pre.length - 1, by omega⟩
    rw [hm, List.getElem?_cons_succ, List.getElem?_cons_succ]
theorem mid_eq {α : Type} {pre post : List α} {y : α} : (pre ++ y :: post)[pre.length]? = some y := by
  rw [List.getElem?_append_right (Nat.le_refl _), Nat.sub_self]; rfl
theorem RowQ.lt {w : World} {G : Nat} {l : List (QV × QD)} (h : RowQ w G l) : G < w.heap.size := by
  obtain ⟨cur, hg, _⟩ := h
  exact (Array.getElem?_eq_some_iff.1 hg).1
theorem RowQ.cellsAt {w : World} {G : Nat} {l : List (QV × QD)} (h : RowQ w G l) {i : Nat} {y : QV × QD} (hy : l[i]? = some y) : w.cell? ⟨G, i * 4, none⟩ = some (.bool y.1.num.g) ∧ w.cell? ⟨G, i * 4 + 1, none⟩ = some (.slice y.1.num.a y.1.num.n y.1.num.c) ∧ w.cell? ⟨G, i * 4 + 2, none⟩ = some (.bool y.1.den.g) ∧ w.cell? ⟨G, i * 4 + 3, none⟩ = some (.slice y.1.den.a y.1.den.n y.1.den.c) := by
  obtain ⟨cur, hg, hc⟩ := h
  have h1 := hc i y hy
  refine ⟨?_, ?_, ?_, ?_⟩ <;> rw [cell_of_row w G _ cur 33 (0, 0) hg]
  · exact h1.1
  · exact h1.2.1
  · exact h1.2.2.1
  · exact h1.2.2.2
theorem RowQ.frozen {w : World} {G : Nat} {l : List (QV × QD)} (h : RowQ w G l) (o : Nat) : w.frozen? ⟨G, o, none⟩ = false := by
  obtain ⟨cur, hg, hc⟩ := h
  exact frozen_of_row w G o cur 33 hg
theorem RowQ.but {w w' : World} {G lo hi : Nat} {l : List (QV × QD)} (h : RowQ w G l) (hb : But lo hi w w') (hG : G < lo ∨ hi ≤ G) : RowQ w' G l := by
  obtain ⟨cur, hg, hc⟩ := h
  exact ⟨cur, by rw [hb.block G (Array.getElem?_eq_some_iff.1 hg).1 hG]; exact hg, hc⟩
theorem RowQ.later {w w' : World} {G : Nat} {l : List (QV × QD)} (h : RowQ w G l) (hb : Below w.heap.size w w') : RowQ w' G l := by
  obtain ⟨cur, hg, hc⟩ := h
  exact ⟨cur, by rw [hb.block G (Array.getElem?_eq_some_iff.1 hg).1]; exact hg, hc⟩
theorem RowQ.g0 {w : World} {G i : Nat} {pre post : List (QV × QD)} {y : QV × QD} (g : Bool) (h : RowQ w G (pre ++ y :: post)) (hi : pre.length = i) : RowQ (w.setCell ⟨G, i * 4, none⟩ (.bool g)) G (pre ++ ((⟨⟨g, y.1.num.a, y.1.num.n, y.1.num.c⟩, y.1.den⟩ : QV), (⟨⟨g, y.2.num.xs⟩, y.2.den⟩ : QD)) :: post) := by
  obtain ⟨cur, hg, hc⟩ := h
  subst hi
  refine ⟨cur.setIfInBounds (pre.length * 4) (.bool g), heap_setCell_same w G (pre.length * 4) cur 33 (.bool g) hg, fun j p hp => ?_⟩
  by_cases e : j = pre.length
  · subst e
    rw [mid_eq] at hp
    obtain rfl := Option.some.inj hp
    have h1 := hc pre.length y mid_eq
    have hs : pre.length * 4 < cur.size := (Array.getElem?_eq_some_iff.1 (h1.1)).1
    refine ⟨?_, ?_, ?_, ?_⟩
    · simp [hs]
    · rw [Array.getElem?_setIfInBounds_ne (by omega)]; exact h1.2.1
    · rw [Array.getElem?_setIfInBounds_ne (by omega)]; exact h1.2.2.1
    · rw [Array.getElem?_setIfInBounds_ne (by omega)]; exact h1.2.2.2
  · rw [mid_ne e (y' := y)] at hp
    have h1 := hc j p hp
    refine ⟨?_, ?_, ?_, ?_⟩
    · rw [Array.getElem?_setIfInBounds_ne (by omega)]; exact h1.1
    · rw [Array.getElem?_setIfInBounds_ne (by omega)]; exact h1.2.1
    · rw [Array.getElem?_setIfInBounds_ne (by omega)]; exact h1.2.2.1
    · rw [Array.getElem?_setIfInBounds_ne (by omega)]; exact h1.2.2.2
theorem RowQ.g2 {w : World} {G i : Nat} {pre post : List (QV × QD)} {y : QV × QD} (g : Bool) (h : RowQ w G (pre ++ y :: post)) (hi : pre.length = i) : RowQ (w.setCell ⟨G, i * 4 + 2, none⟩ (.bool g)) G (pre ++ ((⟨y.1.num, ⟨g, y.1.den.a, y.1.den.n, y.1.den.c⟩⟩ : QV), (⟨y.2.num, ⟨g, y.2.den.xs⟩⟩ : QD)) :: post) := by
  obtain ⟨cur, hg, hc⟩ := h
  subst hi
  refine ⟨cur.setIfInBounds (pre.length * 4 + 2) (.bool g), heap_setCell_same w G (pre.length * 4 + 2) cur 33 (.bool g) hg, fun j p hp => ?_⟩
  by_cases e : j = pre.length
  · subst e
    rw [mid_eq] at hp
    obtain rfl := Option.some.inj hp
    have h1 := hc pre.length y mid_eq
    have hs : pre.length * 4 + 2 < cur.size := (Array.getElem?_eq_some_iff.1 (h1.2.2.1)).1
    refine ⟨?_, ?_, ?_, ?_⟩
    · rw [Array.getElem?_setIfInBounds_ne (by omega)]; exact h1.1
    · rw [Array.getElem?_setIfInBounds_ne (by omega)]; exact h1.2.1
    · simp [hs]
    · rw [Array.getElem?_setIfInBounds_ne (by omega)]; exact h1.2.2.2
  · rw [mid_ne e (y' := y)] at hp
    have h1 := hc j p hp
    refine ⟨?_, ?_, ?_, ?_⟩
    · rw [Array.getElem?_setIfInBounds_ne (by omega)]; exact h1.1
    · rw [Array.getElem?_setIfInBounds_ne (by omega)]; exact h1.2.1
    · rw [Array.getElem?_setIfInBounds_ne (by omega)]; exact h1.2.2.1
    · rw [Array.getElem?_setIfInBounds_ne (by omega)]; exact h1.2.2.2
theorem AllOwn.resign {lo hi : Nat} {w w' : World} {pre post : List (BV × BD)} {b : BV} {d : BD} (g : Bool) (h : AllOwn lo hi w (pre ++ (b, d) :: post)) (hb : ∀ k, lo ≤ k → k < w.heap.size → w'.heap[k]? = w.heap[k]?) : AllOwn lo hi w' (pre ++ (⟨g, b.a, b.n, b.c⟩, ⟨g, d.xs⟩) :: post) := by
  have mv : ∀ (a : Option Addr) (zs : List Int), Own2 lo hi w a zs → Own2 lo hi w' a zs := fun a zs ho => by
    rcases ho with e | ⟨b', cur, e, h1, h2, hg, hc⟩
    · exact .inl e
    · exact .inr ⟨b', cur, e, h1, h2, by rw [hb b' h1 (Array.getElem?_eq_some_iff.1 hg).1]; exact hg, hc⟩
  refine ⟨fun p hp => ?_, ?_⟩
  · rcases List.mem_append.1 hp with hp | hp
    · have ho := h.own p (List.mem_append_left _ hp)
      exact ⟨ho.sg, mv _ _ ho.own, ho.len⟩
    · rcases List.mem_cons.1 hp with rfl | hp
      · have ho := h.own (b, d) (List.mem_append_right _ List.mem_cons_self)
        exact ⟨rfl, mv _ _ ho.own, ho.len⟩
      · have ho := h.own p (List.mem_append_right _ (List.mem_cons_of_mem _ hp))
        exact ⟨ho.sg, mv _ _ ho.own, ho.len⟩
  · obtain ⟨p1, p2, p3⟩ := List.pairwise_append.1 h.ap
    obtain ⟨p4, p5⟩ := List.pairwise_cons.1 p2
    refine List.pairwise_append.2 ⟨p1, List.pairwise_cons.2 ⟨fun q hq => p4 q hq, p5⟩, fun p hp q hq => ?_⟩
    rcases List.mem_cons.1 hq with rfl | hq
    · exact p3 p hp (b, d) List.mem_cons_self
    · exact p3 p hp q (List.mem_cons_of_mem _ hq)
theorem RowQ.data {w : World} {G : Nat} {pre post : List (QV × QD)} {v : QV} {d d' : QD} (h : RowQ w G (pre ++ (v, d) :: post)) : RowQ w G (pre ++ (v, d') :: post) := by
  obtain ⟨cur, hg, hc⟩ := h
  refine ⟨cur, hg, fun j p hp => ?_⟩
  by_cases e : j = pre.length
  · subst e
    rw [mid_eq] at hp
    obtain rfl := Option.some.inj hp
    exact hc pre.length (v, d) mid_eq
  · rw [mid_ne e (y' := (v, d))] at hp
    exact hc j p hp
theorem But.wide {lo hi lo' hi' : Nat} {w w' : World} (h : But lo hi w w') (h1 : lo' ≤ lo) (h2 : hi ≤ hi') : But lo' hi' w w' := ⟨h.os, h.tape, h.output, h.size, fun k hk hd => h.block k hk (by omega)⟩
theorem setCell_other {w : World} {G o k : Nat} {v : Value} (h : k ≠ G) : (w.setCell ⟨G, o, none⟩ v).heap[k]? = w.heap[k]? := heap_setCell_other w ⟨G, o, none⟩ k v h
theorem zip_mid (pre post : List (QV × QD)) (y : QV × QD) : zipPQ (pre ++ y :: post) = zipPQ pre ++ (y.1.num, y.2.num) :: ((y.1.den, y.2.den) :: zipPQ post) := by simp [zipPQ]
theorem zip_mid2 (pre post : List (QV × QD)) (y : QV × QD) : zipPQ (pre ++ y :: post) = (zipPQ pre ++ [(y.1.num, y.2.num)]) ++ (y.1.den, y.2.den) :: zipPQ post := by simp [zipPQ]
/-- A marked fraction, from k on. -/
def mkQ (k : Int) (y : QV × QD) : QV × QD := (⟨⟨sg k, y.1.num.a, y.1.num.n, y.1.num.c⟩, ⟨sg (k + 1 + (y.1.num.n : Int)), y.1.den.a, y.1.den.n, y.1.den.c⟩⟩, ⟨⟨sg k, marks (k + 1) y.1.num.n⟩, ⟨sg (k + 1 + (y.1.num.n : Int)), marks (k + 1 + (y.1.num.n : Int) + 1) y.1.den.n⟩⟩)
def nxK (k : Int) (y : QV × QD) : Int := k + 1 + (y.1.num.n : Int) + 1 + (y.1.den.n : Int)
def mkP : Int → List (QV × QD) → List (QV × QD)
  | _, [] => []
  | k, y :: l => mkQ k y :: mkP (nxK k y) l
def enK : Int → List (QV × QD) → Int
  | k, [] => k
  | k, y :: l => enK (nxK k y) l
theorem mkP_snoc (l : List (QV × QD)) (y : QV × QD) : ∀ k, mkP k (l ++ [y]) = mkP k l ++ [mkQ (enK k l) y] := by
  induction l with
  | nil => intro k; rfl
  | cons z l ih => intro k; show mkQ k z :: mkP (nxK k z) (l ++ [y]) = _; rw [ih]; rfl
theorem enK_snoc (l : List (QV × QD)) (y : QV × QD) : ∀ k, enK k (l ++ [y]) = nxK (enK k l) y := by
  induction l with
  | nil => intro k; rfl
  | cons z l ih => intro k; show enK (nxK k z) (l ++ [y]) = _; rw [ih]; rfl
theorem mkP_len (l : List (QV × QD)) : ∀ k, (mkP k l).length = l.length := by
  induction l with
  | nil => intro k; rfl
  | cons z l ih => intro k; show (mkP (nxK k z) l).length + 1 = _; rw [ih]; rfl
theorem enK_eq (l : List (QV × QD)) : ∀ k, enK k l = k + 2 * (l.length : Int) + (lenPQ l : Int) := by
  induction l with
  | nil => intro k; simp [enK, lenPQ]
  | cons z l ih =>
    intro k
    show enK (nxK k z) l = _
    rw [ih]
    have h2 : lenPQ (z :: l) = lenQ z + lenPQ l := rfl
    have h3 : lenQ z = z.1.num.n + z.1.den.n := rfl
    rw [h2, h3]
    unfold nxK
    simp only [List.length_cons]
    omega
theorem mkP_get (l : List (QV × QD)) : ∀ (k : Int) (i : Nat) (h : i < l.length), (mkP k l)[i]? = some (mkQ (enK k (l.take i)) l[i]) := by
  induction l with
  | nil => intro k i h; simp at h
  | cons z l ih =>
    intro k i h
    match i with
    | 0 => rfl
    | i + 1 => exact ih (nxK k z) i (by simpa using h)

set_option maxHeartbeats 4000000 in
theorem markP (G n c : Nat) (l : List (QV × QD)) (k : Int) (lo hi : Nat) (w : World) (hr : RowQ w G l) (ho : AllOwn lo hi w (zipPQ l)) (hn : l.length = n) (ml : ∀ p ∈ l, p.1.num.n ≤ 1048576 ∧ p.1.den.n ≤ 1048576) (hG : G < lo) (hH : lo ≤ hi) (k0 : 0 ≤ k) (k1 : k + 2 * (n : Int) + (lenPQ l : Int) ≤ 3900000) :
    Calls Try.prog 37 #[.slice (some ⟨G, 0, none⟩) n c, .int .i64 k] w fun e w' => e = .returned (.int .i64 (enK k l)) ∧ But G hi w w' ∧ RowQ w' G (mkP k l) ∧ AllOwn lo hi w' (zipPQ (mkP k l)) := by
  have HR := hide hr
  have HO := hide ho
  have HN := hide hn
  have ML := hide ml
  clear hr ho hn ml
  have hn1 : n ≤ 3900000 := by omega
  go_enter Try.func37, Try.ntmps37
  go_wp2
  go_loopw [1, 5] (fun kv iv wr => ∃ (i : Nat) (a b : List (QV × QD)) (q : Int), i ≤ n ∧ iv = .int .i64 i ∧ kv = .int .i64 q ∧ 0 ≤ q ∧ a.length = i ∧ Hid (l = a ++ b) ∧ Hid (q = enK k a) ∧ Hid (RowQ wr G (mkP k a ++ b)) ∧ Hid (AllOwn lo hi wr (zipPQ (mkP k a ++ b))) ∧ Hid (But G hi w wr)) (fun _ iv _ => n - (intOf iv).toNat)
  case atStart => exact ⟨0, [], l, k, Nat.zero_le _, rfl, rfl, k0, rfl, hide rfl, hide rfl, HR, HO, hide (But.refl _ _ _)⟩
  case round =>
    clear HR HO
    obtain ⟨i, a, b, q, hi', rfl, rfl, q0, ha, EL, EQ, HR, HO, HB⟩ := hrel
    by_cases hlt : i < n
    · have hlt' : (i : Int) < (n : Int) := by omega
      obtain ⟨y, b', rfl⟩ : ∃ y b', b = y :: b' := by
        cases b with
        | nil => have h1 := unhide HN; rw [unhide EL, List.append_nil] at h1; omega
        | cons y b' => exact ⟨y, b', rfl⟩
      have LB : Hid ((y.1.num.n : Int) + (y.1.den.n : Int) + (q + 2) ≤ 3900000) := hide (by
        have h1 := unhide EQ
        rw [enK_eq, ha] at h1
        have h2 : lenPQ l = lenPQ a + (lenQ y + lenPQ b') := by rw [unhide EL, lenPQ_append]; rfl
        have h3 : lenQ y = y.1.num.n + y.1.den.n := rfl
        have h4 := unhide HN
        rw [unhide EL] at h4
        simp at h4
        omega)
      have l1 : (y.1.num.n : Int) + (y.1.den.n : Int) + (q + 2) ≤ 3900000 := unhide LB
      have m1 : y.1.num.n ≤ 1048576 := ((unhide ML) y (by rw [unhide EL]; simp)).1
      have m2 : y.1.den.n ≤ 1048576 := ((unhide ML) y (by rw [unhide EL]; simp)).2
      have pl : (mkP k a).length = i := by rw [mkP_len]; exact ha
      obtain ⟨c0, c1, c2, c3⟩ := (unhide HR).cellsAt (i := i) (y := y) (by rw [← pl]; exact mid_eq)
      have fz := (unhide HR).frozen
      have gG : G < wr.heap.size := (unhide HR).lt
      -- the first sign
      have HR1 := hide ((unhide HR).g0 (sg q) pl)
      have HO1 := hide (AllOwn.resign (sg q) (by have h := unhide HO; rw [zip_mid] at h; exact h) (w' := wr.setCell ⟨G, i * 4, none⟩ (.bool (sg q))) (fun k h1 _ => setCell_other (by omega)))
      have HB1 := hide ((unhide HB).set (p := ⟨G, i * 4, none⟩) (Nat.le_refl _) (by show G < hi; omega) (.bool (sg q)))
      go_wp2_with fail
      refine (mark_at ⟨sg q, y.1.num.a, y.1.num.n, y.1.num.c⟩ ⟨sg q, y.2.num.xs⟩ (zipPQ (mkP k a)) ((y.1.den, y.2.den) :: zipPQ b') (q + 1) lo hi _ (unhide HO1) m1 (by omega) (by omega)).mono ?_
      rintro e w2 ⟨rfl, hbt, ho2⟩
      have HR2 : Hid (RowQ w2 G (mkP k a ++ ((⟨⟨sg q, y.1.num.a, y.1.num.n, y.1.num.c⟩, y.1.den⟩ : QV), (⟨⟨sg q, marks (q + 1) y.1.num.n⟩, y.2.den⟩ : QD)) :: b')) := hide ((unhide HR1).but hbt (.inl hG)).data
      have HO2 : Hid (AllOwn lo hi w2 (zipPQ (mkP k a ++ ((⟨⟨sg q, y.1.num.a, y.1.num.n, y.1.num.c⟩, y.1.den⟩ : QV), (⟨⟨sg q, marks (q + 1) y.1.num.n⟩, y.2.den⟩ : QD)) :: b'))) := hide (by rw [zip_mid]; exact ho2)
      have HB2 := hide ((unhide HB1).trans (hbt.wide (by omega) (Nat.le_refl _)))
      clear hbt ho2 c0 c1 c2 c3 fz HR HO HB HR1 HO1 HB1
      obtain ⟨c0, c1, c2, c3⟩ := (unhide HR2).cellsAt (i := i) (by rw [← pl]; exact mid_eq)
      simp only at c0 c1 c2 c3
      have fz := (unhide HR2).frozen
      have HR3 := hide ((unhide HR2).g2 (sg (q + 1 + (y.1.num.n : Int))) pl)
      have HO3 := hide (AllOwn.resign (sg (q + 1 + (y.1.num.n : Int))) (by have h := unhide HO2; rw [zip_mid2] at h; exact h) (w' := w2.setCell ⟨G, i * 4 + 2, none⟩ (.bool (sg (q + 1 + (y.1.num.n : Int))))) (fun k h1 _ => setCell_other (by omega)))
      have HB3 := hide ((unhide HB2).set (p := ⟨G, i * 4 + 2, none⟩) (Nat.le_refl _) (by show G < hi; omega) (.bool (sg (q + 1 + (y.1.num.n : Int)))))
      go_wp2_with fail
      refine (mark_at ⟨sg (q + 1 + (y.1.num.n : Int)), y.1.den.a, y.1.den.n, y.1.den.c⟩ ⟨sg (q + 1 + (y.1.num.n : Int)), y.2.den.xs⟩ _ (zipPQ b') (q + 1 + (y.1.num.n : Int) + 1) lo hi _ (unhide HO3) m2 (by omega) (by omega)).mono ?_
      rintro e w4 ⟨rfl, hbt, ho4⟩
      have EK : Hid (mkP k (a ++ [y]) ++ b' = mkP k a ++ mkQ q y :: b') := hide (by rw [mkP_snoc, ← unhide EQ, List.append_assoc]; rfl)
      have HR4 : Hid (RowQ w4 G (mkP k (a ++ [y]) ++ b')) := hide (by rw [unhide EK]; exact ((unhide HR3).but hbt (.inl hG)).data)
      have HO4 : Hid (AllOwn lo hi w4 (zipPQ (mkP k (a ++ [y]) ++ b'))) := hide (by rw [unhide EK, zip_mid2]; exact ho4)
      have HB4 := hide ((unhide HB3).trans (hbt.wide (by omega) (Nat.le_refl _)))
      have EQ4 : Hid (nxK q y = enK k (a ++ [y])) := hide (by rw [enK_snoc, ← unhide EQ])
      clear hbt ho4 c0 c1 c2 c3 fz HR2 HO2 HB2 HR3 HO3 HB3
      go_wp2
      go_roundw
      case rel => exact ⟨i + 1, a ++ [y], b', nxK q y, by omega, by go_num, rfl, by unfold nxK; omega, by simp [ha], hide (by rw [unhide EL, List.append_assoc]; rfl), EQ4, HR4, HO4, HB4⟩
      case measure => simp [intOf]; omega
    · obtain rfl : i = n := by omega
      have hb0 : b = [] := by
        have h1 := unhide HN
        rw [unhide EL, List.length_append] at h1
        exact List.length_eq_zero_iff.1 (by omega)
      subst hb0
      have EA : Hid (l = a) := hide (by rw [unhide EL, List.append_nil])
      go_wp2
      go_ret
      refine ⟨by rw [unhide EA, ← unhide EQ]; rfl, unhide HB, ?_, ?_⟩
      · have h := unhide HR
        rw [List.append_nil, ← unhide EA] at h
        exact h
      · have h := unhide HO
        rw [List.append_nil, ← unhide EA] at h
        exact h

theorem mkP_mem {l : List (QV × QD)} {k : Int} {P : QV × QD → Prop} (h : ∀ q y, y ∈ l → P (mkQ q y)) : ∀ p ∈ mkP k l, P p := by
  induction l generalizing k with
  | nil => intro p hp; cases hp
  | cons z l ih =>
    intro p hp
    rcases List.mem_cons.1 hp with rfl | hp
    · exact h k z List.mem_cons_self
    · exact ih (fun q y hy => h q y (List.mem_cons_of_mem _ hy)) p hp
theorem mkP_lenP (l : List (QV × QD)) : ∀ k, lenPQ (mkP k l) = lenPQ l := by
  induction l with
  | nil => intro k; rfl
  | cons z l ih => intro k; show lenQ (mkQ k z) + lenPQ (mkP (nxK k z) l) = lenQ z + lenPQ l; rw [ih]; rfl
set_option maxHeartbeats 4000000 in
theorem heldP (G n c : Nat) (l : List (QV × QD)) (k : Int) (w : World) (hr : RowQ w G (mkP k l)) (hs : AllSl w (zipPQ (mkP k l))) (hn : l.length = n) (ml : ∀ p ∈ l, p.1.num.n ≤ 1048576 ∧ p.1.den.n ≤ 1048576) (k0 : 0 ≤ k) (k1 : k + 2 * (n : Int) + (lenPQ l : Int) ≤ 3900000) :
    Calls Try.prog 40 #[.slice (some ⟨G, 0, none⟩) n c, .int .i64 k] w fun e w' => e = .returned (.int .i64 (enK k l)) ∧ w' = w := by
  have HR := hide hr
  have HS := hide hs
  have HN := hide hn
  have ML := hide ml
  clear hr hs hn ml
  have hn1 : n ≤ 3900000 := by omega
  go_enter Try.func40, Try.ntmps40
  go_wp2
  go_loopw [1, 5] (fun kv iv wr => ∃ (i : Nat) (q : Int), i ≤ n ∧ iv = .int .i64 i ∧ kv = .int .i64 q ∧ 0 ≤ q ∧ Hid (q = enK k (l.take i)) ∧ wr = w) (fun _ iv _ => n - (intOf iv).toNat)
  case atStart => exact ⟨0, k, Nat.zero_le _, rfl, rfl, k0, hide (by simp [enK]), rfl⟩
  case round =>
    obtain ⟨i, q, hi', rfl, rfl, q0, EQ, rfl⟩ := hrel
    by_cases hlt : i < n
    · have hlt' : (i : Int) < (n : Int) := by omega
      have hil : i < l.length := by rw [unhide HN]; exact hlt
      have hget := mkP_get l k i hil
      rw [← unhide EQ] at hget
      have TK : Hid (l.take (i + 1) = l.take i ++ [l[i]]) := hide (take_succQ hil)
      have MY : Hid (l[i] ∈ l) := hide (List.getElem_mem _)
      have EQ2 : Hid (nxK q l[i] = enK k (l.take (i + 1))) := hide (by rw [unhide TK, enK_snoc, ← unhide EQ])
      have LE : Hid (nxK q l[i] ≤ 3900000) := hide (by
        rw [unhide EQ2, enK_eq]
        have h1 : (l.take (i + 1)).length = i + 1 := by rw [List.length_take]; omega
        have h2 : lenPQ l = lenPQ (l.take (i + 1)) + lenPQ (l.drop (i + 1)) := by rw [← lenPQ_append, List.take_append_drop]
        rw [h1]
        omega)
      have hm := List.mem_of_getElem? hget
      have S1 := (unhide HS) ((mkQ q l[i]).1.num, (mkQ q l[i]).2.num) (zipPQ_mem hm (by simp))
      have S2 := (unhide HS) ((mkQ q l[i]).1.den, (mkQ q l[i]).2.den) (zipPQ_mem hm (by simp))
      have m0 := (unhide ML) l[i] (unhide MY)
      obtain ⟨b0, b1, b2, b3⟩ := (unhide HR).cellsAt hget
      obtain ⟨y, hy⟩ : ∃ y, y = l[i] := ⟨_, rfl⟩
      rw [← hy] at b0 b1 b2 b3 S1 S2 m0 EQ2 LE
      clear hy hget hm TK MY hil
      have c0 : wr.cell? ⟨G, i * 4, none⟩ = some (.bool (q % 3 == 0)) := b0
      have c1 : wr.cell? ⟨G, i * 4 + 1, none⟩ = some (.slice y.1.num.a y.1.num.n y.1.num.c) := b1
      have c2 : wr.cell? ⟨G, i * 4 + 2, none⟩ = some (.bool ((q + 1 + (y.1.num.n : Int)) % 3 == 0)) := b2
      have c3 : wr.cell? ⟨G, i * 4 + 3, none⟩ = some (.slice y.1.den.a y.1.den.n y.1.den.c) := b3
      have X1 := hide (show Sl wr y.1.num.a (marks (q + 1) y.1.num.n) from S1.sl)
      have X2 := hide (show Sl wr y.1.den.a (marks (q + 1 + (y.1.num.n : Int) + 1) y.1.den.n) from S2.sl)
      have le : q + 1 + (y.1.num.n : Int) + 1 + (y.1.den.n : Int) ≤ 3900000 := unhide LE
      clear b0 b1 b2 b3 S1 S2 LE
      go_wp2_with fail
      refine (heldI_any _ _ _ (q + 1) _ (unhide X1) m0.1 (by omega) (by omega)).mono ?_
      rintro e w1 ⟨rfl, rfl⟩
      have d1 : ¬ (q + 1 + (y.1.num.n : Int) < 0) := by omega
      go_wp2_with fail
      refine (heldI_any _ _ _ (q + 1 + (y.1.num.n : Int) + 1) _ (unhide X2) m0.2 (by omega) (by omega)).mono ?_
      rintro e w2 ⟨rfl, rfl⟩
      have d2 : ¬ (q + 1 + (y.1.num.n : Int) + 1 + (y.1.den.n : Int) < 0) := by omega
      go_wp2
      go_roundw
      case rel => exact ⟨i + 1, nxK q y, by omega, by go_num, rfl, by unfold nxK; omega, EQ2, trivial⟩
      case measure => simp [intOf]; omega
    · obtain rfl : i = n := by omega
      have EL : Hid (q = enK k l) := hide (by have h := unhide EQ; rw [← unhide HN, List.take_length] at h; exact h)
      go_wp2
      go_ret
      exact ⟨by rw [← unhide EL]; rfl, rfl⟩
theorem markP0 (a : Option Addr) (c : Nat) (k : Int) (w : World) : Calls Try.prog 37 #[.slice a 0 c, .int .i64 k] w fun e w' => e = .returned (.int .i64 k) ∧ w' = w := by
  go_enter Try.func37, Try.ntmps37
  go_wp2
  refine wp_loop_rounds 1 ?_
  rw [rounds_succ]
  go_wp2
  go_ret
  exact ⟨rfl, rfl⟩
theorem heldP0 (a : Option Addr) (c : Nat) (k : Int) (w : World) : Calls Try.prog 40 #[.slice a 0 c, .int .i64 k] w fun e w' => e = .returned (.int .i64 k) ∧ w' = w := by
  go_enter Try.func40, Try.ntmps40
  go_wp2
  refine wp_loop_rounds 1 ?_
  rw [rounds_succ]
  go_wp2
  go_ret
  exact ⟨rfl, rfl⟩

/-- A slice of fractions that is the call's own: its row and its numbers in blocks from B to below E. -/
structure PRo (B E : Nat) (w : World) (a : Option Addr) (n c : Nat) (l : List (QV × QD)) : Prop where
  len : l.length = n
  sz : 2 * n + lenPQ l ≤ 3200000
  ml : ∀ p ∈ l, p.1.num.n ≤ 1048576 ∧ p.1.den.n ≤ 1048576
  row : n = 0 ∨ ∃ G lo hi, a = some ⟨G, 0, none⟩ ∧ B ≤ G ∧ G < lo ∧ lo ≤ hi ∧ hi ≤ E ∧ RowQ w G l ∧ AllOwn lo hi w (zipPQ l)
theorem PRo.later {B E : Nat} {w w' : World} {a : Option Addr} {n c : Nat} {l : List (QV × QD)} (h : PRo B E w a n c l) (hb : Below w.heap.size w w') : PRo B E w' a n c l := by
  refine ⟨h.len, h.sz, h.ml, ?_⟩
  rcases h.row with e | ⟨G, lo, hi, e, h1, h2, h3, h4, h5, h6⟩
  · exact .inl e
  · exact .inr ⟨G, lo, hi, e, h1, h2, h3, h4, h5.later hb, h6.later hb⟩
theorem PRo.but {B E lo' hi' : Nat} {w w' : World} {a : Option Addr} {n c : Nat} {l : List (QV × QD)} (h : PRo B E w a n c l) (hb : But lo' hi' w w') (hd : E ≤ lo' ∨ hi' ≤ B) : PRo B E w' a n c l := by
  refine ⟨h.len, h.sz, h.ml, ?_⟩
  rcases h.row with e | ⟨G, lo, hi, e, h1, h2, h3, h4, h5, h6⟩
  · exact .inl e
  · exact .inr ⟨G, lo, hi, e, h1, h2, h3, h4, h5.but hb (by omega), h6.but hb (by omega)⟩
theorem PRo.wide {B E B' E' : Nat} {w : World} {a : Option Addr} {n c : Nat} {l : List (QV × QD)} (h : PRo B E w a n c l) (h1 : B' ≤ B) (h2 : E ≤ E') : PRo B' E' w a n c l := by
  refine ⟨h.len, h.sz, h.ml, ?_⟩
  rcases h.row with e | ⟨G, lo, hi, e, k1, k2, k3, k4, k5, k6⟩
  · exact .inl e
  · exact .inr ⟨G, lo, hi, e, by omega, k2, k3, by omega, k5, k6⟩
theorem PRo.sl {B E : Nat} {w : World} {a : Option Addr} {n c : Nat} {l : List (QV × QD)} (h : PRo B E w a n c l) : PSlQ w a l := by
  rcases h.row with e | ⟨G, lo, hi, e, h1, h2, h3, h4, h5, h6⟩
  · have hl : l = [] := List.length_eq_zero_iff.1 (by rw [h.len]; exact e)
    subst hl
    exact ⟨.inl rfl, fun p hp => by cases hp⟩
  · subst e
    refine ⟨.inr ⟨G, 0, rfl, h5.lt, fun i hi => ?_⟩, fun p hp x hx => h6.sl x (zipPQ_mem hp hx)⟩
    have hc := h5.cellsAt (List.getElem?_eq_getElem hi)
    simpa using hc
theorem PRo.lens {B E : Nat} {w : World} {a : Option Addr} {n c : Nat} {l : List (QV × QD)} (h : PRo B E w a n c l) : ∀ p ∈ l, p.1.num.n ≤ maxLen ∧ p.1.den.n ≤ maxLen := fun p hp => by
  have := h.ml p hp
  unfold maxLen
  omega
theorem PRo.max {B E : Nat} {w : World} {a : Option Addr} {n c : Nat} {l : List (QV × QD)} (h : PRo B E w a n c l) : n ≤ maxLen := by
  have := h.sz
  unfold maxLen
  omega
theorem mkP_ml {l : List (QV × QD)} (k : Int) (h : ∀ p ∈ l, p.1.num.n ≤ 1048576 ∧ p.1.den.n ≤ 1048576) : ∀ p ∈ mkP k l, p.1.num.n ≤ 1048576 ∧ p.1.den.n ≤ 1048576 := mkP_mem (fun q y hy => h y hy)
theorem markR (B E : Nat) (a : Option Addr) (n c : Nat) (l : List (QV × QD)) (w : World) (h : PRo B E w a n c l) (hE : E ≤ w.heap.size) :
    Calls Try.prog 37 #[.slice a n c, .int .i64 1] w fun e w' => e = .returned (.int .i64 (enK 1 l)) ∧ But B E w w' ∧ PRo B E w' a n c (mkP 1 l) := by
  have hs := h.sz
  rcases h.row with e | ⟨G, lo, hi, e, h1, h2, h3, h4, h5, h6⟩
  · have hl : l = [] := List.length_eq_zero_iff.1 (by rw [h.len]; exact e)
    subst hl e
    refine (markP0 a c 1 w).mono ?_
    rintro e w' ⟨rfl, rfl⟩
    exact ⟨rfl, But.refl _ _ _, ⟨rfl, by simp [mkP, lenPQ], fun p hp => (by cases hp), .inl rfl⟩⟩
  · subst e
    refine (markP G n c l 1 lo hi w h5 h6 h.len h.ml h2 h3 (by omega) (by omega)).mono ?_
    rintro e w' ⟨rfl, hb, hr, ho⟩
    exact ⟨rfl, hb.wide h1 h4, ⟨by rw [mkP_len]; exact h.len, by rw [mkP_lenP]; exact h.sz, mkP_ml 1 h.ml, .inr ⟨G, lo, hi, rfl, h1, h2, h3, h4, hr, ho⟩⟩⟩
theorem heldR (B E : Nat) (a : Option Addr) (n c : Nat) (l : List (QV × QD)) (w : World) (h : PRo B E w a n c (mkP 1 l)) (h0 : 2 * n + lenPQ l ≤ 3200000) (ml : ∀ p ∈ l, p.1.num.n ≤ 1048576 ∧ p.1.den.n ≤ 1048576) :
    Calls Try.prog 40 #[.slice a n c, .int .i64 1] w fun e w' => e = .returned (.int .i64 (enK 1 l)) ∧ w' = w := by
  have hl' : l.length = n := by have := h.len; rw [mkP_len] at this; exact this
  rcases h.row with e | ⟨G, lo, hi, e, h1, h2, h3, h4, h5, h6⟩
  · have hl : l = [] := List.length_eq_zero_iff.1 (by omega)
    subst hl e
    exact heldP0 a c 1 w
  · subst e
    exact heldP G n c l 1 w h5 h6.sl hl' ml (by omega) (by omega)
theorem POwQ.ro {lo hi : Nat} {w : World} {G n c : Nat} {l : List (QV × QD)} (h : POwQ lo hi w G n c l) (hG : G < lo) (hl : lo ≤ hi) (sz : 2 * n + lenPQ l ≤ 3200000) (ml : ∀ p ∈ l, p.1.num.n ≤ 1048576 ∧ p.1.den.n ≤ 1048576) : PRo G hi w (some ⟨G, 0, none⟩) n c l := by
  refine ⟨h.len, sz, ml, .inr ⟨G, lo, hi, rfl, Nat.le_refl _, hG, hl, Nat.le_refl _, ?_, h.own⟩⟩
  obtain ⟨M, hr, hM⟩ := h.row
  rcases hr.2 with ⟨h', _⟩ | ⟨g', cap, cur, hv, _, hg, _, _, _, htake⟩
  · simp at h'
  simp only [Value.slice.injEq, Option.some.injEq, Addr.mk.injEq, and_true, true_and] at hv
  obtain ⟨rfl, rfl⟩ := hv
  refine ⟨cur, hg, fun j p hp => ?_⟩
  have hj : j < l.length := (List.getElem?_eq_some_iff.1 hp).1
  have hc := hM j hj
  have e : l[j] = p := by rw [List.getElem?_eq_getElem hj] at hp; exact Option.some.inj hp
  rw [e] at hc
  have hlen := h.len
  have up : ∀ t v, t < n * 4 → M[t]? = some v → cur[t]? = some v := fun t v ht hv => by
    rw [← htake, List.getElem?_take, if_pos ht] at hv
    simpa using hv
  exact ⟨up _ _ (by omega) hc.1, up _ _ (by omega) hc.2.1, up _ _ (by omega) hc.2.2.1, up _ _ (by omega) hc.2.2.2⟩
/-- The lengths of what is read. -/
def lenD : List QD → Nat
  | [] => 0
  | d :: l => d.num.xs.length + d.den.xs.length + lenD l
theorem lenPQ_data {l : List (QV × QD)} (h : ∀ p ∈ l, p.2.num.xs.length = p.1.num.n ∧ p.2.den.xs.length = p.1.den.n) : lenPQ l = lenD (l.map Prod.snd) := by
  induction l with
  | nil => rfl
  | cons p l ih =>
    have h1 := h p List.mem_cons_self
    have h2 := ih (fun q hq => h q (List.mem_cons_of_mem _ hq))
    show p.1.num.n + p.1.den.n + lenPQ l = p.2.num.xs.length + p.2.den.xs.length + lenD (l.map Prod.snd)
    omega
theorem PSlQ.data {w : World} {a : Option Addr} {l : List (QV × QD)} (h : PSlQ w a l) : ∀ p ∈ l, p.2.num.xs.length = p.1.num.n ∧ p.2.den.xs.length = p.1.den.n := fun p hp => ⟨(h.rd p hp).head.len, (h.rd p hp).tail.head.len⟩
theorem lenPQ_snd {w w' : World} {a a' : Option Addr} {l l' : List (QV × QD)} (h : PSlQ w a l) (h' : PSlQ w' a' l') (e : l.map Prod.snd = l'.map Prod.snd) : lenPQ l = lenPQ l' := by
  rw [lenPQ_data h.data, lenPQ_data h'.data, e]
theorem ml_snd {w w' : World} {a a' : Option Addr} {l l' : List (QV × QD)} (h : PSlQ w a l) (h' : PSlQ w' a' l') (e : l.map Prod.snd = l'.map Prod.snd) (ml : ∀ p ∈ l', p.1.num.n ≤ 1048576 ∧ p.1.den.n ≤ 1048576) : ∀ p ∈ l, p.1.num.n ≤ 1048576 ∧ p.1.den.n ≤ 1048576 := fun p hp => by
  have h1 : p.2 ∈ l'.map Prod.snd := by rw [← e]; exact List.mem_map.2 ⟨p, hp, rfl⟩
  obtain ⟨q, hq, e2⟩ := List.mem_map.1 h1
  have h2 := h.data p hp
  have h3 := h'.data q hq
  have h4 := ml q hq
  rw [e2] at h3
  omega
def RetPr (w : World) (U : List QD → Bool → Prop) (e : Ending) (w' : World) : Prop := ∃ (a : Option Addr) (n c : Nat) (l : List (QV × QD)) (ok : Bool), e = .returned (.tuple #[.slice a n c, .bool ok]) ∧ Below w.heap.size w w' ∧ PSlQ w' a l ∧ l.length = n ∧ U (l.map Prod.snd) ok
def RetPo (w : World) (U : List QD → Bool → Prop) (e : Ending) (w' : World) : Prop := ∃ (a : Option Addr) (n c : Nat) (l : List (QV × QD)) (ok : Bool), e = .returned (.tuple #[.slice a n c, .bool ok]) ∧ Below w.heap.size w w' ∧ PRo w.heap.size w'.heap.size w' a n c l ∧ U (l.map Prod.snd) ok
end Go.Proofs.Ytliaddmkomcmnaa
namespace Go.Proofs.Ytliaddmkomcmnaa
open Go.RowKit
set_option linter.unusedVariables false
set_option maxRecDepth 100000
set_option linter.unusedSimpArgs false

theorem szB_in (v : BV) (left : Int) (w : World) (h0 : 0 ≤ left) (h1 : left ≤ 1048576) (h : (v.n : Int) ≤ left) :
    Calls Try.prog 47 #[.agg #[.bool v.g, .slice v.a v.n v.c], .int .i64 left] w fun e w' => e = .returned (.int .i64 (left - (v.n : Int))) ∧ Below w.heap.size w w' := sz_in v.g v.a v.n v.c left w h0 h1 h
theorem szB_out (v : BV) (left : Int) (w : World) (h0 : 0 ≤ left) (h1 : left ≤ 1048576) (hm : v.n ≤ maxLen) (h : left < (v.n : Int)) :
    Calls Try.prog 47 #[.agg #[.bool v.g, .slice v.a v.n v.c], .int .i64 left] w fun e w' => e = .returned (.int .i64 (-1)) ∧ Below w.heap.size w w' := sz_out v.g v.a v.n v.c left w h0 h1 hm h
theorem toB_l (b : BV) (d : BD) (w : World) (h : AllSl w [(b, d)]) (h1 : b.n ≤ 1048576) :
    Calls Try.prog 55 #[.agg #[.bool b.g, .slice b.a b.n b.c]] w fun e w' => ∃ v : BV, e = .returned (.agg #[.bool v.g, .slice v.a v.n v.c]) ∧ Below w.heap.size w w' ∧ v.n = b.n ∧ AllOwn w.heap.size w'.heap.size w' [(v, d)] ∧ AllAr w' [(v, d)] := toB_at b d w h.head h1
theorem eqB_l (b b' : BV) (d : BD) (w : World) (h : AllSl w [(b, d)]) (h' : AllSl w [(b', d)]) (hm : b.n ≤ maxLen) :
    Calls Try.prog 59 #[.agg #[.bool b.g, .slice b.a b.n b.c], .agg #[.bool b'.g, .slice b'.a b'.n b'.c]] w fun e w' => e = .returned (.bool true) ∧ Below w.heap.size w w' := eqB_at b b' d w h.head h'.head hm
/-- The cells of some values in a row. -/
def PAtB (w : World) (a : Option Addr) (l : List (BV × BD)) : Prop := l = [] ∨ ∃ b off, a = some ⟨b, off, none⟩ ∧ b < w.heap.size ∧ ∀ i (h : i < l.length), w.cell? ⟨b, off + i * 2, none⟩ = some (.bool l[i].1.g) ∧ w.cell? ⟨b, off + i * 2 + 1, none⟩ = some (.slice l[i].1.a l[i].1.n l[i].1.c)
theorem PAtB.later {w w' : World} {a : Option Addr} {l : List (BV × BD)} (h : PAtB w a l) (hb : Below w.heap.size w w') : PAtB w' a l := by
  rcases h with h | ⟨b, off, rfl, h1, h2⟩
  · exact .inl h
  · exact .inr ⟨b, off, rfl, Nat.lt_of_lt_of_le h1 hb.size, fun i hi => ⟨cell_later hb ((h2 i hi).1), cell_later hb ((h2 i hi).2)⟩⟩
structure PSlB (w : World) (a : Option Addr) (l : List (BV × BD)) : Prop where
  at_ : PAtB w a l
  rd : ∀ p ∈ l, AllSl w [(p.1, p.2)]
theorem PSlB.later {w w' : World} {a : Option Addr} {l : List (BV × BD)} (h : PSlB w a l) (hb : Below w.heap.size w w') : PSlB w' a l := ⟨h.at_.later hb, fun p hp => (h.rd p hp).later hb⟩
/-- .. as an argument. -/
structure PArB (w : World) (a : Option Addr) (n c : Nat) (l : List (BV × BD)) : Prop where
  at_ : PAtB w a l
  rd : ∀ p ∈ l, AllAr w [(p.1, p.2)]
  len : l.length = n
  cap : n ≤ c
  top : c ≤ maxLen
theorem PArB.later {w w' : World} {a : Option Addr} {n c : Nat} {l : List (BV × BD)} (h : PArB w a n c l) (hb : Below w.heap.size w w') : PArB w' a n c l := ⟨h.at_.later hb, fun p hp => (h.rd p hp).later hb, h.len, h.cap, h.top⟩
theorem PArB.sl {w : World} {a : Option Addr} {n c : Nat} {l : List (BV × BD)} (h : PArB w a n c l) : PSlB w a l := ⟨h.at_, fun p hp => (h.rd p hp).sl⟩
def lenB (p : BV × BD) : Nat := p.1.n
def lenPB : List (BV × BD) → Nat
  | [] => 0
  | p :: l => lenB p + lenPB l
theorem lenPB_append (l l' : List (BV × BD)) : lenPB (l ++ l') = lenPB l + lenPB l' := by
  induction l with
  | nil => simp [lenPB]
  | cons p l ih => simp only [List.cons_append, lenPB, ih]; omega
theorem lenPB_mem {l : List (BV × BD)} {p : BV × BD} (h : p ∈ l) : lenB p ≤ lenPB l := by
  induction l with
  | nil => cases h
  | cons q l ih =>
    unfold lenPB
    rcases List.mem_cons.1 h with rfl | h
    · omega
    · have := ih h; omega
/-- The numbers in some values. -/
def zipPB (l : List (BV × BD)) : List (BV × BD) := l.flatMap (fun p => [(p.1, p.2)])
theorem zipPB_append (l l' : List (BV × BD)) : zipPB (l ++ l') = zipPB l ++ zipPB l' := by simp [zipPB]
theorem zipPB_one (p : BV × BD) : zipPB [p] = [(p.1, p.2)] := by simp [zipPB]
theorem zipPB_mem {l : List (BV × BD)} {p : BV × BD} (h : p ∈ l) {x : BV × BD} (hx : x ∈ [(p.1, p.2)]) : x ∈ zipPB l := List.mem_flatMap.2 ⟨p, h, hx⟩
theorem take_succB {l : List (BV × BD)} {i : Nat} (h : i < l.length) : l.take (i + 1) = l.take i ++ [l[i]] := (List.take_append_getElem h).symm

set_option maxHeartbeats 2000000 in
theorem szPB (a : Option Addr) (n c : Nat) (l : List (BV × BD)) (left : Int) (w : World) (h : PSlB w a l) (hn : l.length = n) (hm : n ≤ maxLen) (ml : ∀ p ∈ l, p.1.n ≤ maxLen) (h0 : 0 ≤ left) (h1 : left ≤ 1048576) :
    Calls Try.prog 20 #[.slice a n c, .int .i64 left] w fun e w' => ∃ r : Int, e = .returned (.int .i64 r) ∧ Below w.heap.size w w' ∧ (r = -1 ∨ (0 ≤ r ∧ r = left - (n : Int) - (lenPB l : Int))) := by
  have HS := hide h
  have HN := hide hn
  have ML := hide ml
  clear h hn ml
  unfold maxLen at hm
  by_cases c0 : left - (n : Int) < 0
  · go_enter Try.func20, Try.ntmps20
    go_wp2
    go_ret
    exact ⟨_, rfl, Below.refl _ _, .inl rfl⟩
  · go_enter Try.func20, Try.ntmps20
    go_wp2
    go_loopw [1, 5] (fun lv iv wr => ∃ (i : Nat) (r : Int), i ≤ n ∧ iv = .int .i64 i ∧ lv = .int .i64 r ∧ 0 ≤ r ∧ r ≤ 1048576 ∧ Hid (r = left - (n : Int) - (lenPB (l.take i) : Int)) ∧ Hid (Below w.heap.size w wr)) (fun _ iv _ => n - (intOf iv).toNat)
    case atStart => exact ⟨0, _, Nat.zero_le _, rfl, rfl, by omega, by omega, hide (by simp [lenPB]), hide (Below.refl _ _)⟩
    case round =>
      obtain ⟨i, r, hi, rfl, rfl, r0, r1, ER, HB⟩ := hrel
      by_cases hlt : i < n
      · have hlt' : (i : Int) < (n : Int) := by omega
        rcases (unhide HS).at_ with e | ⟨b, off, rfl, hb, hc⟩
        · exact absurd (unhide HN) (by rw [e]; simp; omega)
        have e0 := hc i (by rw [unhide HN]; exact hlt)
        obtain ⟨y, hy⟩ : ∃ y, y = l[i]'(by rw [unhide HN]; exact hlt) := ⟨_, rfl⟩
        rw [← hy] at e0
        have MY : Hid (y ∈ l) := hide (by rw [hy]; exact List.getElem_mem _)
        have EY := hide hy
        clear hy
        have E0 : wr.cell? ⟨b, off + i * 2, none⟩ = some (.bool y.1.g) := ((unhide HB).cell (p := ⟨b, off + i * 2, none⟩) hb).trans (e0.1)
        have E1 : wr.cell? ⟨b, off + i * 2 + 1, none⟩ = some (.slice y.1.a y.1.n y.1.c) := ((unhide HB).cell (p := ⟨b, off + i * 2 + 1, none⟩) hb).trans (e0.2)
        clear e0
        have TK : Hid (l.take (i + 1) = l.take i ++ [y]) := hide (by have h := take_succB (l := l) (i := i) (by rw [unhide HN]; exact hlt); rw [← unhide EY] at h; exact h)
        have j0 := (unhide ML) y (unhide MY)
        have lo : lenB y = y.1.n := rfl
        have TL : Hid ((lenPB (l.take (i + 1)) : Int) = (lenPB (l.take i) : Int) + ((y.1.n : Int))) := hide (by rw [unhide TK, lenPB_append]; show ((_ + (lenB y + 0) : Nat) : Int) = _; omega)
        clear hc lo
        by_cases c1 : (y.1.n : Int) ≤ r
        · have c2 : ¬ (r - (y.1.n : Int) < 0) := by omega
          go_wp2_with fail
          refine (szB_in y.1 r _ r0 r1 c1).mono ?_
          rintro e w1 ⟨rfl, hb1⟩
          have HB1 := hide (below_on (unhide HB) hb1)
          clear hb1 E0 E1
          go_wp2
          go_roundw
          case rel => exact ⟨i + 1, _, by omega, by go_num, rfl, by omega, by omega, hide (by rw [unhide TL]; have := unhide ER; omega), HB1⟩
          case measure => simp [intOf]; omega
        · go_wp2_with fail
          refine (szB_out y.1 r _ r0 r1 j0 (by omega)).mono ?_
          rintro e w1 ⟨rfl, hb1⟩
          have HB1 := hide (below_on (unhide HB) hb1)
          clear hb1 E0 E1
          go_wp2
          go_ret
          exact ⟨_, rfl, unhide HB1, .inl rfl⟩
      · obtain rfl : i = n := by omega
        have EL := hide (show r = left - (i : Int) - (lenPB l : Int) from by have := unhide ER; rw [← unhide HN, List.take_length, unhide HN] at this; exact this)
        go_wp2
        go_ret
        exact ⟨_, rfl, unhide HB, .inr ⟨r0, unhide EL⟩⟩

theorem get_sndB {l l' : List (BV × BD)} (h : l.map Prod.snd = l'.map Prod.snd) {i : Nat} (hi : i < l.length) (hi' : i < l'.length) : l[i].2 = l'[i].2 := by
  have := congrArg (fun x => x[i]?) h
  simpa [hi, hi'] using this
set_option maxHeartbeats 4000000 in
theorem eqPB (a a' : Option Addr) (n c c' : Nat) (l l' : List (BV × BD)) (w : World) (h : PSlB w a l) (h' : PSlB w a' l') (hn : l.length = n) (he : l.map Prod.snd = l'.map Prod.snd) (hm : n ≤ maxLen) (ml : ∀ p ∈ l, p.1.n ≤ maxLen) :
    Calls Try.prog 15 #[.slice a n c, .slice a' n c'] w fun e w' => e = .returned (.bool true) ∧ Below w.heap.size w w' := by
  have hn' : l'.length = n := by have := congrArg List.length he; simp at this; omega
  have HS := hide h
  have HS' := hide h'
  have HN := hide hn
  have HN' := hide hn'
  have HE := hide he
  have ML := hide ml
  clear h hn ml he hn' h'
  unfold maxLen at hm
  go_enter Try.func15, Try.ntmps15
  go_wp2
  go_loopw [5] (fun iv wr => ∃ (i : Nat), i ≤ n ∧ iv = .int .i64 i ∧ Hid (Below w.heap.size w wr)) (fun iv _ => n - (intOf iv).toNat)
  case atStart => exact ⟨0, Nat.zero_le _, rfl, hide (Below.refl _ _)⟩
  case round =>
    obtain ⟨i, hi, rfl, HB⟩ := hrel
    by_cases hlt : i < n
    · have hlt' : (i : Int) < (n : Int) := by omega
      rcases (unhide HS).at_ with e | ⟨b, off, rfl, hb, hc⟩
      · exact absurd (unhide HN) (by rw [e]; simp; omega)
      have e0 := hc i (by rw [unhide HN]; exact hlt)
      obtain ⟨y, hy⟩ : ∃ y, y = l[i]'(by rw [unhide HN]; exact hlt) := ⟨_, rfl⟩
      rw [← hy] at e0
      have MY : Hid (y ∈ l) := hide (by rw [hy]; exact List.getElem_mem _)
      have EY := hide hy
      clear hy
      have E0 : wr.cell? ⟨b, off + i * 2, none⟩ = some (.bool y.1.g) := ((unhide HB).cell (p := ⟨b, off + i * 2, none⟩) hb).trans (e0.1)
      have E1 : wr.cell? ⟨b, off + i * 2 + 1, none⟩ = some (.slice y.1.a y.1.n y.1.c) := ((unhide HB).cell (p := ⟨b, off + i * 2 + 1, none⟩) hb).trans (e0.2)
      clear e0
      clear hc
      rcases (unhide HS').at_ with e | ⟨b', off', rfl, hb', hc'⟩
      · exact absurd (unhide HN') (by rw [e]; simp; omega)
      have e0 := hc' i (by rw [unhide HN']; exact hlt)
      obtain ⟨y', hy'⟩ : ∃ y, y = l'[i]'(by rw [unhide HN']; exact hlt) := ⟨_, rfl⟩
      rw [← hy'] at e0
      have MY' : Hid (y' ∈ l') := hide (by rw [hy']; exact List.getElem_mem _)
      have ED : Hid (y.2 = y'.2) := hide (by rw [unhide EY, hy']; exact get_sndB (unhide HE) _ _)
      clear hy'
      have F0 : wr.cell? ⟨b', off' + i * 2, none⟩ = some (.bool y'.1.g) := ((unhide HB).cell (p := ⟨b', off' + i * 2, none⟩) hb').trans (e0.1)
      have F1 : wr.cell? ⟨b', off' + i * 2 + 1, none⟩ = some (.slice y'.1.a y'.1.n y'.1.c) := ((unhide HB).cell (p := ⟨b', off' + i * 2 + 1, none⟩) hb').trans (e0.2)
      clear e0 hc'
      have j0 := (unhide ML) y (unhide MY)
      have R1 := hide (((unhide HS).rd y (unhide MY)).later (unhide HB))
      have R2 := hide (((unhide HS').rd y' (unhide MY')).later (unhide HB))
      go_upto_region 6 with fail
      go_region_held3 (fun w' => w'.cell? ⟨b, off + i * 2, none⟩ = some (.bool y.1.g) ∧ w'.cell? ⟨b, off + i * 2 + 1, none⟩ = some (.slice y.1.a y.1.n y.1.c) ∧ w'.cell? ⟨b', off' + i * 2, none⟩ = some (.bool y'.1.g) ∧ w'.cell? ⟨b', off' + i * 2 + 1, none⟩ = some (.slice y'.1.a y'.1.n y'.1.c))
        (with_reducible (first | exact ⟨E0, E1, F0, F1⟩ | exact ⟨cd_other E0, cd_other E1, cd_other F0, cd_other F1⟩ | fail))
        (first
        | (go_at_call 59; refine (eqB_l y.1 y'.1 y.2 _ ?_ ?_ j0).mono ?_; exact (unhide R1).drew; (rw [unhide ED]; exact (unhide R2).drew); rintro e w1 ⟨rfl, hb1⟩; have HB1 := hide (below_on (unhide HB) (below_of_drew hb1)); have hbx := below_of_drew hb1; replace E0 := cell_later hbx E0; replace E1 := cell_later hbx E1; replace F0 := cell_later hbx F0; replace F1 := cell_later hbx F1; clear hb1 hbx))
      clear E0 F0 E1 F1
      go_wp2
      go_roundw
      case rel => exact ⟨i + 1, by omega, by go_num, HB1⟩
      case measure => simp [intOf]; omega
    · obtain rfl : i = n := by omega
      go_wp2
      go_ret
      exact ⟨rfl, unhide HB⟩

theorem but_rowB {w : World} {G k : Nat} {u : BV} : But G (G + 1) w ((w.setCell ⟨G, k * 2, none⟩ (.bool u.g)).setCell ⟨G, k * 2 + 1, none⟩ (.slice u.a u.n u.c)) := (((But.refl _ _ _).set (p := ⟨G, k * 2, none⟩) (Nat.le_refl G) (Nat.lt_succ_self G) (.bool u.g)).set (p := ⟨G, k * 2 + 1, none⟩) (Nat.le_refl G) (Nat.lt_succ_self G) (.slice u.a u.n u.c))

/-- Some values in a row that is the law's own, at block G; their numbers in blocks from lo to below hi. -/
structure POwB (lo hi : Nat) (w : World) (G n c : Nat) (l : List (BV × BD)) : Prop where
  row : ∃ M, w.ownsRow G 31 2 (.slice (some ⟨G, 0, none⟩) n c) n M ∧ ∀ i (h : i < l.length), M[i * 2]? = some (.bool l[i].1.g) ∧ M[i * 2 + 1]? = some (.slice l[i].1.a l[i].1.n l[i].1.c)
  own : AllOwn lo hi w (zipPB l)
  ar : ∀ p ∈ l, AllAr w [(p.1, p.2)]
  len : l.length = n
theorem ownsRow_laterB {w w' : World} {G g n c size : Nat} {e : TypeId} {M : List Value} (h : w.ownsRow G e size (.slice (some ⟨g, 0, none⟩) n c) n M) (hb : Below w.heap.size w w') : w'.ownsRow G e size (.slice (some ⟨g, 0, none⟩) n c) n M := by
  refine ⟨h.1, ?_⟩
  rcases h.2 with ⟨h', _⟩ | ⟨g', cap, cur, hv, h1, hg, r⟩
  · simp at h'
  · refine .inr ⟨g', cap, cur, hv, h1, ?_, r⟩
    rw [hb.block g' (Array.getElem?_eq_some_iff.1 hg).1]
    exact hg
theorem POwB.later {lo hi : Nat} {w w' : World} {G n c : Nat} {l : List (BV × BD)} (h : POwB lo hi w G n c l) (hb : Below w.heap.size w w') : POwB lo hi w' G n c l := by
  obtain ⟨M, hr, hM⟩ := h.row
  exact ⟨⟨M, ownsRow_laterB hr hb, hM⟩, h.own.later hb, fun p hp => (h.ar p hp).later hb, h.len⟩
theorem POwB.arg {lo hi : Nat} {w : World} {G n c : Nat} {l : List (BV × BD)} (h : POwB lo hi w G n c l) : PArB w (some ⟨G, 0, none⟩) n c l := by
  obtain ⟨M, hr, hM⟩ := h.row
  have hl := h.len
  have h2 := hr.2
  rcases h2 with ⟨h', _⟩ | ⟨g', cap, cur, hv, h1, hg, r1, r2, r3⟩
  · simp at h'
  simp only [Value.slice.injEq, Option.some.injEq, Addr.mk.injEq, and_true, true_and] at hv
  obtain ⟨rfl, rfl⟩ := hv
  refine ⟨.inr ⟨G, 0, rfl, (Array.getElem?_eq_some_iff.1 hg).1, fun i hi => ?_⟩, h.ar, hl, r1, r2⟩
  have hc := hM i hi
  refine ⟨?_, ?_⟩ <;> rw [Nat.zero_add, hr.cellAt _ (by omega)]
  · exact hc.1
  · exact hc.2
theorem Try.info31 : (Try.prog.info? 31).map (fun i => (i.zero, i.size, i.bytes)) = some (some (.agg #[.bool false, .slice none 0 0]), 2, 32) := by kernel_rfl
theorem set_rowB {M : List Value} {us : List (BV × BD)} {n k : Nat} {u : BV} {d : BD} (hM : M.length = n * 2) (hk : k < n) (hu : us.length = k) (h : ∀ i (h : i < us.length), M[i * 2]? = some (.bool us[i].1.g) ∧ M[i * 2 + 1]? = some (.slice us[i].1.a us[i].1.n us[i].1.c)) :
    ∀ i (h : i < (us ++ [(u, d)]).length), ((M.set (k * 2) (.bool u.g)).set (k * 2 + 1) (.slice u.a u.n u.c))[i * 2]? = some (.bool (us ++ [(u, d)])[i].1.g) ∧ ((M.set (k * 2) (.bool u.g)).set (k * 2 + 1) (.slice u.a u.n u.c))[i * 2 + 1]? = some (.slice (us ++ [(u, d)])[i].1.a (us ++ [(u, d)])[i].1.n (us ++ [(u, d)])[i].1.c) := by
  intro i hi
  by_cases e : i < k
  · have hi' : i < us.length := by omega
    have h1 := h i hi'
    rw [List.getElem_append_left hi']
    simp only [List.getElem?_set]
    refine ⟨?_, ?_⟩
    · rw [if_neg (by omega), if_neg (by omega)]; exact h1.1
    · rw [if_neg (by omega), if_neg (by omega)]; exact h1.2
  · obtain rfl : i = k := by simp at hi; omega
    subst hu
    rw [List.getElem_append_right (Nat.le_refl _)]
    simp only [Nat.sub_self, List.getElem_cons_zero]
    refine ⟨?_, ?_⟩
    · simp only [List.getElem?_set, List.length_set]; rw [if_neg (by omega)]; rw [if_pos trivial, if_pos (by omega)]
    · simp only [List.getElem?_set, List.length_set]; rw [if_pos trivial, if_pos (by omega)]

set_option maxHeartbeats 4000000 in
theorem toPB (a : Option Addr) (n c : Nat) (l : List (BV × BD)) (w : World) (h : PSlB w a l) (hn : l.length = n) (h1 : n ≤ 1048576) (ml : ∀ p ∈ l, p.1.n ≤ 1048576) :
    Calls Try.prog 22 #[.slice a n c] w fun e w' => ∃ l' : List (BV × BD), e = .returned (.slice (some ⟨w.heap.size, 0, none⟩) n n) ∧ Below w.heap.size w w' ∧ w.heap.size < w'.heap.size ∧ l'.map Prod.snd = l.map Prod.snd ∧ POwB (w.heap.size + 1) w'.heap.size w' w.heap.size n n l' := by
  obtain ⟨i0, hi, hz0, hz1, hz2⟩ := info_parts Try.info31
  have HS := hide h
  have HN := hide hn
  have ML := hide ml
  clear h hn ml
  go_enter Try.func22, Try.ntmps22
  go_wp2_with (at_make; refine wpList_make_full _ rfl _ _ 28 rfl w.heap.size 31 i0 (.agg #[.bool false, .slice none 0 0]) 2 Try.underlying28 hi hz0 hz1 .i64 .i64 _ _ n rfl rfl rfl rfl ?c1 ?c2 ?c3 ?_)
  case c1 => rw [hz2]; omega
  case c2 => unfold maxLen; omega
  case c3 => exact Nat.le_refl _
  intro w1 hown hgrow
  have hb0 : Below w.heap.size w w1 := (Below.refl _ _).grown hgrow (Nat.le_refl _) (fun k e => by cases e)
  have P0 : Hid (∃ M, w1.ownsRow w.heap.size 31 2 (.slice (some ⟨w.heap.size, 0, none⟩) n n) n M) := hide ⟨_, hown⟩
  have z0 : w.heap.size < w1.heap.size := by
    rcases hown.2 with ⟨h', _⟩ | ⟨g', cap, cur, hv, _, hg, _⟩
    · simp at h'
    · simp only [Value.slice.injEq, Option.some.injEq, Addr.mk.injEq, and_true, true_and] at hv
      have := (Array.getElem?_eq_some_iff.1 hg).1
      omega
  clear hown hgrow hi hz0 hz1 hz2
  have HB0 := hide hb0
  clear hb0
  go_wp2
  go_loopw [4] (fun iv wr => ∃ (k : Nat) (us : List (BV × BD)), k ≤ n ∧ iv = .int .i64 k ∧ us.length = k ∧ w.heap.size < wr.heap.size ∧ Hid (us.map Prod.snd = (l.take k).map Prod.snd) ∧ Hid (∃ M, wr.ownsRow w.heap.size 31 2 (.slice (some ⟨w.heap.size, 0, none⟩) n n) n M ∧ ∀ i (h : i < us.length), M[i * 2]? = some (.bool us[i].1.g) ∧ M[i * 2 + 1]? = some (.slice us[i].1.a us[i].1.n us[i].1.c)) ∧ Hid (AllOwn (w.heap.size + 1) wr.heap.size wr (zipPB us)) ∧ Hid (∀ p ∈ us, AllAr wr [(p.1, p.2)]) ∧ Hid (Below w.heap.size w wr)) (fun iv _ => n - (intOf iv).toNat)
  case atStart =>
    obtain ⟨M, hM⟩ := unhide P0
    exact ⟨0, [], Nat.zero_le _, rfl, rfl, z0, hide (by simp), hide ⟨M, hM, fun i hi => absurd hi (by simp)⟩, hide (AllOwn.nil _ _ _), hide (fun p hp => by cases hp), HB0⟩
  case round =>
    clear P0 HB0 z0
    obtain ⟨k, us, hk, rfl, hu, z1, ED, EM, OO, AA, HB⟩ := hrel
    by_cases hlt : k < n
    · have hlt' : (k : Int) < (n : Int) := by omega
      rcases (unhide HS).at_ with e | ⟨b, off, rfl, hb, hc⟩
      · exact absurd (unhide HN) (by rw [e]; simp; omega)
      have e0 := hc k (by rw [unhide HN]; exact hlt)
      obtain ⟨y, hy⟩ : ∃ y, y = l[k]'(by rw [unhide HN]; exact hlt) := ⟨_, rfl⟩
      rw [← hy] at e0
      have MY : Hid (y ∈ l) := hide (by rw [hy]; exact List.getElem_mem _)
      have EY := hide hy
      clear hy
      have E0 : wr.cell? ⟨b, off + k * 2, none⟩ = some (.bool y.1.g) := ((unhide HB).cell (p := ⟨b, off + k * 2, none⟩) hb).trans (e0.1)
      have E1 : wr.cell? ⟨b, off + k * 2 + 1, none⟩ = some (.slice y.1.a y.1.n y.1.c) := ((unhide HB).cell (p := ⟨b, off + k * 2 + 1, none⟩) hb).trans (e0.2)
      clear e0
      have TK : Hid ((l.take (k + 1)).map Prod.snd = us.map Prod.snd ++ [y.2]) := hide (by have h := take_succB (l := l) (i := k) (by rw [unhide HN]; exact hlt); rw [← unhide EY] at h; rw [h, List.map_append, ← unhide ED]; rfl)
      have j0 := (unhide ML) y (unhide MY)
      have R1 := hide (((unhide HS).rd y (unhide MY)).later (unhide HB))
      clear hc
      go_wp2_with fail
      refine (toB_l y.1 y.2 _ (unhide R1) j0).mono ?_
      rintro e w2 ⟨u, rfl, hb2, hlens, ho, ha⟩
      clear hlens
      have z2 := hb2.size
      have HB1 := hide (below_on (unhide HB) hb2)
      obtain ⟨M, hM, hL⟩ := unhide EM
      replace hM := ownsRow_laterB hM hb2
      have OO2 := hide ((unhide OO).later hb2)
      have AA2 := hide (fun p hp => ((unhide AA) p hp).later hb2)
      have AU := hide ho
      have AV := hide ha
      have old0 : ∃ x, w2.cell? ⟨w.heap.size, k * 2, none⟩ = some x := by
        have hl := hM.1
        rw [hM.cellAt _ (by omega)]
        exact ⟨_, List.getElem?_eq_getElem (by omega)⟩
      obtain ⟨x0, o0⟩ := old0
      have old1 : ∃ x, w2.cell? ⟨w.heap.size, k * 2 + 1, none⟩ = some x := by
        have hl := hM.1
        rw [hM.cellAt _ (by omega)]
        exact ⟨_, List.getElem?_eq_getElem (by omega)⟩
      obtain ⟨x1, o1⟩ := old1
      have fr : ∀ o, w2.frozen? ⟨w.heap.size, o, none⟩ = false := fun o => hM.frozenAt o
      have HM := hide hM
      have HL := hide hL
      clear hM hL hb2 ho ha EM OO AA E0 E1
      go_wp2
      go_roundw
      case rel =>
        have hM := unhide HM
        have bt : But w.heap.size (w.heap.size + 1) w2 ((w2.setCell ⟨w.heap.size, k * 2, none⟩ (.bool u.g)).setCell ⟨w.heap.size, k * 2 + 1, none⟩ (.slice u.a u.n u.c)) := but_rowB
        refine ⟨k + 1, us ++ [(u, y.2)], by omega, by go_num, by simp [hu], Nat.lt_of_lt_of_le (by omega) bt.size, hide (by rw [unhide TK, List.map_append]; rfl), hide ⟨_, (World.ownsRow.stored (World.ownsRow.stored hM (k * 2) (.bool u.g)).1 (k * 2 + 1) (.slice u.a u.n u.c)).1, set_rowB hM.1 hlt hu (unhide HL)⟩, hide ?_, hide ?_, hide ?_⟩
        · rw [zipPB_append, zipPB_one]
          exact (((unhide OO2).join (unhide AU) (by omega) (by omega)).but bt (.inr (Nat.le_refl _))).wide (Nat.le_refl _) bt.size
        · intro p hp x hx
          have own := (((unhide OO2).join (unhide AU) (by omega) (by omega)))
          have hAr : AllAr w2 (zipPB us ++ [(u, y.2)]) := fun x hx => by
            rcases List.mem_append.1 hx with hx | hx
            · obtain ⟨p, hp, hx⟩ := List.mem_flatMap.1 hx
              exact (unhide AA2) p hp x hx
            · exact (unhide AV) x hx
          refine ar_fin bt own hAr (Nat.le_refl _) x ?_
          rcases List.mem_append.1 hp with hp | hp
          · exact List.mem_append_left _ (zipPB_mem hp hx)
          · obtain rfl := List.mem_singleton.1 hp
            exact List.mem_append_right _ hx
        · exact bt.below (unhide HB1) (Nat.le_refl _) (by have := (unhide HB1).size; omega)
      case measure => simp [intOf]; omega
    · obtain rfl : k = n := by omega
      have EL := hide (show us.map Prod.snd = l.map Prod.snd from by have := unhide ED; rw [← unhide HN, List.take_length] at this; exact this)
      go_wp2
      go_ret
      exact ⟨us, rfl, unhide HB, z1, unhide EL, ⟨unhide EM, unhide OO, unhide AA, hu⟩⟩
end Go.Proofs.Ytliaddmkomcmnaa
namespace Go.Proofs.Ytliaddmkomcmnaa
open Go.RowKit Go.Shelf
set_option linter.unusedVariables false
set_option maxRecDepth 100000
set_option linter.unusedSimpArgs false
attribute [local go_sem] Oper.semAt_some

set_option maxRecDepth 100000 in
set_option maxHeartbeats 2000000 in
theorem backB1_in (F : Fence) (m : Nat) (h7 : F.fn 151) (hro : F.round = none) (hm : 1 ≤ m) (t Bs N G b off n c : Nat) (l : List (BV × BD)) (hl : l.length = n) (hn : n ≤ 1000000) (hBs : Bs < N ∧ Bs ≠ G) (hb : b < N ∧ b ≠ G) (J Jx : List (Fin n) → World → Prop)
    (hY : ∀ pre x W, J pre W → pre.length < n → YieldAt F (m - 1) Try.prog t ((fun k : Fin n => #[.int .i64 (k.1 : Nat), .agg #[.bool (l[k.1]'(by rw [hl]; exact k.2)).1.g, .slice (l[k.1]'(by rw [hl]; exact k.2)).1.a (l[k.1]'(by rw [hl]; exact k.2)).1.n (l[k.1]'(by rw [hl]; exact k.2)).1.c]]) x) W fun e W' =>
      (e = .returned (.bool true) ∧ J (pre ++ [x]) W' ∧ KB N G W W') ∨ (e = .returned (.bool false) ∧ Jx (pre ++ [x]) W'))
    (W : World) (hc : W.cell? ⟨Bs, 0, none⟩ = some (.slice (some ⟨b, off, none⟩) n c)) (hcs : ∀ i (h : i < l.length), W.cell? ⟨b, off + i * 2, none⟩ = some (.bool l[i].1.g) ∧ W.cell? ⟨b, off + i * 2 + 1, none⟩ = some (.slice l[i].1.a l[i].1.n l[i].1.c)) (h0 : J [] W) :
    CallsIn F m Try.prog 151 #[.func (.yield t) #[] #[], .pointer (some ⟨Bs, 0, none⟩)] W fun e W' => (∃ v, e = .returned v) ∧ ((∃ ys, ys = (List.finRange n).reverse ∧ J ys W') ∨ (∃ pre, True ∧ Jx pre W')) := by
  refine callsIn_of_wp Try.func151 rfl h7 ?_ hro
  simp only [Try.ntmps151, List.size_toArray, List.length_cons, List.length_nil, Nat.reduceAdd, Nat.reduceSub, Array.replicate_succ, Array.replicate_zero, List.push_toArray, List.append_toArray, List.nil_append, List.cons_append]
  gi_wp2
  gi_loopw [3] (fun i wr => ∃ k : Nat, k ≤ n ∧ i = .int .i64 ((n : Int) - 1 - k) ∧ J (downs n k) wr ∧ Hid (KB N G W wr))
    (fun i _ => (intOf i + 1).toNat)
  case atStart => exact ⟨0, Nat.zero_le _, by simp, h0, KB.refl _ _ _⟩
  case round =>
    obtain ⟨k, hk, rfl, hJs, HK⟩ := hrel
    have hcx : wr.cell? ⟨Bs, 0, none⟩ = some (.slice (some ⟨b, off, none⟩) n c) := HK.cell hc hBs.1 hBs.2
    by_cases hlt : k < n
    · have i0 : (0 : Int) ≤ (n : Int) - 1 - k := by omega
      have i1 : (n : Int) - 1 - k < (n : Int) := by omega
      have i2 : ((n : Int) - 1 - k).toNat = n - 1 - k := by omega
      have hx := hcs (n - 1 - k) (by omega)
      have E0 : wr.cell? ⟨b, off + (n - 1 - k) * 2, none⟩ = some (.bool (l[n - 1 - k]'(by omega)).1.g) := HK.cell hx.1 hb.1 hb.2
      have E1 : wr.cell? ⟨b, off + (n - 1 - k) * 2 + 1, none⟩ = some (.slice (l[n - 1 - k]'(by omega)).1.a (l[n - 1 - k]'(by omega)).1.n (l[n - 1 - k]'(by omega)).1.c) := HK.cell hx.2 hb.1 hb.2
      clear hx
      obtain ⟨fn, tmps, assign, body, hy, hR⟩ := hY _ ⟨n - 1 - k, by omega⟩ wr hJs (by rw [downs_len hk]; exact hlt)
      dsimp only at hy
      rw [show (((n - 1 - k : Nat)) : Int) = (n : Int) - 1 - k by omega] at hy
      clear hcs hY
      gi_wp2
      refine hR.mono ?_
      rintro e W3 (⟨rfl, hJ3, hk3⟩ | ⟨rfl, hJx3⟩)
      · have HK3 := hide (HK.trans hk3)
        clear hk3 hR hy E0 E1
        gi_wp2
        go_roundw
        case rel => exact ⟨k + 1, by omega, by go_num, by rw [downs_succ hlt]; exact hJ3, unhide HK3⟩
        case measure => simp [intOf]; omega
      · clear hR hy E0 E1
        gi_wp2
        refine bodyPost_ret (results_none rfl _ _ _) rfl ?_
        exact ⟨⟨_, rfl⟩, .inr ⟨_, trivial, hJx3⟩⟩
    · obtain rfl : k = n := by omega
      have i0 : ¬ ((0 : Int) ≤ (k : Int) - 1 - k) := by omega
      clear hcs hY
      gi_wp2
      go_end0
      exact ⟨⟨_, rfl⟩, .inl (by rw [← downs_all]; exact hJs)⟩
set_option maxRecDepth 100000 in
set_option maxHeartbeats 1000000 in
theorem backB1_nil (F : Fence) (m : Nat) (h7 : F.fn 151) (hro : F.round = none) (t Bs c : Nat) (a : Option Addr) (J : World → Prop) (W : World) (hc : W.cell? ⟨Bs, 0, none⟩ = some (.slice a 0 c)) (h0 : J W) :
    CallsIn F m Try.prog 151 #[.func (.yield t) #[] #[], .pointer (some ⟨Bs, 0, none⟩)] W fun e W' => (∃ v, e = .returned v) ∧ J W' := by
  refine callsIn_of_wp Try.func151 rfl h7 ?_ hro
  simp only [Try.ntmps151, List.size_toArray, List.length_cons, List.length_nil, Nat.reduceAdd, Nat.reduceSub, Array.replicate_succ, Array.replicate_zero, List.push_toArray, List.append_toArray, List.nil_append, List.cons_append]
  gi_wp2
  gi_loopw [3] (fun i wr => i = .int .i64 (-1) ∧ J wr) (fun _ _ => 0)
  case atStart => exact ⟨rfl, h0⟩
  case round =>
    obtain ⟨rfl, hJs⟩ := hrel
    gi_wp2
    go_end0
    exact ⟨⟨_, rfl⟩, hJs⟩
theorem backB_stops (F : Fence) (m : Nat) (h7 : F.fn 151) (hro : F.round = none) (hm : 1 ≤ m) (Bs G n c : Nat) (a : Option Addr) (l : List (BV × BD)) (hl : l.length = n) (hn : n ≤ 1000000) (w0 w : World) (hP : PAtB w0 a l) (hb0 : Below w0.heap.size w0 w) (hG : w0.heap.size ≤ G) (hBs : Bs < w.heap.size ∧ Bs ≠ G)
    (hc : w.cell? ⟨Bs, 0, none⟩ = some (.slice a n c)) :
    SeqStopsK F m Try.prog 151 #[.pointer (some ⟨Bs, 0, none⟩)] (fun k : Fin n => #[.int .i64 (k.1 : Nat), .agg #[.bool (l[k.1]'(by rw [hl]; exact k.2)).1.g, .slice (l[k.1]'(by rw [hl]; exact k.2)).1.a (l[k.1]'(by rw [hl]; exact k.2)).1.n (l[k.1]'(by rw [hl]; exact k.2)).1.c]]) (KB w.heap.size G) (fun ys => ys = (List.finRange n).reverse) (fun _ => True) n w := fun t J Jx W hW _ _ hY h0 => by
  have hc' := (hW.cell (p := ⟨Bs, 0, none⟩) hBs.1).trans hc
  rcases hP with rfl | ⟨b, off, rfl, h1, h2⟩
  · obtain rfl : n = 0 := by simpa using hl.symm
    exact (backB1_nil F m h7 hro t Bs c a (J []) W hc' h0).mono fun e W' ⟨he, hj⟩ => ⟨he, .inl ⟨[], rfl, hj⟩⟩
  · have hbw : Below w0.heap.size w0 W := hb0.trans (hW.mono hb0.size)
    refine backB1_in F m h7 hro hm t Bs w.heap.size G b off n c l hl hn hBs ⟨Nat.lt_of_lt_of_le h1 hb0.size, by omega⟩ J Jx hY W hc' (fun i hi => ?_) h0
    have h3 := h2 i hi
    exact ⟨cell_later hbw h3.1, cell_later hbw h3.2⟩
set_option maxHeartbeats 1000000 in
theorem backB_in (F : Fence) (m : Nat) (h5 : F.fn 116) (hro : F.round = none) (a : Option Addr) (n c : Nat) (w : World) :
    CallsIn F m Try.prog 116 #[.slice a n c] w fun e w' => e = .returned (.func (.func 151) #[] #[.pointer (some ⟨w.heap.size, 0, none⟩)]) ∧ w' = w.alloc (.cells #[.slice a n c] 28) := by
  refine callsIn_of_wp Try.func116 rfl h5 ?_ hro
  simp only [Try.ntmps116, List.size_toArray, List.length_cons, List.length_nil, Nat.reduceAdd, Nat.reduceSub, Array.replicate_succ, Array.replicate_zero, List.push_toArray, List.append_toArray, List.nil_append, List.cons_append]
  gi_wp2
  go_ret
  exact ⟨rfl, rfl⟩
end Go.Proofs.Ytliaddmkomcmnaa
namespace Go.Proofs.Ytliaddmkomcmnaa
open Go.ChangeShapes Go.WideShapes Go.ChangeAt Go.RowKit Go.Joins
set_option linter.unusedVariables false
set_option maxRecDepth 100000
set_option linter.unusedSimpArgs false

theorem open_bigc {H : Type} {enc : TypeId × Value → H} {W : World} {m : Nat} {c0 c1 : Value} {x : DataW H × List MemPlace}
    (hf : DataW.trod enc Try.prog W 0 (fun _ => true) true m 24 [c0, c1] = some x) :
    ∃ p : BV × BD, (c0 = .bool p.1.g ∧ c1 = .slice p.1.a p.1.n p.1.c) ∧ AllSl W [(p.1, p.2)] ∧ p.1.n ≤ maxLen := by
  obtain ⟨z0, z1, n1, _, _, p0, p1⟩ := trod_struct2 Try.underlying24 hf
  have c_b : Try.prog.cellsOf 4 = 1 := by kernel_rfl
  have c_s : Try.prog.cellsOf 22 = 1 := by kernel_rfl
  obtain ⟨g, a, n', c, xs, rfl, rfl, s1, s2, s3, _⟩ := open_two (c0 := c0) (c1 := c1) (by simpa [c_b] using p0) (by simpa [c_s] using p1)
  exact ⟨(⟨g, a, n', c⟩, ⟨g, xs⟩), ⟨rfl, rfl⟩, AllSl.cons ⟨rfl, s1, s2⟩ (AllSl.nil _), s3⟩
theorem open_PB {H : Type} {enc : TypeId × Value → H} {W : World} {r : Reach} {b0 : Nat} {v : Value} {d : DataW H} {p : List MemPlace}
    (hv : Value.okWide Try.prog W r b0 40 v) (h : DataW.Trod enc Try.prog W 0 (fun _ => true) true 40 v d p) :
    ∃ (a : Option Addr) (n c : Nat) (l : List (BV × BD)), v = .slice a n c ∧ PSlB W a l ∧ l.length = n ∧ n ≤ maxLen ∧ ∀ p ∈ l, p.1.n ≤ maxLen := by
  obtain ⟨a, n, c, rfl⟩ := okWide_slice Try.underlying40 hv
  obtain ⟨fuel, hf⟩ := h
  rcases Go.Deep.open_slice Try.underlying40 hf with ⟨hcs, _⟩ | ⟨a', len, cap, m, n', D, Pl, hcs, _, hl, hm, hmm, _, hx⟩
  · simp only [Value.cells, List.cons.injEq, Value.slice.injEq, and_true] at hcs
    obtain ⟨rfl, rfl, rfl⟩ := hcs
    exact ⟨none, 0, 0, [], rfl, ⟨.inl rfl, fun p hp => by cases hp⟩, rfl, Nat.zero_le _, fun p hp => by cases hp⟩
  · simp only [Value.cells, List.cons.injEq, Value.slice.injEq, and_true] at hcs
    obtain ⟨rfl, rfl, rfl⟩ := hcs
    simp only [if_true] at hmm
    subst hmm
    have each : ∀ i, i < n → ∃ p : BV × BD, (W.cell? ((a'.add (i * 2)).add 0) = some (.bool p.1.g) ∧ W.cell? ((a'.add (i * 2)).add 1) = some (.slice p.1.a p.1.n p.1.c)) ∧ AllSl W [(p.1, p.2)] ∧ p.1.n ≤ maxLen := by
      intro i hi
      obtain ⟨cs, h1, h2⟩ := hx i (by omega)
      rw [Try.cells24] at h1
      obtain ⟨_, h3, h4⟩ := World.cells?_some h1
      match cs, h3 with
      | [c0, c1], _ =>
        obtain ⟨p, ⟨rfl, rfl⟩, hp⟩ := open_bigc h2
        exact ⟨p, ⟨h4 0 (by omega), h4 1 (by omega)⟩, hp⟩
    have inh : Inhabited (BV × BD) := ⟨(⟨false, none, 0, 0⟩, ⟨false, []⟩)⟩
    obtain ⟨f, hf⟩ := Go.Deep.choose_lt each
    refine ⟨some a', n, m, (List.range n).map f, rfl, ⟨?_, ?_⟩, by simp, Nat.le_trans hl hm, ?_⟩
    · by_cases h0 : n = 0
      · subst h0; exact .inl rfl
      · obtain ⟨b, off, spot⟩ := a'
        have hc := (hf 0 (by omega)).1.1
        have hspot : spot = none := by simpa [Addr.add] using World.cell?_spot hc
        subst hspot
        refine .inr ⟨b, off, rfl, ?_, fun i hi => ?_⟩
        · have := World.block_lt_of_cell? _ _ hc
          rw [addr_add, addr_add] at this
          exact this
        · have hi' : i < n := by simpa using hi
          have h1 := (hf i hi').1
          rw [addr_add, addr_add, addr_add] at h1
          simpa using h1
    · intro p hp
      obtain ⟨i, hi, rfl⟩ := List.mem_map.1 hp
      exact (hf i (List.mem_range.1 hi)).2.1
    · intro p hp
      obtain ⟨i, hi, rfl⟩ := List.mem_map.1 hp
      exact (hf i (List.mem_range.1 hi)).2.2
end Go.Proofs.Ytliaddmkomcmnaa
namespace Go.Proofs.Ytliaddmkomcmnaa
open Go.RowKit
set_option linter.unusedVariables false
set_option maxRecDepth 100000
set_option linter.unusedSimpArgs false

/-- The cells of some numbers from block G's start on. -/
def RowB (w : World) (G : Nat) (l : List (BV × BD)) : Prop := ∃ cur, w.heap[G]? = some (.cells cur 31 (0, 0)) ∧ ∀ j p, l[j]? = some p → cur[j * 2]? = some (.bool p.1.g) ∧ cur[j * 2 + 1]? = some (.slice p.1.a p.1.n p.1.c)
theorem RowB.lt {w : World} {G : Nat} {l : List (BV × BD)} (h : RowB w G l) : G < w.heap.size := by
  obtain ⟨cur, hg, _⟩ := h
  exact (Array.getElem?_eq_some_iff.1 hg).1
theorem RowB.cellsAt {w : World} {G : Nat} {l : List (BV × BD)} (h : RowB w G l) {i : Nat} {y : BV × BD} (hy : l[i]? = some y) : w.cell? ⟨G, i * 2, none⟩ = some (.bool y.1.g) ∧ w.cell? ⟨G, i * 2 + 1, none⟩ = some (.slice y.1.a y.1.n y.1.c) := by
  obtain ⟨cur, hg, hc⟩ := h
  have h1 := hc i y hy
  refine ⟨?_, ?_⟩ <;> rw [cell_of_row w G _ cur 31 (0, 0) hg]
  · exact h1.1
  · exact h1.2
theorem RowB.frozen {w : World} {G : Nat} {l : List (BV × BD)} (h : RowB w G l) (o : Nat) : w.frozen? ⟨G, o, none⟩ = false := by
  obtain ⟨cur, hg, hc⟩ := h
  exact frozen_of_row w G o cur 31 hg
theorem RowB.but {w w' : World} {G lo hi : Nat} {l : List (BV × BD)} (h : RowB w G l) (hb : But lo hi w w') (hG : G < lo ∨ hi ≤ G) : RowB w' G l := by
  obtain ⟨cur, hg, hc⟩ := h
  exact ⟨cur, by rw [hb.block G (Array.getElem?_eq_some_iff.1 hg).1 hG]; exact hg, hc⟩
theorem RowB.later {w w' : World} {G : Nat} {l : List (BV × BD)} (h : RowB w G l) (hb : Below w.heap.size w w') : RowB w' G l := by
  obtain ⟨cur, hg, hc⟩ := h
  exact ⟨cur, by rw [hb.block G (Array.getElem?_eq_some_iff.1 hg).1]; exact hg, hc⟩
theorem RowB.g0 {w : World} {G i : Nat} {pre post : List (BV × BD)} {y : BV × BD} (g : Bool) (h : RowB w G (pre ++ y :: post)) (hi : pre.length = i) : RowB (w.setCell ⟨G, i * 2, none⟩ (.bool g)) G (pre ++ ((⟨g, y.1.a, y.1.n, y.1.c⟩ : BV), (⟨g, y.2.xs⟩ : BD)) :: post) := by
  obtain ⟨cur, hg, hc⟩ := h
  subst hi
  refine ⟨cur.setIfInBounds (pre.length * 2) (.bool g), heap_setCell_same w G (pre.length * 2) cur 31 (.bool g) hg, fun j p hp => ?_⟩
  by_cases e : j = pre.length
  · subst e
    rw [mid_eq] at hp
    obtain rfl := Option.some.inj hp
    have h1 := hc pre.length y mid_eq
    have hs : pre.length * 2 < cur.size := (Array.getElem?_eq_some_iff.1 (h1.1)).1
    refine ⟨?_, ?_⟩
    · simp [hs]
    · rw [Array.getElem?_setIfInBounds_ne (by omega)]; exact h1.2
  · rw [mid_ne e (y' := y)] at hp
    have h1 := hc j p hp
    refine ⟨?_, ?_⟩
    · rw [Array.getElem?_setIfInBounds_ne (by omega)]; exact h1.1
    · rw [Array.getElem?_setIfInBounds_ne (by omega)]; exact h1.2
theorem RowB.data {w : World} {G : Nat} {pre post : List (BV × BD)} {v : BV} {d d' : BD} (h : RowB w G (pre ++ (v, d) :: post)) : RowB w G (pre ++ (v, d') :: post) := by
  obtain ⟨cur, hg, hc⟩ := h
  refine ⟨cur, hg, fun j p hp => ?_⟩
  by_cases e : j = pre.length
  · subst e
    rw [mid_eq] at hp
    obtain rfl := Option.some.inj hp
    exact hc pre.length (v, d) mid_eq
  · rw [mid_ne e (y' := (v, d))] at hp
    exact hc j p hp
theorem zipB_mid (pre post : List (BV × BD)) (y : BV × BD) : zipPB (pre ++ y :: post) = zipPB pre ++ (y.1, y.2) :: zipPB post := by simp [zipPB]

set_option maxHeartbeats 4000000 in
theorem markPB (G n c : Nat) (l : List (BV × BD)) (k : Int) (lo hi : Nat) (w : World) (hr : RowB w G l) (ho : AllOwn lo hi w (zipPB l)) (hn : l.length = n) (ml : ∀ p ∈ l, p.1.n ≤ 1048576) (hG : G < lo) (hH : lo ≤ hi) (k0 : 0 ≤ k) (k1 : k + (n : Int) + (lenPB l : Int) ≤ 3900000) :
    Calls Try.prog 18 #[.slice (some ⟨G, 0, none⟩) n c, .int .i64 k] w fun e w' => ∃ q : Int, e = .returned (.int .i64 q) ∧ 0 ≤ q ∧ But G hi w w' := by
  have HR := hide hr
  have HO := hide ho
  have HN := hide hn
  have ML := hide ml
  clear hr ho hn ml
  have hn1 : n ≤ 3900000 := by omega
  go_enter Try.func18, Try.ntmps18
  go_wp2
  go_loopw [1, 5] (fun kv iv wr => ∃ (i : Nat) (m a b : List (BV × BD)) (q : Int), i ≤ n ∧ iv = .int .i64 i ∧ kv = .int .i64 q ∧ 0 ≤ q ∧ m.length = i ∧ a.length = i ∧ Hid (l = a ++ b) ∧ Hid (q = k + (i : Int) + (lenPB a : Int)) ∧ Hid (RowB wr G (m ++ b)) ∧ Hid (AllOwn lo hi wr (zipPB (m ++ b))) ∧ Hid (But G hi w wr)) (fun _ iv _ => n - (intOf iv).toNat)
  case atStart => exact ⟨0, [], [], l, k, Nat.zero_le _, rfl, rfl, k0, rfl, rfl, hide rfl, hide (by simp [lenPB]), HR, HO, hide (But.refl _ _ _)⟩
  case round =>
    clear HR HO
    obtain ⟨i, m, a, b, q, hi', rfl, rfl, q0, pl, ha, EL, EQ, HR, HO, HB⟩ := hrel
    by_cases hlt : i < n
    · have hlt' : (i : Int) < (n : Int) := by omega
      obtain ⟨y, b', rfl⟩ : ∃ y b', b = y :: b' := by
        cases b with
        | nil => have h1 := unhide HN; rw [unhide EL, List.append_nil] at h1; omega
        | cons y b' => exact ⟨y, b', rfl⟩
      have LB : Hid ((y.1.n : Int) + (q + 1) ≤ 3900000) := hide (by
        have h1 := unhide EQ
        have h2 : lenPB l = lenPB a + (lenB y + lenPB b') := by rw [unhide EL, lenPB_append]; rfl
        have h3 : lenB y = y.1.n := rfl
        omega)
      have l1 : (y.1.n : Int) + (q + 1) ≤ 3900000 := unhide LB
      have m1 : y.1.n ≤ 1048576 := (unhide ML) y (by rw [unhide EL]; simp)
      obtain ⟨c0, c1⟩ := (unhide HR).cellsAt (i := i) (y := y) (by rw [← pl]; exact mid_eq)
      have fz := (unhide HR).frozen
      have gG : G < wr.heap.size := (unhide HR).lt
      have HR1 := hide ((unhide HR).g0 (sg q) pl)
      have HO1 := hide (AllOwn.resign (sg q) (by have h := unhide HO; rw [zipB_mid] at h; exact h) (w' := wr.setCell ⟨G, i * 2, none⟩ (.bool (sg q))) (fun k h1 _ => setCell_other (by omega)))
      have HB1 := hide ((unhide HB).set (p := ⟨G, i * 2, none⟩) (Nat.le_refl _) (by show G < hi; omega) (.bool (sg q)))
      go_wp2_with fail
      refine (mark_at ⟨sg q, y.1.a, y.1.n, y.1.c⟩ ⟨sg q, y.2.xs⟩ (zipPB m) (zipPB b') (q + 1) lo hi _ (unhide HO1) m1 (by omega) (by omega)).mono ?_
      rintro e w2 ⟨rfl, hbt, ho2⟩
      have HR2 : Hid (RowB w2 G ((m ++ [((⟨sg q, y.1.a, y.1.n, y.1.c⟩ : BV), (⟨sg q, marks (q + 1) y.1.n⟩ : BD))]) ++ b')) := hide (by rw [List.append_assoc]; exact ((unhide HR1).but hbt (.inl hG)).data)
      have HO2 : Hid (AllOwn lo hi w2 (zipPB ((m ++ [((⟨sg q, y.1.a, y.1.n, y.1.c⟩ : BV), (⟨sg q, marks (q + 1) y.1.n⟩ : BD))]) ++ b'))) := hide (by rw [List.append_assoc, List.singleton_append, zipB_mid]; exact ho2)
      have HB2 := hide ((unhide HB1).trans (hbt.wide (by omega) (Nat.le_refl _)))
      have EQ2 : Hid (q + 1 + (y.1.n : Int) = k + ((i + 1 : Nat) : Int) + (lenPB (a ++ [y]) : Int)) := hide (by
        have h1 := unhide EQ
        have h2 : lenPB (a ++ [y]) = lenPB a + (lenB y + 0) := by rw [lenPB_append]; rfl
        have h3 : lenB y = y.1.n := rfl
        omega)
      clear hbt ho2 c0 c1 fz HR HO HB HR1 HO1 HB1
      go_wp2
      go_roundw
      case rel => exact ⟨i + 1, _, a ++ [y], b', q + 1 + (y.1.n : Int), by omega, by go_num, rfl, by omega, by simp [pl], by simp [ha], hide (by rw [unhide EL, List.append_assoc]; rfl), EQ2, HR2, HO2, HB2⟩
      case measure => simp [intOf]; omega
    · go_wp2
      go_ret
      exact ⟨q, rfl, q0, unhide HB⟩
theorem markPB0 (a : Option Addr) (c : Nat) (k : Int) (w : World) : Calls Try.prog 18 #[.slice a 0 c, .int .i64 k] w fun e w' => e = .returned (.int .i64 k) ∧ w' = w := by
  go_enter Try.func18, Try.ntmps18
  go_wp2
  refine wp_loop_rounds 1 ?_
  rw [rounds_succ]
  go_wp2
  go_ret
  exact ⟨rfl, rfl⟩
end Go.Proofs.Ytliaddmkomcmnaa
namespace Go.Proofs.Ytliaddmkomcmnaa
open Go.RowKit
set_option linter.unusedVariables false
set_option maxRecDepth 100000
set_option linter.unusedSimpArgs false

/-- A slice of numbers that is the call's own: its row and its numbers in blocks from B to below E. -/
structure PRoB (B E : Nat) (w : World) (a : Option Addr) (n c : Nat) (l : List (BV × BD)) : Prop where
  len : l.length = n
  sz : n + lenPB l ≤ 3200000
  ml : ∀ p ∈ l, p.1.n ≤ 1048576
  row : n = 0 ∨ ∃ G lo hi, a = some ⟨G, 0, none⟩ ∧ B ≤ G ∧ G < lo ∧ lo ≤ hi ∧ hi ≤ E ∧ RowB w G l ∧ AllOwn lo hi w (zipPB l)
theorem PRoB.later {B E : Nat} {w w' : World} {a : Option Addr} {n c : Nat} {l : List (BV × BD)} (h : PRoB B E w a n c l) (hb : Below w.heap.size w w') : PRoB B E w' a n c l := by
  refine ⟨h.len, h.sz, h.ml, ?_⟩
  rcases h.row with e | ⟨G, lo, hi, e, h1, h2, h3, h4, h5, h6⟩
  · exact .inl e
  · exact .inr ⟨G, lo, hi, e, h1, h2, h3, h4, h5.later hb, h6.later hb⟩
theorem PRoB.sl {B E : Nat} {w : World} {a : Option Addr} {n c : Nat} {l : List (BV × BD)} (h : PRoB B E w a n c l) : PSlB w a l := by
  rcases h.row with e | ⟨G, lo, hi, e, h1, h2, h3, h4, h5, h6⟩
  · have hl : l = [] := List.length_eq_zero_iff.1 (by rw [h.len]; exact e)
    subst hl
    exact ⟨.inl rfl, fun p hp => by cases hp⟩
  · subst e
    refine ⟨.inr ⟨G, 0, rfl, h5.lt, fun i hi => ?_⟩, fun p hp x hx => h6.sl x (zipPB_mem hp hx)⟩
    have hc := h5.cellsAt (List.getElem?_eq_getElem hi)
    simpa using hc
theorem PRoB.lens {B E : Nat} {w : World} {a : Option Addr} {n c : Nat} {l : List (BV × BD)} (h : PRoB B E w a n c l) : ∀ p ∈ l, p.1.n ≤ maxLen := fun p hp => by
  have := h.ml p hp
  unfold maxLen
  omega
theorem PRoB.max {B E : Nat} {w : World} {a : Option Addr} {n c : Nat} {l : List (BV × BD)} (h : PRoB B E w a n c l) : n ≤ maxLen := by
  have := h.sz
  unfold maxLen
  omega
theorem markRB (B E : Nat) (a : Option Addr) (n c : Nat) (l : List (BV × BD)) (w : World) (h : PRoB B E w a n c l) (hE : E ≤ w.heap.size) :
    Calls Try.prog 18 #[.slice a n c, .int .i64 1] w fun e w' => ∃ q : Int, e = .returned (.int .i64 q) ∧ 0 ≤ q ∧ But B E w w' := by
  have hs := h.sz
  rcases h.row with e | ⟨G, lo, hi, e, h1, h2, h3, h4, h5, h6⟩
  · have hl : l = [] := List.length_eq_zero_iff.1 (by rw [h.len]; exact e)
    subst hl e
    refine (markPB0 a c 1 w).mono ?_
    rintro e w' ⟨rfl, rfl⟩
    exact ⟨1, rfl, by omega, But.refl _ _ _⟩
  · subst e
    refine (markPB G n c l 1 lo hi w h5 h6 h.len h.ml h2 h3 (by omega) (by omega)).mono ?_
    rintro e w' ⟨q, rfl, hq, hb⟩
    exact ⟨q, rfl, hq, hb.wide h1 h4⟩
theorem POwB.ro {lo hi : Nat} {w : World} {G n c : Nat} {l : List (BV × BD)} (h : POwB lo hi w G n c l) (hG : G < lo) (hl : lo ≤ hi) (sz : n + lenPB l ≤ 3200000) (ml : ∀ p ∈ l, p.1.n ≤ 1048576) : PRoB G hi w (some ⟨G, 0, none⟩) n c l := by
  refine ⟨h.len, sz, ml, .inr ⟨G, lo, hi, rfl, Nat.le_refl _, hG, hl, Nat.le_refl _, ?_, h.own⟩⟩
  obtain ⟨M, hr, hM⟩ := h.row
  rcases hr.2 with ⟨h', _⟩ | ⟨g', cap, cur, hv, _, hg, _, _, _, htake⟩
  · simp at h'
  simp only [Value.slice.injEq, Option.some.injEq, Addr.mk.injEq, and_true, true_and] at hv
  obtain ⟨rfl, rfl⟩ := hv
  refine ⟨cur, hg, fun j p hp => ?_⟩
  have hj : j < l.length := (List.getElem?_eq_some_iff.1 hp).1
  have hc := hM j hj
  have e : l[j] = p := by rw [List.getElem?_eq_getElem hj] at hp; exact Option.some.inj hp
  rw [e] at hc
  have hlen := h.len
  have up : ∀ t v, t < n * 2 → M[t]? = some v → cur[t]? = some v := fun t v ht hv => by
    rw [← htake, List.getElem?_take, if_pos ht] at hv
    simpa using hv
  exact ⟨up _ _ (by omega) hc.1, up _ _ (by omega) hc.2⟩
theorem PSlB.dataB {w : World} {a : Option Addr} {l : List (BV × BD)} (h : PSlB w a l) : ∀ p ∈ l, p.2.xs.length = p.1.n := fun p hp => (h.rd p hp).head.len
theorem lenPB_snd {w w' : World} {a a' : Option Addr} {l l' : List (BV × BD)} (h : PSlB w a l) (h' : PSlB w' a' l') (e : l.map Prod.snd = l'.map Prod.snd) : lenPB l = lenPB l' := by
  have key : ∀ k : List (BV × BD), (∀ p ∈ k, p.2.xs.length = p.1.n) → lenPB k = ((k.map Prod.snd).map fun d => d.xs.length).sum := fun k hk => by
    induction k with
    | nil => rfl
    | cons p k ih =>
      have h1 := hk p List.mem_cons_self
      have h2 := ih (fun q hq => hk q (List.mem_cons_of_mem _ hq))
      show lenB p + lenPB k = _
      rw [h2]
      show p.1.n + _ = p.2.xs.length + _
      rw [h1]
      rfl
  rw [key l h.dataB, key l' h'.dataB, e]
theorem ml_sndB {w w' : World} {a a' : Option Addr} {l l' : List (BV × BD)} (h : PSlB w a l) (h' : PSlB w' a' l') (e : l.map Prod.snd = l'.map Prod.snd) (ml : ∀ p ∈ l', p.1.n ≤ 1048576) : ∀ p ∈ l, p.1.n ≤ 1048576 := fun p hp => by
  have h1 : p.2 ∈ l'.map Prod.snd := by rw [← e]; exact List.mem_map.2 ⟨p, hp, rfl⟩
  obtain ⟨q, hq, e2⟩ := List.mem_map.1 h1
  have h2 := h.dataB p hp
  have h3 := h'.dataB q hq
  have h4 := ml q hq
  rw [e2] at h3
  omega
end Go.Proofs.Ytliaddmkomcmnaa
namespace Go.Proofs.Ytliaddmkomcmnaa
open Go.RowKit
set_option linter.unusedVariables false
set_option maxRecDepth 100000
set_option linter.unusedSimpArgs false

/-- A term at place i: good, and behind the first above 0. -/
def tOk (i : Nat) (d : BD) : Bool := goodB d.g d.xs && (decide (i = 0) || (!d.g && !decide (d.xs.length = 0)))
/-- Terms that are good, 1 to 60 of them. -/
def gT (ds : List BD) : Prop := (1 ≤ ds.length ∧ ds.length ≤ 60) ∧ ∀ j (h : j < ds.length), tOk j ds[j] = true
theorem tfitI (a : Option Addr) (n c : Nat) (w : World) (hm : n ≤ maxLen) : Calls Try.prog 58 #[.slice a n c] w fun e w' => e = .returned (.bool (decide (n ≤ 60))) ∧ w' = w := by
  unfold maxLen at hm
  by_cases h : n ≤ 60
  · have h1 : (n : Int) ≤ 60 := by omega
    rw [decide_eq_true h]
    go_enter Try.func58, Try.ntmps58
    go_wp2
    go_ret
    exact ⟨rfl, rfl⟩
  · have h1 : ¬ ((n : Int) ≤ 60) := by omega
    rw [decide_eq_false h]
    go_enter Try.func58, Try.ntmps58
    go_wp2
    go_ret
    exact ⟨rfl, rfl⟩

set_option maxHeartbeats 4000000 in
theorem goodTI (a : Option Addr) (n c : Nat) (l : List (BV × BD)) (w : World) (h : PArB w a n c l) :
    Calls Try.prog 67 #[.slice a n c] w fun e w' => ∃ b : Bool, e = .returned (.bool b) ∧ (b = true ↔ gT (l.map Prod.snd)) ∧ Below w.heap.size w w' := by
  have HS := hide h
  have HN := hide h.len
  have hm : n ≤ maxLen := Nat.le_trans h.cap h.top
  have CF := hide (fun w1 => tfitI a n c w1 hm)
  clear h
  unfold maxLen at hm
  by_cases h0 : n = 0
  · have NOT := hide (show ¬ gT (l.map Prod.snd) from fun h => by have := h.1.1; rw [List.length_map, unhide HN] at this; omega)
    have z0 : ((n : Int) == 0) = true := by simp [h0]
    clear h0
    go_enter Try.func67, Try.ntmps67
    go_wp2
    go_ret
    exact ⟨false, rfl, ⟨fun h => (by cases h), fun h => absurd h (unhide NOT)⟩, Below.refl _ _⟩
  have z0 : ((n : Int) == 0) = false := by simp; omega
  by_cases h6 : n ≤ 60
  · rw [decide_eq_true h6] at CF
    have LN := hide (show 1 ≤ (l.map Prod.snd).length ∧ (l.map Prod.snd).length ≤ 60 from by rw [List.length_map, unhide HN]; omega)
    go_enter Try.func67, Try.ntmps67
    go_wp2_with fail
    refine (unhide CF _).mono ?_
    rintro e w0 ⟨rfl, rfl⟩
    go_wp2
    go_loopw [15] (fun iv wr => ∃ (i : Nat), i ≤ n ∧ iv = .int .i64 i ∧ Hid (∀ j (h : j < (l.map Prod.snd).length), j < i → tOk j (l.map Prod.snd)[j] = true) ∧ Hid (Below w0.heap.size w0 wr)) (fun iv _ => n - (intOf iv).toNat)
    case atStart => exact ⟨0, Nat.zero_le _, rfl, hide (fun j h hj => absurd hj (Nat.not_lt_zero _)), hide (Below.refl _ _)⟩
    case round =>
      obtain ⟨i, hi, rfl, EA, HB⟩ := hrel
      by_cases hlt : i < n
      · have hlt' : (i : Int) < (n : Int) := by omega
        rcases (unhide HS).at_ with e | ⟨b, off, rfl, hb, hc⟩
        · exact absurd (unhide HN) (by rw [e]; simp; omega)
        have e0 := hc i (by rw [unhide HN]; exact hlt)
        have EI : Hid ((l.map Prod.snd)[i]'(by rw [List.length_map, unhide HN]; exact hlt) = (l[i]'(by rw [unhide HN]; exact hlt)).2) := hide (by simp)
        obtain ⟨y, hy⟩ : ∃ y, y = l[i]'(by rw [unhide HN]; exact hlt) := ⟨_, rfl⟩
        rw [← hy] at e0 EI
        have MY : Hid (y ∈ l) := hide (by rw [hy]; exact List.getElem_mem _)
        clear hy
        have E0 : wr.cell? ⟨b, off + i * 2, none⟩ = some (.bool y.1.g) := ((unhide HB).cell (p := ⟨b, off + i * 2, none⟩) hb).trans (e0.1)
        have E1 : wr.cell? ⟨b, off + i * 2 + 1, none⟩ = some (.slice y.1.a y.1.n y.1.c) := ((unhide HB).cell (p := ⟨b, off + i * 2 + 1, none⟩) hb).trans (e0.2)
        clear e0 hc
        have R0 := (unhide HS).rd y (unhide MY)
        have R1 := hide (R0.later (unhide HB))
        have ln := R0.head.ar.len
        have my : y.1.n ≤ maxLen := Nat.le_trans R0.head.ar.cap R0.head.ar.top
        have sgn : y.2.g = y.1.g := R0.head.sg.symm
        have C1 := hide (fun w1 (k : AllAr w1 [(y.1, y.2)]) => goodI_any y.1.g y.1.a y.1.n y.1.c y.2.xs w1 k.sl.head.sl ln my)
        have C2 := hide (fun w1 => nought_any y.1.g y.1.a y.1.n y.1.c w1 my)
        have CON : Hid (tOk i y.2 = true → ∀ j (h : j < (l.map Prod.snd).length), j < i + 1 → tOk j (l.map Prod.snd)[j] = true) := hide (fun ht j h hj => by
          by_cases e : j < i
          · exact unhide EA j h e
          · obtain rfl : j = i := by omega
            rw [unhide EI]
            exact ht)
        have NOT : Hid (tOk i y.2 = false → ¬ gT (l.map Prod.snd)) := hide (fun ht h => by
          have h2 := h.2 i (by rw [List.length_map, unhide HN]; exact hlt)
          rw [unhide EI, ht] at h2
          cases h2)
        have TT : Hid (tOk i y.2 = (goodB y.1.g y.2.xs && (decide (i = 0) || (!y.1.g && !decide (y.1.n = 0))))) := hide (by unfold tOk; rw [sgn, ln])
        clear R0 ln sgn EA
        unfold maxLen at my
        cases hg : goodB y.1.g y.2.xs
        · have NO := hide (unhide NOT (by rw [unhide TT, hg]; rfl))
          rw [hg] at C1
          clear hg NOT CON C2
          go_wp2_with fail
          refine (unhide C1 _ ((unhide R1).later ((Below.refl _ _).alloc (Nat.le_refl _) _))).mono ?_
          rintro e w1 ⟨rfl, hb1⟩
          have HB1 := hide (below_on (unhide HB) (ba hb1))
          clear hb1 E0 E1 C1
          go_wp2
          go_ret
          exact ⟨false, rfl, ⟨fun h => (by cases h), fun h => absurd h (unhide NO)⟩, unhide HB1⟩
        · rw [hg] at C1
          by_cases hi0 : i = 0
          · have YES := hide (unhide CON (by rw [unhide TT, hg, decide_eq_true hi0]; rfl))
            have j0 : ¬ ((i : Int) > 0) := by omega
            have j1 : ¬ (0 < (i : Int)) := by omega
            clear hg NOT CON C2 hi0
            go_wp2_with fail
            refine (unhide C1 _ ((unhide R1).later ((Below.refl _ _).alloc (Nat.le_refl _) _))).mono ?_
            rintro e w1 ⟨rfl, hb1⟩
            have k0 : w1.cell? ⟨wr.heap.size, 0, none⟩ = some (.bool y.1.g) := cell_later hb1 (by simp [go_sem])
            have k1 : w1.cell? ⟨wr.heap.size, 1, none⟩ = some (.slice y.1.a y.1.n y.1.c) := cell_later hb1 (by simp [go_sem])
            have HB1 := hide (below_on (unhide HB) (ba hb1))
            clear hb1 E0 E1
            go_wp2
            go_roundw
            case rel => exact ⟨i + 1, by omega, by go_num, YES, HB1⟩
            case measure => simp [intOf]; omega
          · have j0 : (i : Int) > 0 := by omega
            have j1 : 0 < (i : Int) := by omega
            cases hs : y.1.g
            · rw [hs] at C1 C2 E0
              by_cases hz : y.1.n = 0
              · have NO := hide (unhide NOT (by rw [unhide TT, hg, hs, decide_eq_true hz, decide_eq_false hi0]; rfl))
                rw [decide_eq_true hz] at C2
                clear hg NOT CON hz
                go_wp2_with fail
                refine (unhide C1 _ ((unhide R1).later ((Below.refl _ _).alloc (Nat.le_refl _) _))).mono ?_
                rintro e w1 ⟨rfl, hb1⟩
                have k0 : w1.cell? ⟨wr.heap.size, 0, none⟩ = some (.bool false) := cell_later hb1 (by simp [go_sem])
                have k1 : w1.cell? ⟨wr.heap.size, 1, none⟩ = some (.slice y.1.a y.1.n y.1.c) := cell_later hb1 (by simp [go_sem])
                have HB1 := hide (below_on (unhide HB) (ba hb1))
                clear hb1 E0 E1
                go_wp2_with fail
                refine (unhide C2 _).mono ?_
                rintro e w2 ⟨rfl, hb2⟩
                have HB2 := hide (below_on (unhide HB1) hb2)
                clear hb2 k0 k1 C1 C2
                go_wp2
                go_ret
                exact ⟨false, rfl, ⟨fun h => (by cases h), fun h => absurd h (unhide NO)⟩, unhide HB2⟩
              · have YES := hide (unhide CON (by rw [unhide TT, hg, hs, decide_eq_false hz]; simp))
                rw [decide_eq_false hz] at C2
                clear hg NOT CON hz
                go_wp2_with fail
                refine (unhide C1 _ ((unhide R1).later ((Below.refl _ _).alloc (Nat.le_refl _) _))).mono ?_
                rintro e w1 ⟨rfl, hb1⟩
                have k0 : w1.cell? ⟨wr.heap.size, 0, none⟩ = some (.bool false) := cell_later hb1 (by simp [go_sem])
                have k1 : w1.cell? ⟨wr.heap.size, 1, none⟩ = some (.slice y.1.a y.1.n y.1.c) := cell_later hb1 (by simp [go_sem])
                have HB1 := hide (below_on (unhide HB) (ba hb1))
                clear hb1 E0 E1
                go_wp2_with fail
                refine (unhide C2 _).mono ?_
                rintro e w2 ⟨rfl, hb2⟩
                have HB2 := hide (below_on (unhide HB1) hb2)
                clear hb2 k0 k1 C1 C2
                go_wp2
                go_roundw
                case rel => exact ⟨i + 1, by omega, by go_num, YES, HB2⟩
                case measure => simp [intOf]; omega
            · have NO := hide (unhide NOT (by rw [unhide TT, hg, hs, decide_eq_false hi0]; rfl))
              rw [hs] at C1 E0
              clear hg NOT CON C2
              go_wp2_with fail
              refine (unhide C1 _ ((unhide R1).later ((Below.refl _ _).alloc (Nat.le_refl _) _))).mono ?_
              rintro e w1 ⟨rfl, hb1⟩
              have k0 : w1.cell? ⟨wr.heap.size, 0, none⟩ = some (.bool true) := cell_later hb1 (by simp [go_sem])
              have k1 : w1.cell? ⟨wr.heap.size, 1, none⟩ = some (.slice y.1.a y.1.n y.1.c) := cell_later hb1 (by simp [go_sem])
              have HB1 := hide (below_on (unhide HB) (ba hb1))
              clear hb1 E0 E1
              go_wp2
              go_ret
              exact ⟨false, rfl, ⟨fun h => (by cases h), fun h => absurd h (unhide NO)⟩, unhide HB1⟩
      · have ALL := hide (show gT (l.map Prod.snd) from ⟨unhide LN, fun j h => unhide EA j h (by have h2 := h; rw [List.length_map, unhide HN] at h2; omega)⟩)
        clear EA
        go_wp2
        go_ret
        exact ⟨true, rfl, ⟨fun _ => unhide ALL, fun _ => rfl⟩, unhide HB⟩
  · have NOT := hide (show ¬ gT (l.map Prod.snd) from fun h => by have := h.1.2; rw [List.length_map, unhide HN] at this; omega)
    rw [decide_eq_false h6] at CF
    go_enter Try.func67, Try.ntmps67
    go_wp2_with fail
    refine (unhide CF _).mono ?_
    rintro e w0 ⟨rfl, rfl⟩
    go_wp2
    go_ret
    exact ⟨false, rfl, ⟨fun h => (by cases h), fun h => absurd h (unhide NOT)⟩, Below.refl _ _⟩
end Go.Proofs.Ytliaddmkomcmnaa
namespace Go.Proofs.Ytliaddmkomcmnaa
set_option linter.unusedVariables false
set_option maxRecDepth 100000
set_option linter.unusedSimpArgs false

section
variable {F : Fence} {n : Nat} {P : Program} {md : Region.Mode} {ops : Array Oper} {Q : Exit → Act → World → Prop}
theorem wpOpIn_weak {j : Nat} {K K' : Act → World → Prop} {a : Act} {w : World} (hk : ∀ a w, K a w → K' a w) (h : wpOpIn F n P ops Q j K a w) : wpOpIn F n P ops Q j K' a w := wpOpIn_mono hk h
/-- An operation that defers nothing does in a round what it does elsewhere. -/
theorem wpOpIn_round (l : Nat) (hro : F.round = none) {j : Nat} (hd : ∀ o, ops[j]? = some o → ∀ c, o.op ≠ .defer c) {K : Act → World → Prop} {a : Act} {w : World} (h : wpOpIn F n P ops Q j K a w) : wpOpIn (F.inRound l) n P ops Q j K a w := by
  unfold wpOpIn at h ⊢
  cases ho : ops[j]? with
  | none => rw [ho] at h; exact h
  | some o =>
    rw [ho] at h
    dsimp only at h ⊢
    split
    · rename_i hw
      rw [if_pos hw] at h
      unfold Oper.wpIn at h ⊢
      rw [hro, Oper.semAt_none] at h
      rw [Fence.inRound_round, Oper.semAt_some _ _ _ (hd o ho)]
      exact h
    · rename_i hw
      rw [if_neg hw] at h
      exact h
theorem wpAnyIn_round (l : Nat) (hro : F.round = none) (hd : ∀ (j : Nat) (o : Oper), ops[j]? = some o → ∀ c, o.op ≠ .defer c) : ∀ (fuel : Nat) (listed : Array Bool) (a : Act) (w : World), wpAnyIn F n P md ops Q fuel listed a w → wpAnyIn (F.inRound l) n P md ops Q fuel listed a w := by
  intro fuel
  induction fuel with
  | zero => intro listed a w h; exact h
  | succ fuel ih => intro listed a w h; exact ⟨h.1, fun i hi => wpOpIn_weak (fun a w hk => ih _ a w hk) (wpOpIn_round l hro (fun o ho => hd i o ho) (h.2 i hi))⟩
/-- .. with C behind each operation that S does not name. -/
def wpAnyC (F : Fence) (n : Nat) (P : Program) (md : Region.Mode) (ops : Array Oper) (Q : Exit → Act → World → Prop) (C : Act → World → Prop) (S : Nat → Bool) : Nat → Array Bool → Act → World → Prop
  | 0, listed, a, w => Region.ready md ops listed = [] ∧ Q .normal a w
  | fuel + 1, listed, a, w => (Region.ready md ops listed = [] → Q .normal a w) ∧ ∀ i ∈ Region.ready md ops listed, wpOpIn F n P ops Q i (fun a' w' => (S i = false → C a' w') ∧ wpAnyC F n P md ops Q C S fuel (listed.setIfInBounds i true) a' w') a w
variable {C : Act → World → Prop} {S : Nat → Bool}
theorem wpAnyC.any : ∀ (fuel : Nat) (listed : Array Bool) (a : Act) (w : World), wpAnyC F n P md ops Q C S fuel listed a w → wpAnyIn F n P md ops Q fuel listed a w := by
  intro fuel
  induction fuel with
  | zero => intro listed a w h; exact h
  | succ fuel ih => intro listed a w h; exact ⟨h.1, fun i hi => wpOpIn_weak (fun a w hk => ih _ a w hk.2) (h.2 i hi)⟩
/-- An operation with the same place to write to, that answers v. -/
def same (o : Oper) (v : Value) : Oper := { o with op := .assign (.const v), guard := none }
theorem apart_same {x y : Oper} (v : Value) (h : x.apart ops y = true) : (same x v).apart ops y = true := by
  unfold Oper.apart at h ⊢
  rw [Bool.and_eq_true] at h ⊢
  refine ⟨h.1, ?_⟩
  cases y.dst with
  | none => rfl
  | some d => simp [same, Oper.looksAt, Op.operands]
theorem yields_same (o : Oper) (v : Value) (a : Act) : YieldsFenced P ops (same o v) v a := by
  refine ⟨.inl ⟨rfl, fun w => rfl⟩, fun w => rfl⟩
theorem held_first {i : Nat} {oi : Oper} {v : Value} {late : List Nat} (hro : F.round = none) (hi : ops[i]? = some oi) (hsel : ∀ (j : Nat) (o : Oper) cs b, ops[j]? = some o → o.op ≠ .select cs b)
    (hQ : ∀ c a w, Q (.panic c) (a.put oi.dst v) w → Q (.panic c) a w)
    (hl : ∀ j ∈ late, ∀ oj, ops[j]? = some oj → ∃ e ∈ oj.after, Region.binds md e = true ∧ (e.on = i ∨ e.on ∈ late)) (hS : ∀ j, S j = true → j ∈ late)
    (hC : ∀ a w, C (a.put oi.dst v) w → C a w) (hCp : ∀ a w, C a w → C (a.put oi.dst v) w)
    (hy : ∀ a w, C a w → Region.wanted oi (yielded ops a.tmps) = true ∧ (execOp a.eval oi).run P w = .ok (.value v) w ∧ oi.about P w a.eval = none) :
    ∀ (fuel : Nat) (listed : Array Bool) (a : Act) (w : World),
      (∀ j oj, ops[j]? = some oj → j ≠ i → listed.getD j true = false → (∀ e ∈ oj.after, Region.binds md e = true → e.on ≠ i) → oi.apart ops oj = true) →
      i ∈ Region.ready md ops listed → (∀ j ∈ late, listed.getD j false = false) → C a w →
      wpAnyC F n P md ops Q C S fuel (listed.setIfInBounds i true) (a.put oi.dst v) w → wpAnyC F n P md ops Q C S (fuel + 1) listed a w := by
  have now : ∀ (K : Act → World → Prop) (a : Act) (w : World), C a w → K (a.put oi.dst v) w → wpOpIn F n P ops Q i K a w := fun K a w hc hk => by
    obtain ⟨h1, h2, h3⟩ := hy a w hc
    unfold wpOpIn
    simp only [hi, h1, if_true, Oper.wpIn, hro, Oper.semAt_none, h2, Oper.uponIn]
    exact ⟨fun f hf => (by rw [h3] at hf; cases hf), hk⟩
  intro fuel
  induction fuel with
  | zero =>
    intro listed a w _ hr _ hc H
    refine ⟨fun h => (by rw [h] at hr; cases hr), fun j hj => ?_⟩
    by_cases hji : j = i
    · subst hji
      exact now _ a w hc ⟨fun _ => hCp a w hc, H⟩
    · have := ready_mono hj hji
      rw [H.1] at this
      cases this
  | succ fuel ih =>
    intro listed a w hfree hr hlt hc H
    refine ⟨fun h => (by rw [h] at hr; cases hr), fun j hj => ?_⟩
    by_cases hji : j = i
    · subst hji
      exact now _ a w hc ⟨fun _ => hCp a w hc, H⟩
    · have h1 := H.2 j (ready_mono hj hji)
      obtain ⟨hjun, oj, hoj, hall⟩ := mem_ready.1 hj
      have h0 := (mem_ready.1 hr).1
      have hni : listed.getD i false = false := by
        rcases Nat.lt_or_ge i listed.size with h' | h'
        · simp [h'] at h0 ⊢; exact h0
        · simp [Array.getElem?_eq_none h']
      have hnot : ∀ e ∈ oj.after, Region.binds md e = true → e.on ≠ i := fun e he hb heq => by
        have h2 := hall e he hb
        rw [heq, hni] at h2
        cases h2
      have hjl : j ∉ late := fun hm => by
        obtain ⟨e, he, hb, ho⟩ := hl j hm oj hoj
        have h2 := hall e he hb
        rcases ho with ho | ho
        · rw [ho, hni] at h2; cases h2
        · rw [hlt _ ho] at h2; cases h2
      have hSj : S j = false := by
        cases hs : S j
        · rfl
        · exact absurd (hS j hs) hjl
      have h2 := wpOpIn_put (oi := same oi v) hro hoj (apart_same v (hfree j oj hoj hji hjun hnot)) (fun cs b h => (by cases h)) (fun cs b => hsel j oj cs b hoj) hQ (yields_same oi v a) h1
      have hfree' : ∀ k ok, ops[k]? = some ok → k ≠ i → (listed.setIfInBounds j true).getD k true = false →
          (∀ e ∈ ok.after, Region.binds md e = true → e.on ≠ i) → oi.apart ops ok = true := fun k ok hk hki hun hno => by
        refine hfree k ok hk hki ?_ hno
        by_cases hjk : j = k
        · subst hjk; exact hjun
        · rw [Go.getD_set_ne true hjk] at hun; exact hun
      have hlt' : ∀ k ∈ late, (listed.setIfInBounds j true).getD k false = false := fun k hk => by
        rw [Go.getD_set_ne false (fun e => hjl (by rw [e]; exact hk))]
        exact hlt k hk
      refine wpOpIn_weak (fun a' w' h3 => ?_) h2
      have hca : C a' w' := hC a' w' (h3.2.1 hSj)
      refine ⟨fun _ => hca, ih (listed.setIfInBounds j true) a' w' hfree' (ready_mono hr (Ne.symm hji)) hlt' hca ?_⟩
      rw [Array.setIfInBounds_comm _ _ hji]
      exact h3.2.2
/-- The same, by what can be reckoned. -/
theorem held_take {i s : Nat} {oi : Oper} {v : Value} {fuel : Nat} {listed : Array Bool} {a : Act} {w : World} (late : List Nat) (hro : F.round = none) (hi : ops[i]? = some oi) (hs : Region.noSelect ops = true)
    (hf : Region.free md ops listed i = true) (hr : (Region.ready md ops listed).contains i = true)
    (hl : (late.all fun j => match ops[j]? with | some oj => oj.after.any (fun e => Region.binds md e && (e.on == i || late.contains e.on)) | none => true) = true)
    (hS : late.contains s = true) (ht : (late.all fun j => listed.getD j false == false) = true)
    (hQ : ∀ c a w, Q (.panic c) (a.put oi.dst v) w → Q (.panic c) a w)
    (hC : ∀ a w, C (a.put oi.dst v) w → C a w) (hCp : ∀ a w, C a w → C (a.put oi.dst v) w)
    (hy : ∀ a w, C a w → Region.wanted oi (yielded ops a.tmps) = true ∧ (execOp a.eval oi).run P w = .ok (.value v) w ∧ oi.about P w a.eval = none)
    (hc : C a w) (h : wpAnyC F n P md ops Q C (· == s) fuel (listed.setIfInBounds i true) (a.put oi.dst v) w) : wpAnyC F n P md ops Q C (· == s) (fuel + 1) listed a w := by
  refine held_first (late := late) hro hi (Region.noSelect_spec hs) hQ (fun j hj oj hoj => ?_) (fun j hj => ?_) hC hCp hy fuel listed a w (Region.free_spec hi hf) (by simpa using hr) (fun j hj => ?_) hc h
  · have := List.all_eq_true.1 hl j hj
    rw [hoj] at this
    obtain ⟨e, he, hb⟩ := Array.any_eq_true'.1 this
    rw [Bool.and_eq_true, Bool.or_eq_true] at hb
    exact ⟨e, he, hb.1, by simpa using hb.2⟩
  · have e : j = s := by simpa using hj
    subst e
    simpa using hS
  · have := List.all_eq_true.1 ht j hj
    simpa using this
theorem wpAnyC.weak {C' : Act → World → Prop} (hc : ∀ a w, C' a w → C a w) : ∀ (fuel : Nat) (listed : Array Bool) (a : Act) (w : World), wpAnyC F n P md ops Q C' S fuel listed a w → wpAnyC F n P md ops Q C S fuel listed a w := by
  intro fuel
  induction fuel with
  | zero => intro listed a w h; exact h
  | succ fuel ih => intro listed a w h; exact ⟨h.1, fun i hi => wpOpIn_weak (fun a w hk => ⟨fun e => hc a w (hk.1 e), ih _ a w hk.2⟩) (h.2 i hi)⟩
/-- Where one operation alone may come up. -/
theorem held_step {i : Nat} {o : Oper} {fuel : Nat} {listed : Array Bool} {a : Act} {w : World} (hr : Region.ready md ops listed = [i]) (ho : ops[i]? = some o)
    (h : ∀ K' : Act → World → Prop, (∀ a w, (S i = false → C a w) → wpAnyC F n P md ops Q C S fuel (listed.setIfInBounds i true) a w → K' a w) → if Region.wanted o (yielded ops a.tmps) = true then Oper.wpIn F n P o a w K' Q else (∀ f, o.about P w a.eval = some f → F.fn f) ∧ K' (a.put o.dst undef) w) : wpAnyC F n P md ops Q C S (fuel + 1) listed a w := by
  refine ⟨fun e => (by rw [hr] at e; cases e), fun j hj => ?_⟩
  rw [hr] at hj
  have hj := List.mem_singleton.1 hj
  subst hj
  exact wpOpIn_step ho (fun K' hK => h K' (fun a w h1 h2 => hK a w ⟨h1, h2⟩))
theorem held_done {fuel : Nat} {listed : Array Bool} {a : Act} {w : World} (hr : Region.ready md ops listed = []) (h : Q .normal a w) : wpAnyC F n P md ops Q C S fuel listed a w := by
  cases fuel with
  | zero => exact ⟨hr, h⟩
  | succ fuel => exact ⟨fun _ => h, by rw [hr]; simp⟩
end
end Go.Proofs.Ytliaddmkomcmnaa
namespace Go.Proofs.Ytliaddmkomcmnaa
open Go.RowKit Go.Shelf
set_option linter.unusedVariables false
set_option maxRecDepth 100000
set_option linter.unusedSimpArgs false
attribute [local go_sem] Oper.semAt_some

/-- One step; all of them. -/
def tvF (v : Int × Int) (t : Int) : Int × Int := (t * v.1 + v.2, v.1)
def tv (ts : List Int) : Int × Int := ts.foldl tvF (1, 0)
theorem tv_snoc (ts : List Int) (t : Int) : tv (ts ++ [t]) = tvF (tv ts) t := by simp [tv]
structure Tg (k : Nat) (v : Int × Int) : Prop where
  kn : Bd v.1 (41 * k + 1)
  kd : Bd v.2 (41 * k + 1)
theorem tg_step {k : Nat} {v : Int × Int} {t : Int} (h : Tg k v) (ht : Bd t 40) : Tg (k + 1) (tvF v t) :=
  ⟨(((ht.mul h.kn).mono (L' := 41 * k + 41) (by omega)).add (h.kd.mono (by omega))).mono (by omega), h.kn.mono (by omega)⟩
theorem tg_from (ts : List Int) (h : ∀ t ∈ ts, Bd t 40) : ∀ (k : Nat) (v : Int × Int), Tg k v → Tg (k + ts.length) (ts.foldl tvF v) := by
  induction ts with
  | nil => intro k v hv; exact hv
  | cons c cs ih =>
    intro k v hv
    have := ih (fun d hd => h d (List.mem_cons_of_mem _ hd)) (k + 1) _ (tg_step hv (h c List.mem_cons_self))
    rw [List.foldl_cons, List.length_cons, show k + (cs.length + 1) = k + 1 + cs.length by omega]
    exact this
theorem tg_all (ts : List Int) (h : ∀ t ∈ ts, Bd t 40) : Tg ts.length (tv ts) := by
  have := tg_from ts h 0 (1, 0) ⟨Bd.small (by decide), Bd.small (by decide)⟩
  rw [Nat.zero_add] at this
  exact this
theorem ev_put {a : Act} {d k : Nat} {v : Value} (h : d ≠ k) : (a.put (some d) v).tmps[k]?.getD undef = a.tmps[k]?.getD undef := by
  show (a.tmps.setIfInBounds d v)[k]?.getD undef = _
  rw [Array.getElem?_setIfInBounds_ne h]
/-- Limbs lie in no box. -/
theorem Ow.unbox {lo hi F : Nat} {w w' : World} {b : BV} {V : Int} {g : Bool} (h : Ow lo hi w b V) (hb : But F (F + 1) w w') (hc : w.cell? ⟨F, 0, none⟩ = some (.bool g)) : Ow lo hi w' b V := by
  obtain ⟨xs, k1, k2, k3⟩ := h
  have o : AllOwn lo hi w' [(b, ⟨decide (V < 0), xs⟩)] := ⟨fun p hp => by
    have hp := List.mem_singleton.1 hp
    subst hp
    have q := k1.own _ (List.mem_singleton.2 rfl)
    refine ⟨q.sg, ?_, q.len⟩
    rcases q.own with e | ⟨bb, cur, ea, h1, h2, hg, hx⟩
    · exact .inl e
    · by_cases hx0 : xs = []
      · exact .inl hx0
      refine .inr ⟨bb, cur, ea, h1, h2, (hb.block bb (Array.getElem?_eq_some_iff.1 hg).1 ?_).trans hg, hx⟩
      have hne : bb ≠ F := fun e => by
        subst e
        have h0 := hx 0 (by have := List.length_pos_iff.2 hx0; exact this)
        have h3 : w.cell? ⟨bb, 0, none⟩ = some (.int .i64 (xs.getD 0 0)) := by
          simp only [World.cell?, hg]
          simpa using h0
        rw [h3] at hc
        cases hc
      omega, List.pairwise_singleton _ _⟩
  exact ⟨xs, o, fun p hp => ⟨(k2 p hp).sg, ⟨(o.sl p hp).sl, (k2 p hp).ar.len, (k2 p hp).ar.cap, (k2 p hp).ar.top, (k2 p hp).ar.addr⟩⟩, k3⟩
theorem Ow.ck {lo hi : Nat} {w w' : World} {b : BV} {V : Int} (h : Ow lo hi w b V) (c : CK w w') : Ow lo hi w' b V := by
  obtain ⟨xs, k1, k2, k3⟩ := h
  exact ⟨xs, c.own k1, c.ar k2, k3⟩
theorem Ow.nought (lo hi : Nat) (w : World) : Ow lo hi w ⟨false, none, 0, 0⟩ 0 := by
  refine ⟨[], AllOwn.one ⟨rfl, .inl rfl, rfl⟩, fun p hp => ?_, ⟨fun x hx => (by cases hx), rfl, rfl⟩⟩
  have hp := List.mem_singleton.1 hp
  subst hp
  exact ⟨rfl, ⟨.inl rfl, rfl, Nat.le_refl _, Nat.zero_le _, .inl ⟨rfl, rfl⟩⟩⟩
/-- What the walk keeps. -/
structure TmI (w : World) (V : Int × Int) (G : Nat) (W : World) : Prop where
  bel : Below w.heap.size w W
  r0 : W.cell? ⟨w.heap.size, 0, none⟩ = some (.bool false)
  r1 : W.cell? ⟨w.heap.size, 1, none⟩ = some (.slice none 0 0)
  r2 : W.cell? ⟨w.heap.size, 2, none⟩ = some (.bool false)
  r3 : W.cell? ⟨w.heap.size, 3, none⟩ = some (.slice none 0 0)
  rf : ∀ o, W.frozen? ⟨w.heap.size, o, none⟩ = false
  gf : ∀ o, W.frozen? ⟨G, o, none⟩ = false
  lt : G + 1 < W.heap.size
  val : ∃ (u : QV) (lo mid hi : Nat), W.cell? ⟨G, 0, none⟩ = some (.bool u.num.g) ∧ W.cell? ⟨G, 1, none⟩ = some (.slice u.num.a u.num.n u.num.c) ∧ W.cell? ⟨G, 2, none⟩ = some (.bool u.den.g) ∧ W.cell? ⟨G, 3, none⟩ = some (.slice u.den.a u.den.n u.den.c) ∧ w.heap.size + 1 ≤ lo ∧ lo ≤ mid ∧ mid ≤ hi ∧ hi ≤ W.heap.size ∧ Ow mid hi W u.num V.1 ∧ Ow lo mid W u.den V.2
theorem TmI.ck {w W W' : World} {V : Int × Int} {G : Nat} (h : TmI w V G W) (c : CK W W') (hb : Below w.heap.size w W') : TmI w V G W' := by
  obtain ⟨u, lo, mid, hi, c0, c1, c2, c3, h1, h2, h3, h4, h5, h6⟩ := h.val
  exact ⟨hb, c.cell h.r0, c.cell h.r1, c.cell h.r2, c.cell h.r3, fun o => (c.frozen (q := ⟨w.heap.size, o, none⟩) h.r0 rfl).trans (h.rf o), fun o => (c.frozen (q := ⟨G, o, none⟩) c0 rfl).trans (h.gf o), Nat.lt_of_lt_of_le h.lt c.size,
    ⟨u, lo, mid, hi, c.cell c0, c.cell c1, c.cell c2, c.cell c3, h1, h2, h3, Nat.le_trans h4 c.size, h5.ck c, h6.ck c⟩⟩
theorem tmI_own {β : Type} {w : World} {G B : Nat} (f : β → Int × Int) (hB : w.heap.size ≤ B) : OwnFrom B (fun s W => TmI w (f s) G W) := fun s A C row hs hg hr =>
  hs.ck (CK.of_grown hg (fun r e => (hr r e).2)) (hs.bel.grown hg hs.bel.size (fun k e => Nat.le_trans hB (hr k e).1))
theorem finB_rev {β : Type} (l : List (BV × BD)) (n : Nat) (hl : l.length = n) (f : BV × BD → β) : (List.finRange n).reverse.map (fun k => f (l[k.1]'(by rw [hl]; exact k.2))) = l.reverse.map f := by
  subst hl
  rw [List.map_reverse, List.map_reverse]
  congr 1
  apply List.ext_getElem <;> simp
theorem tmI_set {w W w2 w3 : World} {u : QV} {v : BV} {V : Int × Int} {t : Int} {G lo mid hi : Nat} {y0 : Bool} {y1 y2 y3 : Value} (hi' : TmI w V G W) (h1 : Below W.heap.size W w2) (h2 : Below w2.heap.size w2 w3)
    (c0 : w3.cell? ⟨G, 0, none⟩ = some (.bool y0)) (c1 : w3.cell? ⟨G, 1, none⟩ = some y1) (c2 : w3.cell? ⟨G, 2, none⟩ = some y2) (c3 : w3.cell? ⟨G, 3, none⟩ = some y3) (gfr : ∀ o, w3.frozen? ⟨G, o, none⟩ = false)
    (l1 : w.heap.size + 1 ≤ lo) (l2 : lo ≤ mid) (l3 : mid ≤ hi) (l4 : hi ≤ W.heap.size) (ou : Ow mid hi W u.num V.1) (ow : Ow w2.heap.size w3.heap.size w3 v (t * V.1 + V.2)) (hG : w.heap.size + 1 ≤ G) :
    KeepsOthers W (((((w3.setCell ⟨G, 0, none⟩ (.bool v.g)).setCell ⟨G, 1, none⟩ (.slice v.a v.n v.c)).setCell ⟨G, 2, none⟩ (.bool u.num.g)).setCell ⟨G, 3, none⟩ (.slice u.num.a u.num.n u.num.c))) ∧ But G (G + 1) W (((((w3.setCell ⟨G, 0, none⟩ (.bool v.g)).setCell ⟨G, 1, none⟩ (.slice v.a v.n v.c)).setCell ⟨G, 2, none⟩ (.bool u.num.g)).setCell ⟨G, 3, none⟩ (.slice u.num.a u.num.n u.num.c))) ∧ TmI w (tvF V t) G (((((w3.setCell ⟨G, 0, none⟩ (.bool v.g)).setCell ⟨G, 1, none⟩ (.slice v.a v.n v.c)).setCell ⟨G, 2, none⟩ (.bool u.num.g)).setCell ⟨G, 3, none⟩ (.slice u.num.a u.num.n u.num.c))) := by
  have hb : Below W.heap.size W w3 := below_on h1 h2
  have bt : But G (G + 1) w3 (((((w3.setCell ⟨G, 0, none⟩ (.bool v.g)).setCell ⟨G, 1, none⟩ (.slice v.a v.n v.c)).setCell ⟨G, 2, none⟩ (.bool u.num.g)).setCell ⟨G, 3, none⟩ (.slice u.num.a u.num.n u.num.c))) := (((((But.refl _ _ _).set (p := ⟨G, 0, none⟩) (Nat.le_refl _) (Nat.lt_succ_self _) _).set (p := ⟨G, 1, none⟩) (Nat.le_refl _) (Nat.lt_succ_self _) _).set (p := ⟨G, 2, none⟩) (Nat.le_refl _) (Nat.lt_succ_self _) _).set (p := ⟨G, 3, none⟩) (Nat.le_refl _) (Nat.lt_succ_self _) _)
  have bw : But G (G + 1) W (((((w3.setCell ⟨G, 0, none⟩ (.bool v.g)).setCell ⟨G, 1, none⟩ (.slice v.a v.n v.c)).setCell ⟨G, 2, none⟩ (.bool u.num.g)).setCell ⟨G, 3, none⟩ (.slice u.num.a u.num.n u.num.c))) := (But.of_below hb).trans bt
  have s2 := h1.size
  have s3 := h2.size
  have sl := hi'.lt
  have sw := hi'.bel.size
  refine ⟨(keeps_of_below hb).trans ((((KeepsOthers.setCell _ _ _).trans (KeepsOthers.setCell _ _ _)).trans (KeepsOthers.setCell _ _ _)).trans (KeepsOthers.setCell _ _ _)), bw, ?_⟩
  refine ⟨bt.below (below_on hi'.bel hb) (by omega) (by have := hb.size; omega), bw.cell hi'.r0 (.inl (by omega)), bw.cell hi'.r1 (.inl (by omega)), bw.cell hi'.r2 (.inl (by omega)), bw.cell hi'.r3 (.inl (by omega)), ?_, ?_, Nat.lt_of_lt_of_le hi'.lt bw.size, ?_⟩
  · intro o
    exact (World.frozen?_of_block (a := ⟨w.heap.size, o, none⟩) (bw.block _ (by show w.heap.size < _; omega) (.inl (by show w.heap.size < _; omega)))).trans (hi'.rf o)
  · intro o
    simp only [World.frozen?_setCell]
    exact gfr o
  · exact ⟨⟨v, u.num⟩, mid, w2.heap.size, w3.heap.size, by simp [go_sem, c0, c1, c2, c3], by simp [go_sem, c0, c1, c2, c3], by simp [go_sem, c0, c1, c2, c3], by simp [go_sem, c0, c1, c2, c3], by omega, by omega, by omega, bt.size, ow.unbox bt c0, ((ou.wide (Nat.le_refl _) (by omega)).later hb).unbox bt c0⟩
theorem AllOwn.swap {lo hi : Nat} {w : World} {p q : BV × BD} (h : AllOwn lo hi w [p, q]) : AllOwn lo hi w [q, p] := by
  refine ⟨fun x hx => h.own x (by simp at hx ⊢; exact hx.symm), ?_⟩
  have h1 := (List.pairwise_cons.1 h.ap).1 q (by simp)
  refine List.pairwise_cons.2 ⟨fun x hx => ?_, List.pairwise_singleton _ _⟩
  have hx := List.mem_singleton.1 hx
  subst hx
  exact h1.symm

set_option maxRecDepth 100000 in
set_option maxHeartbeats 4000000 in
theorem ratTI (a : Option Addr) (n c : Nat) (l : List (BV × BD)) (w : World) (h : PArB w a n c l) (hg : ∀ y ∈ l, IsB w y.1 (sv y.2.g y.2.xs) ∧ Bd (sv y.2.g y.2.xs) 40) (hn : n ≤ 60) :
    Calls Try.prog 69 #[.slice a n c] w (OutQ w (tv (l.reverse.map fun y => sv y.2.g y.2.xs)).1 (tv (l.reverse.map fun y => sv y.2.g y.2.xs)).2) := by
  have hl := h.len
  have HP := hide h
  have HG := hide hg
  clear h hg
  have B0 := hide (show Below w.heap.size w (w.alloc (.cells #[.bool false, .slice none 0 0, .bool false, .slice none 0 0] 33)) from (Below.refl _ _).alloc (by simp) _)
  refine (callsIn_wide (n := 6)).1 ?_
  refine callsIn_of_wp_marks Try.func69 rfl trivial ?_ rfl
  simp only [Try.ntmps69, List.size_toArray, List.length_cons, List.length_nil, Nat.reduceAdd, Nat.reduceSub, Array.replicate_succ, Array.replicate_zero, List.push_toArray, List.append_toArray, List.nil_append, List.cons_append]
  gi_wp2_with (refine ⟨trivial, ?_⟩; gi_at_call 115; refine (callsIn_wide.2 (ofI_v 1 _ (by omega) (by omega))).mono ?_; rintro e w1 ⟨b1, zs0, rfl, hb1, o1, a1, m1⟩)
  have s1 : w.heap.size + 1 ≤ w1.heap.size := by have := hb1.size; simp at this; omega
  replace o1 := o1.wide (lo' := w.heap.size + 1) (by simp) (Nat.le_refl _)
  have HB1 := hide (below_on (unhide B0) hb1)
  have O1 := hide (outN_ow o1 a1 m1)
  have R0 : Hid (w1.cell? ⟨w.heap.size, 0, none⟩ = some (.bool false)) := hide (cell_later hb1 (by simp [go_sem]))
  have R1 : Hid (w1.cell? ⟨w.heap.size, 1, none⟩ = some (.slice none 0 0)) := hide (cell_later hb1 (by simp [go_sem]))
  have R2 : Hid (w1.cell? ⟨w.heap.size, 2, none⟩ = some (.bool false)) := hide (cell_later hb1 (by simp [go_sem]))
  have R3 : Hid (w1.cell? ⟨w.heap.size, 3, none⟩ = some (.slice none 0 0)) := hide (cell_later hb1 (by simp [go_sem]))
  have RF : Hid (∀ o, w1.frozen? ⟨w.heap.size, o, none⟩ = false) := hide (fun o => frozen_later hb1 (by simp) (by simp [go_sem]))
  clear hb1 o1 a1 m1 B0
  gi_wp2_with (refine ⟨trivial, ?_⟩; gi_at_call 116; refine (backB_in Fence.wide _ trivial rfl _ _ _ _).mono ?_; rintro e w' ⟨rfl, rfl⟩)
  obtain ⟨W0, hW0⟩ : ∃ W0, (w1.alloc (.cells #[.bool b1.g, .slice b1.a b1.n b1.c, .bool false, .slice none 0 0] 33)).alloc (.cells #[.slice a n c] 28) = W0 := ⟨_, rfl⟩
  have sz0 : W0.heap.size = w1.heap.size + 2 := by rw [← hW0]; simp
  have hbz : Below w1.heap.size w1 W0 := by rw [← hW0]; exact ((Below.refl _ _).alloc (Nat.le_refl _) _).alloc (by simp) _
  have hcs : W0.cell? ⟨w1.heap.size + 1, 0, none⟩ = some (.slice a n c) := by rw [← hW0]; simp [go_sem]
  have E0 : Hid (TmI w (tv []) w1.heap.size W0) := hide ⟨below_on (unhide HB1) hbz, cell_later hbz (unhide R0), cell_later hbz (unhide R1), cell_later hbz (unhide R2), cell_later hbz (unhide R3),
    fun o => frozen_later hbz (by omega) ((unhide RF) o), fun o => by rw [← hW0]; simp [go_sem], by omega,
    ⟨⟨b1, ⟨false, none, 0, 0⟩⟩, w.heap.size + 1, w.heap.size + 1, w1.heap.size, by rw [← hW0]; simp [go_sem], by rw [← hW0]; simp [go_sem], by rw [← hW0]; simp [go_sem], by rw [← hW0]; simp [go_sem], Nat.le_refl _, Nat.le_refl _, s1, by omega, (unhide O1).later hbz, Ow.nought _ _ _⟩⟩
  have HP0 := hide (below_on (unhide HB1) hbz)
  rw [hW0]
  clear R0 R1 R2 R3 RF O1 hbz hW0
  refine wpIn_rangeFunc_ownH rfl (by omega) (gf := 151) (lb := #[.pointer (some ⟨w1.heap.size + 1, 0, none⟩)]) rfl trivial (enters_of Try.func151 (by kernel_rfl) rfl)
    (backB_stops Fence.wide _ trivial rfl (by omega) (w1.heap.size + 1) w1.heap.size n c a l hl (by omega) w W0 (unhide HP).at_ (unhide HP0) (by omega) ⟨by omega, by omega⟩ hcs) KB.trans (fun W t o o' h _ _ _ => KB.put W t o o' h) (Below.refl _ _) (fun _ => rfl)
    (fun pre W => TmI w (tv (pre.map fun k => sv (l[k.1]'(by rw [hl]; exact k.2)).2.g (l[k.1]'(by rw [hl]; exact k.2)).2.xs)) w1.heap.size W) (fun _ _ _ => False) (tmI_own (w := w) (G := w1.heap.size) (B := W0.heap.size) (fun pre : List (Fin n) => tv (pre.map fun k => sv (l[k.1]'(by rw [hl]; exact k.2)).2.g (l[k.1]'(by rw [hl]; exact k.2)).2.xs)) (by omega)) (fun _ _ _ _ _ h _ _ => h) (unhide E0)
    (fun k a' W => ∃ Bx, w1.heap.size < Bx ∧ W.cell? ⟨Bx, 0, none⟩ = some (.bool (l[k.1]'(by rw [hl]; exact k.2)).1.g) ∧ W.cell? ⟨Bx, 1, none⟩ = some (.slice (l[k.1]'(by rw [hl]; exact k.2)).1.a (l[k.1]'(by rw [hl]; exact k.2)).1.n (l[k.1]'(by rw [hl]; exact k.2)).1.c) ∧ a' = { tmps := #[.slice a n c, undef, .pointer (some ⟨w.heap.size, 0, none⟩), .pointer (some ⟨w1.heap.size, 0, none⟩), undef, .pointer (some ⟨Bx, 0, none⟩), .agg #[.bool b1.g, .slice b1.a b1.n b1.c], .agg #[.bool b1.g, .slice b1.a b1.n b1.c, .bool false, .slice none 0 0], .slice a n c, .func (.func 151) #[] #[.pointer (some ⟨w1.heap.size + 1, 0, none⟩)], .int .i64 (k.1 : Nat), .agg #[.bool (l[k.1]'(by rw [hl]; exact k.2)).1.g, .slice (l[k.1]'(by rw [hl]; exact k.2)).1.a (l[k.1]'(by rw [hl]; exact k.2)).1.n (l[k.1]'(by rw [hl]; exact k.2)).1.c], undef, undef, undef, undef, undef, undef, undef, undef, undef, undef, undef], defers := [] })
    (fun k a' s A B row hs hg hr => by obtain ⟨Bx, h0, h1, h2, h5⟩ := hs; have ck := CK.of_grown hg (fun r e => (hr r e).2); exact ⟨Bx, h0, ck.cell h1, ck.cell h2, h5⟩) ?assign ?body ?done ?stop
  case assign =>
    rintro t pre k W K hi hK
    have sW := hi.lt
    have HI := hide hi
    clear hi
    gi_wp2
    have al : Below W.heap.size W (W.alloc (.cells #[.bool (l[k.1]'(by rw [hl]; exact k.2)).1.g, .slice (l[k.1]'(by rw [hl]; exact k.2)).1.a (l[k.1]'(by rw [hl]; exact k.2)).1.n (l[k.1]'(by rw [hl]; exact k.2)).1.c] 31)) := (Below.refl _ _).alloc (Nat.le_refl _) _
    exact hK _ _ ((KeepsOthers.alloc _ _).from _) (KB.of_but (But.of_below al) (by omega)) ((unhide HI).ck (CK.of_below al) (below_on (unhide HI).bel al)) ⟨W.heap.size, by omega, by simp [go_sem], by simp [go_sem], rfl⟩
  case body =>
    rintro t pre k a' W ht ⟨r, hr⟩ hi ⟨Bx, hBx, T0, T1, rfl⟩ hlen
    have tlt : t < W.heap.size := (Array.getElem?_eq_some_iff.1 hr).1
    have hmx : Try.prog.follows .mixedOrders = true := by kernel_rfl
    have d1 : 1 ≤ 6 - 1 - 1 := by omega
    have gfr := hi.gf
    have MY : Hid ((l[k.1]'(by rw [hl]; exact k.2)) ∈ l) := hide (List.getElem_mem _)
    have CP : Hid (tv ((pre ++ [k]).map fun k => sv (l[k.1]'(by rw [hl]; exact k.2)).2.g (l[k.1]'(by rw [hl]; exact k.2)).2.xs) = tvF (tv (pre.map fun k => sv (l[k.1]'(by rw [hl]; exact k.2)).2.g (l[k.1]'(by rw [hl]; exact k.2)).2.xs)) (sv (l[k.1]'(by rw [hl]; exact k.2)).2.g (l[k.1]'(by rw [hl]; exact k.2)).2.xs)) := hide (by rw [List.map_append]; exact tv_snoc _ _)
    have VG : Hid (∃ j, j ≤ 60 ∧ Tg j (tv (pre.map fun k => sv (l[k.1]'(by rw [hl]; exact k.2)).2.g (l[k.1]'(by rw [hl]; exact k.2)).2.xs))) := hide ⟨_, by rw [List.length_map]; omega, tg_all _ (fun d hd => by
      obtain ⟨k', _, rfl⟩ := List.mem_map.1 hd
      exact ((unhide HG) (l[k'.1]'(by rw [hl]; exact k'.2)) (List.getElem_mem _)).2)⟩
    have UU := hide hi.val
    have HI := hide hi
    clear hi
    obtain ⟨V2, hV2⟩ : ∃ V2, V2 = tv ((pre ++ [k]).map fun k => sv (l[k.1]'(by rw [hl]; exact k.2)).2.g (l[k.1]'(by rw [hl]; exact k.2)).2.xs) := ⟨_, rfl⟩
    rw [← hV2] at CP
    have HV2 := hide hV2
    clear hV2
    generalize tv (pre.map fun k => sv (l[k.1]'(by rw [hl]; exact k.2)).2.g (l[k.1]'(by rw [hl]; exact k.2)).2.xs) = V at *
    generalize (l[k.1]'(by rw [hl]; exact k.2)) = y at *
    obtain ⟨u, lo, mid, hi, c0, c1, c2, c3, g1, g2, g3, g4, g5, g6⟩ := unhide UU
    obtain ⟨j, hj, hvg⟩ := unhide VG
    have GG := hide (And.intro g1 (And.intro g2 (And.intro g3 g4)))
    have OU := hide g5
    have IN := hide g5.is
    have ID := hide g6.is
    have IY := hide ((((unhide HG) y (unhide MY)).1).later (unhide HI).bel)
    have BY := hide ((unhide HG) y (unhide MY)).2
    have VJ := hide hvg
    generalize sv y.2.g y.2.xs = T at *
    clear g1 g2 g3 g4 g5 g6 hvg UU VG
    have sW : W0.heap.size ≤ W.heap.size := by omega
    gi_wp2
    refine wpIn_region_any hmx ?_
    simp only [List.size_toArray, List.length_cons, List.length_nil, Nat.reduceAdd, Array.replicate_succ, Array.replicate_zero, List.push_toArray, List.nil_append, List.cons_append]
    change wpAnyIn _ _ _ _ _ _ _ _ _ (World.drew _)
    refine wpAnyIn_round (F := Fence.wide) t rfl (fun j o ho c => by
      rcases j with _ | _ | _ | _ | _ | _ | _ | _ | _ | _ | _ | j <;> first | (cases ho; intro e; cases e) | cases ho) _ _ _ _ ?_
    refine wpAnyC.any (C := (fun a' w' => Below W.heap.size W w' ∧ a'.tmps[3]?.getD undef = .pointer (some ⟨w1.heap.size, 0, none⟩) ∧ a'.tmps[5]?.getD undef = .pointer (some ⟨Bx, 0, none⟩))) (S := (· == 10)) _ _ _ _ ?_
    refine held_take (i := 1) (v := .pointer (some ⟨w1.heap.size, 0, none⟩)) [2, 3, 6, 9, 10] rfl rfl (by kernel_rfl) (by kernel_rfl) (by kernel_rfl) (by kernel_rfl) rfl (by kernel_rfl) (fun c a w h => h) (fun a w ⟨hb, e3, e5⟩ => ⟨hb, (ev_put (by decide)).symm.trans e3, (ev_put (by decide)).symm.trans e5⟩) (fun a w ⟨hb, e3, e5⟩ => ⟨hb, (ev_put (by decide)).trans e3, (ev_put (by decide)).trans e5⟩) (fun a w ⟨hb, e3, e5⟩ => ⟨rfl, (by simp [go_sem, execOp, e3]), rfl⟩) ⟨((Below.refl _ _).drew), rfl, rfl⟩ ?_
    simp only [Act.put, List.setIfInBounds_toArray, List.set_cons_succ, List.set_cons_zero]
    refine held_take (i := 4) (v := .pointer (some ⟨w1.heap.size, 2, none⟩)) [5, 6, 9, 10] rfl rfl (by kernel_rfl) (by kernel_rfl) (by kernel_rfl) (by kernel_rfl) rfl (by kernel_rfl) (fun c a w h => h) (fun a w ⟨hb, e3, e5⟩ => ⟨hb, (ev_put (by decide)).symm.trans e3, (ev_put (by decide)).symm.trans e5⟩) (fun a w ⟨hb, e3, e5⟩ => ⟨hb, (ev_put (by decide)).trans e3, (ev_put (by decide)).trans e5⟩) (fun a w ⟨hb, e3, e5⟩ => ⟨rfl, (by simp [go_sem, execOp, e3]), rfl⟩) ⟨((Below.refl _ _).drew), rfl, rfl⟩ ?_
    simp only [Act.put, List.setIfInBounds_toArray, List.set_cons_succ, List.set_cons_zero]
    refine held_take (i := 7) (v := .pointer (some ⟨w1.heap.size, 0, none⟩)) [8, 9, 10] rfl rfl (by kernel_rfl) (by kernel_rfl) (by kernel_rfl) (by kernel_rfl) rfl (by kernel_rfl) (fun c a w h => h) (fun a w ⟨hb, e3, e5⟩ => ⟨hb, (ev_put (by decide)).symm.trans e3, (ev_put (by decide)).symm.trans e5⟩) (fun a w ⟨hb, e3, e5⟩ => ⟨hb, (ev_put (by decide)).trans e3, (ev_put (by decide)).trans e5⟩) (fun a w ⟨hb, e3, e5⟩ => ⟨rfl, (by simp [go_sem, execOp, e3]), rfl⟩) ⟨((Below.refl _ _).drew), rfl, rfl⟩ ?_
    simp only [Act.put, List.setIfInBounds_toArray, List.set_cons_succ, List.set_cons_zero]
    refine wpAnyC.weak (C' := (fun a' w' => Below W.heap.size W w' ∧ a'.tmps[3]?.getD undef = .pointer (some ⟨w1.heap.size, 0, none⟩) ∧ a'.tmps[5]?.getD undef = .pointer (some ⟨Bx, 0, none⟩) ∧ a'.tmps[13]?.getD undef = .pointer (some ⟨w1.heap.size, 0, none⟩) ∧ a'.tmps[16]?.getD undef = .pointer (some ⟨w1.heap.size, 2, none⟩) ∧ a'.tmps[19]?.getD undef = .pointer (some ⟨w1.heap.size, 0, none⟩))) (fun a w h => ⟨h.1, h.2.1, h.2.2.1⟩) _ _ _ _ ?_
    refine held_take (i := 0) (v := .agg #[.bool y.1.g, .slice y.1.a y.1.n y.1.c]) [3, 6, 9, 10] rfl rfl (by kernel_rfl) (by kernel_rfl) (by kernel_rfl) (by kernel_rfl) rfl (by kernel_rfl) (fun c a w h => h) (fun a w ⟨hb, e3, e5, e13, e16, e19⟩ => ⟨hb, (ev_put (by decide)).symm.trans e3, (ev_put (by decide)).symm.trans e5, (ev_put (by decide)).symm.trans e13, (ev_put (by decide)).symm.trans e16, (ev_put (by decide)).symm.trans e19⟩) (fun a w ⟨hb, e3, e5, e13, e16, e19⟩ => ⟨hb, (ev_put (by decide)).trans e3, (ev_put (by decide)).trans e5, (ev_put (by decide)).trans e13, (ev_put (by decide)).trans e16, (ev_put (by decide)).trans e19⟩) (fun a w ⟨hb, e3, e5, e13, e16, e19⟩ => ⟨rfl, (by have k0 := cell_later hb T0; have k1 := cell_later hb T1; simp [go_sem, execOp, e5, k0, k1]), rfl⟩) ⟨((Below.refl _ _).drew), rfl, rfl, rfl, rfl, rfl⟩ ?_
    simp only [Act.put, List.setIfInBounds_toArray, List.set_cons_succ, List.set_cons_zero]
    refine held_take (i := 2) (v := .agg #[.bool u.num.g, .slice u.num.a u.num.n u.num.c]) [3, 6, 9, 10] rfl rfl (by kernel_rfl) (by kernel_rfl) (by kernel_rfl) (by kernel_rfl) rfl (by kernel_rfl) (fun c a w h => h) (fun a w ⟨hb, e3, e5, e13, e16, e19⟩ => ⟨hb, (ev_put (by decide)).symm.trans e3, (ev_put (by decide)).symm.trans e5, (ev_put (by decide)).symm.trans e13, (ev_put (by decide)).symm.trans e16, (ev_put (by decide)).symm.trans e19⟩) (fun a w ⟨hb, e3, e5, e13, e16, e19⟩ => ⟨hb, (ev_put (by decide)).trans e3, (ev_put (by decide)).trans e5, (ev_put (by decide)).trans e13, (ev_put (by decide)).trans e16, (ev_put (by decide)).trans e19⟩) (fun a w ⟨hb, e3, e5, e13, e16, e19⟩ => ⟨rfl, (by have k0 := cell_later hb c0; have k1 := cell_later hb c1; simp [go_sem, execOp, e13, k0, k1]), rfl⟩) ⟨((Below.refl _ _).drew), rfl, rfl, rfl, rfl, rfl⟩ ?_
    simp only [Act.put, List.setIfInBounds_toArray, List.set_cons_succ, List.set_cons_zero]
    refine held_take (i := 5) (v := .agg #[.bool u.den.g, .slice u.den.a u.den.n u.den.c]) [6, 9, 10] rfl rfl (by kernel_rfl) (by kernel_rfl) (by kernel_rfl) (by kernel_rfl) rfl (by kernel_rfl) (fun c a w h => h) (fun a w ⟨hb, e3, e5, e13, e16, e19⟩ => ⟨hb, (ev_put (by decide)).symm.trans e3, (ev_put (by decide)).symm.trans e5, (ev_put (by decide)).symm.trans e13, (ev_put (by decide)).symm.trans e16, (ev_put (by decide)).symm.trans e19⟩) (fun a w ⟨hb, e3, e5, e13, e16, e19⟩ => ⟨hb, (ev_put (by decide)).trans e3, (ev_put (by decide)).trans e5, (ev_put (by decide)).trans e13, (ev_put (by decide)).trans e16, (ev_put (by decide)).trans e19⟩) (fun a w ⟨hb, e3, e5, e13, e16, e19⟩ => ⟨rfl, (by have k0 := cell_later hb c2; have k1 := cell_later hb c3; simp [go_sem, execOp, e16, k0, k1]), rfl⟩) ⟨((Below.refl _ _).drew), rfl, rfl, rfl, rfl, rfl⟩ ?_
    simp only [Act.put, List.setIfInBounds_toArray, List.set_cons_succ, List.set_cons_zero]
    refine held_take (i := 8) (v := .agg #[.bool u.num.g, .slice u.num.a u.num.n u.num.c]) [9, 10] rfl rfl (by kernel_rfl) (by kernel_rfl) (by kernel_rfl) (by kernel_rfl) rfl (by kernel_rfl) (fun c a w h => h) (fun a w ⟨hb, e3, e5, e13, e16, e19⟩ => ⟨hb, (ev_put (by decide)).symm.trans e3, (ev_put (by decide)).symm.trans e5, (ev_put (by decide)).symm.trans e13, (ev_put (by decide)).symm.trans e16, (ev_put (by decide)).symm.trans e19⟩) (fun a w ⟨hb, e3, e5, e13, e16, e19⟩ => ⟨hb, (ev_put (by decide)).trans e3, (ev_put (by decide)).trans e5, (ev_put (by decide)).trans e13, (ev_put (by decide)).trans e16, (ev_put (by decide)).trans e19⟩) (fun a w ⟨hb, e3, e5, e13, e16, e19⟩ => ⟨rfl, (by have k0 := cell_later hb c0; have k1 := cell_later hb c1; simp [go_sem, execOp, e19, k0, k1]), rfl⟩) ⟨((Below.refl _ _).drew), rfl, rfl, rfl, rfl, rfl⟩ ?_
    simp only [Act.put, List.setIfInBounds_toArray, List.set_cons_succ, List.set_cons_zero]
    refine held_step (i := 3) (by kernel_rfl) rfl (fun K hK => ?_)
    go_simp
    refine ⟨trivial, ?_⟩
    refine (callsIn_wide.2 (mulI_v y.1 u.num T V.1 _ (unhide IY).drew (unhide IN).drew ((unhide BY).mono (by omega)) ((unhide VJ).kn.mono (by omega)))).mono ?_
    rintro e w2 ⟨mm, lz, rfl, hb1, o2, a2, m1⟩
    have hbx := below_of_drew hb1
    refine hK _ _ (fun _ => ⟨hbx, rfl, rfl, rfl, rfl, rfl⟩) ?_
    clear hK K
    have IM := hide (outN_ow o2 a2 m1).is
    replace ID := hide ((unhide ID).later hbx)
    have HB1 := hide hbx
    clear hbx hb1 o2 a2 m1
    simp only [List.setIfInBounds_toArray, List.set_cons_succ, List.set_cons_zero]
    refine held_step (i := 6) (by kernel_rfl) rfl (fun K hK => ?_)
    go_simp
    refine ⟨trivial, ?_⟩
    refine (callsIn_wide.2 (addI_v mm u.den (T * V.1) V.2 _ (unhide IM) (unhide ID) (((unhide BY).mul (unhide VJ).kn).mono (by omega)) ((unhide VJ).kd.mono (by omega)))).mono ?_
    rintro e w3 ⟨v, lz', rfl, hb2, o3, a3, n1⟩
    have hb3 := below_on (unhide HB1) hb2
    refine hK _ _ (fun _ => ⟨hb3, rfl, rfl, rfl, rfl, rfl⟩) ?_
    clear hK K
    have O3 := hide (outN_ow o3 a3 n1)
    have HB2 := hide hb2
    replace gfr := fun o => frozen_later hb3 (World.block_lt_of_cell? _ _ c0) (gfr o)
    replace c0 := cell_later hb3 c0
    replace c1 := cell_later hb3 c1
    replace c2 := cell_later hb3 c2
    replace c3 := cell_later hb3 c3
    clear hb2 o3 a3 n1
    simp only [List.setIfInBounds_toArray, List.set_cons_succ, List.set_cons_zero]
    refine held_step (i := 9) (by kernel_rfl) rfl (fun K hK => ?_)
    go_simp
    refine hK _ _ (fun _ => ⟨hb3, rfl, rfl, rfl, rfl, rfl⟩) ?_
    clear hK K hb3 T0 T1 IM ID IY IN
    simp only [List.setIfInBounds_toArray, List.set_cons_succ, List.set_cons_zero]
    refine held_step (i := 10) (by kernel_rfl) rfl (fun K hK => ?_)
    go_simp
    refine hK _ _ (fun e => by cases e) ?_
    clear hK K
    simp only [List.setIfInBounds_toArray, List.set_cons_succ, List.set_cons_zero]
    refine held_done (by kernel_rfl) ?_
    gi_wp2
    obtain ⟨q1, q2, q3⟩ := tmI_set (t := T) (u := u) (unhide HI) (unhide HB1) (unhide HB2) c0 c1 c2 c3 gfr (unhide GG).1 (unhide GG).2.1 (unhide GG).2.2.1 (unhide GG).2.2.2 (unhide OU) (unhide O3) (by omega)
    refine ⟨q1.from _, KB.of_but q2 (by omega), ?_⟩
    show TmI w (tv ((pre ++ [k]).map _)) _ _
    rw [← unhide HV2, unhide CP]
    exact q3
  case done =>
    rintro D ys W hD rfl hi hK
    have EV : Hid ((List.finRange n).reverse.map (fun k => sv (l[k.1]'(by rw [hl]; exact k.2)).2.g (l[k.1]'(by rw [hl]; exact k.2)).2.xs) = l.reverse.map fun y => sv y.2.g y.2.xs) := hide (finB_rev l n hl fun y => sv y.2.g y.2.xs)
    replace hi : TmI w (tv ((List.finRange n).reverse.map (fun k => sv (l[k.1]'(by rw [hl]; exact k.2)).2.g (l[k.1]'(by rw [hl]; exact k.2)).2.xs))) w1.heap.size W := hi
    rw [unhide EV] at hi
    obtain ⟨V, hV⟩ : ∃ V, V = tv (l.reverse.map fun y => sv y.2.g y.2.xs) := ⟨_, rfl⟩
    rw [← hV] at hi
    have HV := hide hV
    clear hV
    obtain ⟨u, lo, mid, hi', c0, c1, c2, c3, g1, g2, g3, g4, g5, g6⟩ := hi.val
    have r0 := hi.r0
    have r1 := hi.r1
    have r2 := hi.r2
    have r3 := hi.r3
    have rf := hi.rf
    have HI := hide hi
    obtain ⟨us, zs, o1, a1, n1, n2⟩ := g6.two g5 g2 g3
    have O1 := hide o1
    have A1 := hide a1
    have N1 := hide (And.intro n1 n2)
    clear hi g5 g6 o1 a1 n1 n2
    gi_wp2
    have bt : But w.heap.size (w.heap.size + 1) W (((((W.setCell ⟨w.heap.size, 0, none⟩ (.bool u.num.g)).setCell ⟨w.heap.size, 1, none⟩ (.slice u.num.a u.num.n u.num.c)).setCell ⟨w.heap.size, 2, none⟩ (.bool u.den.g)).setCell ⟨w.heap.size, 3, none⟩ (.slice u.den.a u.den.n u.den.c))) := (((((But.refl _ _ _).set (p := ⟨w.heap.size, 0, none⟩) (Nat.le_refl _) (Nat.lt_succ_self _) _).set (p := ⟨w.heap.size, 1, none⟩) (Nat.le_refl _) (Nat.lt_succ_self _) _).set (p := ⟨w.heap.size, 2, none⟩) (Nat.le_refl _) (Nat.lt_succ_self _) _).set (p := ⟨w.heap.size, 3, none⟩) (Nat.le_refl _) (Nat.lt_succ_self _) _)
    have q0 : (((((W.setCell ⟨w.heap.size, 0, none⟩ (.bool u.num.g)).setCell ⟨w.heap.size, 1, none⟩ (.slice u.num.a u.num.n u.num.c)).setCell ⟨w.heap.size, 2, none⟩ (.bool u.den.g)).setCell ⟨w.heap.size, 3, none⟩ (.slice u.den.a u.den.n u.den.c))).cell? ⟨w.heap.size, 0, none⟩ = some (.bool u.num.g) := by simp [go_sem, r0, r1, r2, r3]
    have q1 : (((((W.setCell ⟨w.heap.size, 0, none⟩ (.bool u.num.g)).setCell ⟨w.heap.size, 1, none⟩ (.slice u.num.a u.num.n u.num.c)).setCell ⟨w.heap.size, 2, none⟩ (.bool u.den.g)).setCell ⟨w.heap.size, 3, none⟩ (.slice u.den.a u.den.n u.den.c))).cell? ⟨w.heap.size, 1, none⟩ = some (.slice u.num.a u.num.n u.num.c) := by simp [go_sem, r0, r1, r2, r3]
    have q2 : (((((W.setCell ⟨w.heap.size, 0, none⟩ (.bool u.num.g)).setCell ⟨w.heap.size, 1, none⟩ (.slice u.num.a u.num.n u.num.c)).setCell ⟨w.heap.size, 2, none⟩ (.bool u.den.g)).setCell ⟨w.heap.size, 3, none⟩ (.slice u.den.a u.den.n u.den.c))).cell? ⟨w.heap.size, 2, none⟩ = some (.bool u.den.g) := by simp [go_sem, r0, r1, r2, r3]
    have q3 : (((((W.setCell ⟨w.heap.size, 0, none⟩ (.bool u.num.g)).setCell ⟨w.heap.size, 1, none⟩ (.slice u.num.a u.num.n u.num.c)).setCell ⟨w.heap.size, 2, none⟩ (.bool u.den.g)).setCell ⟨w.heap.size, 3, none⟩ (.slice u.den.a u.den.n u.den.c))).cell? ⟨w.heap.size, 3, none⟩ = some (.slice u.den.a u.den.n u.den.c) := by simp [go_sem, r0, r1, r2, r3]
    have hK' : (((((W.setCell ⟨w.heap.size, 0, none⟩ (.bool u.num.g)).setCell ⟨w.heap.size, 1, none⟩ (.slice u.num.a u.num.n u.num.c)).setCell ⟨w.heap.size, 2, none⟩ (.bool u.den.g)).setCell ⟨w.heap.size, 3, none⟩ (.slice u.den.a u.den.n u.den.c))).heap[D]? = some (.deferred (some [])) := (bt.block D (Array.getElem?_eq_some_iff.1 hK).1 (.inr (by omega))).trans hK
    generalize ((((W.setCell ⟨w.heap.size, 0, none⟩ (.bool u.num.g)).setCell ⟨w.heap.size, 1, none⟩ (.slice u.num.a u.num.n u.num.c)).setCell ⟨w.heap.size, 2, none⟩ (.bool u.den.g)).setCell ⟨w.heap.size, 3, none⟩ (.slice u.den.a u.den.n u.den.c)) = W' at *
    have ck : CK W' (W'.putObj D (.deferred none)) := CK.of_grown (grownBy_putObj' W' D _) (fun r e => by cases e; exact ⟨_, hK', rfl⟩)
    replace q0 := ck.cell q0
    replace q1 := ck.cell q1
    replace q2 := ck.cell q2
    replace q3 := ck.cell q3
    refine ⟨by simp, .inl ⟨_, _, rfl, run_takeDeferred hK', ?_⟩⟩
    refine ⟨.agg #[.bool u.num.g, .slice u.num.a u.num.n u.num.c, .bool u.den.g, .slice u.den.a u.den.n u.den.c], by simp [results, Try.results69, go_sem, q0, q1, q2, q3], ?_⟩
    rw [← unhide HV]
    have ow := (unhide O1).but bt (.inr (by omega))
    have ar := ck.ar (ar_fin bt (unhide O1) (unhide A1) (by omega))
    have bb : Below w.heap.size w W' := bt.below (unhide HI).bel (by omega) (unhide HI).bel.size
    have sz := bt.size
    have szp := ck.size
    exact ⟨u, zs, us, rfl, bb.trans ⟨rfl, rfl, rfl, szp, fun i hi => World.putObj_heap_other (by omega)⟩, ((ck.own ow).wide (by omega) (by omega)).swap, ar.tail.append (fun p hp => by have hp := List.mem_singleton.1 hp; subst hp; exact ar.head), (unhide N1).2, (unhide N1).1⟩
  case stop =>
    rintro D c pre W _ _ h _
    exact h.elim
end Go.Proofs.Ytliaddmkomcmnaa
namespace Go.Proofs.Ytliaddmkomcmnaa
open Go.RowKit
set_option linter.unusedVariables false
set_option maxRecDepth 100000
set_option linter.unusedSimpArgs false

def gTb (ds : List BD) : Bool := decide ((1 ≤ ds.length ∧ ds.length ≤ 60) ∧ ∀ j (h : j < ds.length), tOk j ds[j] = true)
theorem gTb_iff (ds : List BD) : gTb ds = true ↔ gT ds := by unfold gTb gT; exact decide_eq_true_iff
def tvd (ds : List BD) : Int × Int := tv (ds.reverse.map fun d => sv d.g d.xs)
theorem tvd_eq (l : List (BV × BD)) : tv (l.reverse.map fun y => sv y.2.g y.2.xs) = tvd (l.map Prod.snd) := by
  unfold tvd
  rw [← List.map_reverse, List.map_map]
  rfl
theorem tv_from (ts : List Int) (h : ∀ t ∈ ts, 0 < t) : ∀ v : Int × Int, 0 < v.1 → 0 ≤ v.2 → 0 < (ts.foldl tvF v).1 ∧ 0 ≤ (ts.foldl tvF v).2 := by
  induction ts with
  | nil => intro v h1 h2; exact ⟨h1, h2⟩
  | cons t ts ih =>
    intro v h1 h2
    have h3 := Int.mul_pos (h t List.mem_cons_self) h1
    exact ih (fun x hx => h x (List.mem_cons_of_mem _ hx)) (tvF v t) (by show 0 < t * v.1 + v.2; omega) (by show 0 ≤ v.1; omega)
theorem gT_good {ds : List BD} (h : gT ds) {d : BD} (hd : d ∈ ds) : goodB d.g d.xs = true := by
  obtain ⟨j, hj, rfl⟩ := List.mem_iff_getElem.1 hd
  have := h.2 j hj
  unfold tOk at this
  rw [Bool.and_eq_true] at this
  exact this.1
theorem gT_pos {d0 : BD} {ds : List BD} (h : gT (d0 :: ds)) {d : BD} (hd : d ∈ ds) : 0 < sv d.g d.xs := by
  obtain ⟨j, hj, rfl⟩ := List.mem_iff_getElem.1 hd
  have := h.2 (j + 1) (by simp; omega)
  unfold tOk at this
  simp only [List.getElem_cons_succ, Bool.and_eq_true, Bool.or_eq_true, decide_eq_true_eq, Bool.not_eq_true', decide_eq_false_iff_not] at this
  obtain ⟨h1, h2 | ⟨h3, h4⟩⟩ := this
  · omega
  · obtain ⟨k1, k2⟩ := goodB_neg h1
    rw [h3] at k1
    have n1 : ¬ (sv ds[j].g ds[j].xs < 0) := fun e => by have := k1.1 (by rw [h3] at e; exact e); cases this
    have n2 : ¬ (sv ds[j].g ds[j].xs = 0) := fun e => h4 (k2.1 e)
    omega
theorem gT_den {ds : List BD} (h : gT ds) : 0 < (tvd ds).2 := by
  cases ds with
  | nil => exact absurd h.1.1 (by simp)
  | cons d0 ds =>
    unfold tvd
    rw [List.reverse_cons, List.map_append, List.map_cons, List.map_nil, tv_snoc]
    exact (tv_from _ (fun t ht => by obtain ⟨d, hd, rfl⟩ := List.mem_map.1 ht; exact gT_pos h (List.mem_reverse.1 hd)) (1, 0) (by decide) (by decide)).1
theorem terms_of {w : World} {a : Option Addr} {n c : Nat} {l : List (BV × BD)} (h : PArB w a n c l) (hg : gT (l.map Prod.snd)) : n ≤ 60 ∧ ∀ y ∈ l, IsB w y.1 (sv y.2.g y.2.xs) ∧ Bd (sv y.2.g y.2.xs) 40 :=
  ⟨by have := hg.1.2; rw [List.length_map, h.len] at this; exact this, fun y hy => isB_of_good (h.rd y hy).head (gT_good hg (List.mem_map.2 ⟨y, hy, rfl⟩))⟩
set_option maxHeartbeats 4000000 in
theorem FromTPI (a : Option Addr) (n c : Nat) (l : List (BV × BD)) (w : World) (h : PArB w a n c l) :
    Calls Try.prog 23 #[.slice a n c] w (RetQ w (AnsQ (gTb (l.map Prod.snd)) (tvd (l.map Prod.snd)).1 (tvd (l.map Prod.snd)).2)) := by
  have CR : Hid (∀ w1, PArB w1 a n c l → Calls Try.prog 67 #[.slice a n c] w1 fun e w' => e = .returned (.bool (gTb (l.map Prod.snd))) ∧ Below w1.heap.size w1 w') := hide (fun w1 k => (goodTI a n c l w1 k).mono (fun e w' ⟨b, he, hb, hw⟩ => ⟨by
    rw [he]
    have : b = gTb (l.map Prod.snd) := Bool.eq_iff_iff.2 (hb.trans (gTb_iff _).symm)
    rw [this], hw⟩))
  cases hr : gTb (l.map Prod.snd)
  · rw [hr] at CR
    have H0 := hide h
    clear h
    have B0 := hide (show Below w.heap.size w (w.alloc (.cells #[.bool false, .slice none 0 0, .bool false, .slice none 0 0] 33)) from ((Below.refl _ _).alloc (by simp) _))
    go_enter Try.func23, Try.ntmps23
    go_wp2_with fail
    refine (unhide CR _ ((unhide H0).later (unhide B0))).mono ?_
    rintro e w1 ⟨rfl, hb⟩
    have s1 : w.heap.size < w1.heap.size := by have := hb.size; simp at this; omega
    have k0_0 : w1.cell? ⟨w.heap.size, 0, none⟩ = some (.bool false) := cell_later hb (by simp [go_sem])
    have k0_1 : w1.cell? ⟨w.heap.size, 1, none⟩ = some (.slice none 0 0) := cell_later hb (by simp [go_sem])
    have k0_2 : w1.cell? ⟨w.heap.size, 2, none⟩ = some (.bool false) := cell_later hb (by simp [go_sem])
    have k0_3 : w1.cell? ⟨w.heap.size, 3, none⟩ = some (.slice none 0 0) := cell_later hb (by simp [go_sem])
    have z0 : ∀ o, w1.frozen? ⟨w.heap.size, o, none⟩ = false := fun o => frozen_later hb (by simp) (by simp [go_sem])
    have HB := hide (below_on (unhide B0) hb)
    clear hb
    go_wp2
    refine bodyPost_ret (v := .tuple #[.agg #[.bool false, .slice none 0 0, .bool false, .slice none 0 0], .bool false]) (by simp [results, Try.results23, go_sem, k0_0, k0_1, k0_2, k0_3]) rfl ?_
    exact retQ_fin (v := (⟨⟨false, none, 0, 0⟩, ⟨false, none, 0, 0⟩⟩ : QV)) (d := (⟨⟨false, []⟩, ⟨false, []⟩⟩ : QD)) (R := w.heap.size) (by omega) (unhide HB) (metQ_but (w5 := w1) (v := (⟨⟨false, none, 0, 0⟩, ⟨false, none, 0, 0⟩⟩ : QV)) (G := w.heap.size)) (zeroQ _ _ _) (ansQ_none _ _)
  · rw [hr] at CR
    obtain ⟨hn, hgs⟩ := terms_of h ((gTb_iff _).1 hr)
    have HGS := hide hgs
    have DP := hide (gT_den ((gTb_iff _).1 hr))
    clear hgs
    rw [← tvd_eq] at DP ⊢
    have H0 := hide h
    clear h
    have B0 := hide (show Below w.heap.size w (w.alloc (.cells #[.bool false, .slice none 0 0, .bool false, .slice none 0 0] 33)) from ((Below.refl _ _).alloc (by simp) _))
    go_enter Try.func23, Try.ntmps23
    go_wp2_with fail
    refine (unhide CR _ ((unhide H0).later (unhide B0))).mono ?_
    rintro e w1 ⟨rfl, hb⟩
    have s1 : w.heap.size < w1.heap.size := by have := hb.size; simp at this; omega
    have k0_0 : w1.cell? ⟨w.heap.size, 0, none⟩ = some (.bool false) := cell_later hb (by simp [go_sem])
    have k0_1 : w1.cell? ⟨w.heap.size, 1, none⟩ = some (.slice none 0 0) := cell_later hb (by simp [go_sem])
    have k0_2 : w1.cell? ⟨w.heap.size, 2, none⟩ = some (.bool false) := cell_later hb (by simp [go_sem])
    have k0_3 : w1.cell? ⟨w.heap.size, 3, none⟩ = some (.slice none 0 0) := cell_later hb (by simp [go_sem])
    have z0 : ∀ o, w1.frozen? ⟨w.heap.size, o, none⟩ = false := fun o => frozen_later hb (by simp) (by simp [go_sem])
    have HB := hide (below_on (unhide B0) hb)
    clear hb
    go_wp2_with fail
    refine (ratTI a n c l _ ((unhide H0).later (unhide HB)) (fun y hy => ⟨((unhide HGS) y hy).1.later (unhide HB), ((unhide HGS) y hy).2⟩) hn).mono ?_
    rintro e w2 ⟨r, zs, us, rfl, hb, or, ar, nz, nu⟩
    have s2 := hb.size
    have RM : r.den.n ≤ maxLen := (isQ_of ar nz nu).2.max
    have NN := hide (And.intro nz nu)
    replace z0 := fun o => frozen_later hb (World.block_lt_of_cell? _ _ k0_0) (z0 o)
    replace k0_0 := cell_later hb k0_0
    replace k0_1 := cell_later hb k0_1
    replace k0_2 := cell_later hb k0_2
    replace k0_3 := cell_later hb k0_3
    have OR := hide (or)
    replace HB := hide (below_on (unhide HB) hb)
    clear hb
    clear or ar nz nu
    go_wp2_with fail
    refine (whereQ r _ _ zs us w1.heap.size w2.heap.size _ (unhide OR) (Nat.le_refl _) RM (unhide NN).1 (unhide NN).2 (by have := unhide DP; omega)).mono ?_
    rintro e w3 ⟨v, dv, ok, rfl, hb, ov, hu⟩
    have s3 := hb.size
    have UU := hide hu
    replace z0 := fun o => frozen_later hb (World.block_lt_of_cell? _ _ k0_0) (z0 o)
    replace k0_0 := cell_later hb k0_0
    replace k0_1 := cell_later hb k0_1
    replace k0_2 := cell_later hb k0_2
    replace k0_3 := cell_later hb k0_3
    replace OR := hide ((unhide OR).later hb)
    have OV := hide (ov)
    replace HB := hide (below_on (unhide HB) hb)
    clear hb
    clear ov hu
    go_wp2
    refine bodyPost_ret (v := .tuple #[.agg #[.bool v.num.g, .slice v.num.a v.num.n v.num.c, .bool v.den.g, .slice v.den.a v.den.n v.den.c], .bool ok]) (by simp [results, Try.results23, go_sem, k0_0, k0_1, k0_2, k0_3]) rfl ?_
    exact retQ_fin (v := v) (d := dv) (R := w.heap.size) (by omega) (unhide HB) (metQ_but (w5 := w3) (v := v) (G := w.heap.size)) ((unhide OV).wide (by omega) (by omega)) (unhide UU)
end Go.Proofs.Ytliaddmkomcmnaa
namespace Go.Proofs.Ytliaddmkomcmnaa
open Go.RowKit
set_option linter.unusedVariables false
set_option maxRecDepth 100000
set_option linter.unusedSimpArgs false

theorem lowT_id {N D : Int} (h : Low N D) : lowN N D = N ∧ lowD N D = D := by
  have hp := h.pos
  exact (low_low (N := N) (D := D) (by omega)).same h (low_cross hp)
/-- A pair that a further term may be put to. -/
structure Tn (v : Int × Int) : Prop where
  pos : 0 < v.1
  nn : 0 ≤ v.2
  cop : Nat.gcd v.1.natAbs v.2.natAbs = 1
theorem cop_step {N D t : Int} (h : Nat.gcd N.natAbs D.natAbs = 1) : Nat.gcd (t * N + D).natAbs N.natAbs = 1 := by
  have h1 : Int.gcd (t * N + D) N = Int.gcd D N := by rw [Int.add_comm, Int.gcd_add_mul_right_left]
  have h2 : Int.gcd D N = 1 := by rw [Int.gcd_comm]; exact h
  exact h1.trans h2
theorem tn_step {v : Int × Int} {t : Int} (h : Tn v) (ht : 0 < t) : Tn (tvF v t) := by
  have h1 := Int.mul_pos ht h.pos
  have h2 := h.nn
  have h3 := h.pos
  exact ⟨by show 0 < t * v.1 + v.2; omega, by show 0 ≤ v.1; omega, cop_step h.cop⟩
theorem tn_first {t : Int} (ht : 0 < t) : Tn (tvF (1, 0) t) := tn_step ⟨by decide, by decide, rfl⟩ ht
theorem sp_div {v : Int × Int} (h : Tn v) : lowN (1 * v.2) (1 * v.1) = v.2 ∧ lowD (1 * v.2) (1 * v.1) = v.1 := by
  rw [Int.one_mul, Int.one_mul]
  exact lowT_id ⟨h.pos, by rw [Nat.gcd_comm]; exact h.cop⟩
theorem sp_add {v : Int × Int} (t : Int) (h : Tn v) : lowN (t * v.1 + v.2 * 1) (1 * v.1) = (tvF v t).1 ∧ lowD (t * v.1 + v.2 * 1) (1 * v.1) = (tvF v t).2 := by
  rw [Int.one_mul, Int.mul_one]
  exact lowT_id ⟨h.pos, cop_step h.cop⟩
end Go.Proofs.Ytliaddmkomcmnaa
namespace Go.Proofs.Ytliaddmkomcmnaa
open Go.RowKit
set_option linter.unusedVariables false
set_option maxRecDepth 100000
set_option linter.unusedSimpArgs false

theorem gTb_no {ds : List BD} (h : ¬ gT ds) : gTb ds = false := by
  cases e : gTb ds
  · rfl
  · exact absurd ((gTb_iff ds).1 e) h
/-- What is held of out. -/
structure OuS (W0 : World) (V : Int × Int) (G : Nat) (W : World) : Prop where
  bel : Below W0.heap.size W0 W
  lo : W0.heap.size ≤ G
  lt : G < W.heap.size
  gf : ∀ o, W.frozen? ⟨G, o, none⟩ = false
  val : ∃ q : QV, W.cell? ⟨G, 0, none⟩ = some (.bool q.num.g) ∧ W.cell? ⟨G, 1, none⟩ = some (.slice q.num.a q.num.n q.num.c) ∧ W.cell? ⟨G, 2, none⟩ = some (.bool q.den.g) ∧ W.cell? ⟨G, 3, none⟩ = some (.slice q.den.a q.den.n q.den.c) ∧ IsQ W q V.1 V.2
theorem ouS_alloc {W0 w5 : World} {q : QV} {V : Int × Int} (t : TypeId) (hb : Below W0.heap.size W0 w5) (h : IsQ w5 q V.1 V.2) : OuS W0 V w5.heap.size (w5.alloc (.cells #[.bool q.num.g, .slice q.num.a q.num.n q.num.c, .bool q.den.g, .slice q.den.a q.den.n q.den.c] t)) :=
  ⟨hb.alloc hb.size _, hb.size, by simp, fun o => by simp [go_sem], q, by simp [go_sem], by simp [go_sem], by simp [go_sem], by simp [go_sem], h.later ((Below.refl _ _).alloc (Nat.le_refl _) _)⟩
theorem ouS_set {W0 w5 : World} {q : QV} {V : Int × Int} {G : Nat} {y0 y1 y2 y3 : Value} (hb : Below W0.heap.size W0 w5) (hG : W0.heap.size ≤ G) (hl : G < w5.heap.size)
    (c0 : w5.cell? ⟨G, 0, none⟩ = some y0) (c1 : w5.cell? ⟨G, 1, none⟩ = some y1) (c2 : w5.cell? ⟨G, 2, none⟩ = some y2) (c3 : w5.cell? ⟨G, 3, none⟩ = some y3) (gf : ∀ o, w5.frozen? ⟨G, o, none⟩ = false)
    (h : ∀ W', But G (G + 1) w5 W' → Below W0.heap.size W0 W' → IsQ W' q V.1 V.2) : OuS W0 V G (((((w5.setCell ⟨G, 0, none⟩ (.bool q.num.g)).setCell ⟨G, 1, none⟩ (.slice q.num.a q.num.n q.num.c)).setCell ⟨G, 2, none⟩ (.bool q.den.g)).setCell ⟨G, 3, none⟩ (.slice q.den.a q.den.n q.den.c))) := by
  have bt : But G (G + 1) w5 (((((w5.setCell ⟨G, 0, none⟩ (.bool q.num.g)).setCell ⟨G, 1, none⟩ (.slice q.num.a q.num.n q.num.c)).setCell ⟨G, 2, none⟩ (.bool q.den.g)).setCell ⟨G, 3, none⟩ (.slice q.den.a q.den.n q.den.c))) := (((((But.refl _ _ _).set (p := ⟨G, 0, none⟩) (Nat.le_refl _) (Nat.lt_succ_self _) _).set (p := ⟨G, 1, none⟩) (Nat.le_refl _) (Nat.lt_succ_self _) _).set (p := ⟨G, 2, none⟩) (Nat.le_refl _) (Nat.lt_succ_self _) _).set (p := ⟨G, 3, none⟩) (Nat.le_refl _) (Nat.lt_succ_self _) _)
  have bb := bt.below hb hG hb.size
  exact ⟨bb, hG, Nat.lt_of_lt_of_le hl bt.size, fun o => by simp only [World.frozen?_setCell]; exact gf o, q, by simp [go_sem, c0, c1, c2, c3], by simp [go_sem, c0, c1, c2, c3], by simp [go_sem, c0, c1, c2, c3], by simp [go_sem, c0, c1, c2, c3], h _ bt bb⟩
theorem take_revT {l : List (BV × BD)} {n j : Nat} (hl : l.length = n) (hj : j < n) : tv ((l.reverse.take (j + 1)).map fun y => sv y.2.g y.2.xs) = tvF (tv ((l.reverse.take j).map fun y => sv y.2.g y.2.xs)) (sv (l[n - 1 - j]'(by omega)).2.g (l[n - 1 - j]'(by omega)).2.xs) := by
  subst hl
  rw [← List.take_append_getElem (by simp; exact hj), List.map_append]
  simp only [List.map_cons, List.map_nil, List.getElem_reverse]
  exact tv_snoc _ _
theorem tn_from (ts : List Int) (h : ∀ t ∈ ts, 0 < t) : ∀ v : Int × Int, Tn v → Tn (ts.foldl tvF v) := by
  induction ts with
  | nil => intro v h1; exact h1
  | cons t ts ih =>
    intro v h1
    exact ih (fun x hx => h x (List.mem_cons_of_mem _ hx)) (tvF v t) (tn_step h1 (h t List.mem_cons_self))
theorem tn_take {l : List (BV × BD)} {n j : Nat} (h : gT (l.map Prod.snd)) (hl : l.length = n) (hj : j + 1 ≤ n) (hlt : j + 1 < n) : Tn (tv ((l.reverse.take (j + 1)).map fun y => sv y.2.g y.2.xs)) := by
  refine tn_from _ (fun t ht => ?_) (1, 0) ⟨by decide, by decide, rfl⟩
  obtain ⟨y, hy, rfl⟩ := List.mem_map.1 ht
  cases l with
  | nil => simp at hy
  | cons y0 l =>
    rw [List.reverse_cons, List.take_append_of_le_length (by simp at hl ⊢; omega)] at hy
    exact gT_pos (d0 := y0.2) (ds := l.map Prod.snd) h (List.mem_map.2 ⟨y, List.mem_reverse.1 (List.mem_of_mem_take hy), rfl⟩)
set_option maxRecDepth 100000 in
set_option maxHeartbeats 8000000 in
theorem FromTPS (a : Option Addr) (n c : Nat) (l : List (BV × BD)) (w : World) (h : PArB w a n c l) :
    Calls Try.prog 21 #[.slice a n c] w (RetQ w (AnsQ (gTb (l.map Prod.snd)) (tvd (l.map Prod.snd)).1 (tvd (l.map Prod.snd)).2)) := by
  have HS := hide h
  have HN := hide h.len
  have hm : n ≤ maxLen := Nat.le_trans h.cap h.top
  clear h
  unfold maxLen at hm
  go_enter Try.func21, Try.ntmps21
  go_wp2
  obtain ⟨W0, hW0⟩ : ∃ W0, w.alloc (.cells #[.bool false, .slice none 0 0, .bool false, .slice none 0 0] 33) = W0 := ⟨_, rfl⟩
  have sz0 : W0.heap.size = w.heap.size + 1 := by rw [← hW0]; simp
  have HW := hide (show Below w.heap.size w W0 from by rw [← hW0]; exact (Below.refl _ _).alloc (Nat.le_refl _) _)
  have RC := hide (show W0.cell? ⟨w.heap.size, 0, none⟩ = some (.bool false) ∧ W0.cell? ⟨w.heap.size, 1, none⟩ = some (.slice none 0 0) ∧ W0.cell? ⟨w.heap.size, 2, none⟩ = some (.bool false) ∧ W0.cell? ⟨w.heap.size, 3, none⟩ = some (.slice none 0 0) ∧ ∀ o, W0.frozen? ⟨w.heap.size, o, none⟩ = false from by rw [← hW0]; exact ⟨by simp [go_sem], by simp [go_sem], by simp [go_sem], by simp [go_sem], fun o => by simp [go_sem]⟩)
  rw [hW0]
  clear hW0
  go_loopw [10] (fun iv wr => ∃ (i : Nat), i ≤ n ∧ iv = .int .i64 i ∧ Hid (∀ j (h : j < (l.map Prod.snd).length), j < i → tOk j (l.map Prod.snd)[j] = true) ∧ Hid (Below W0.heap.size W0 wr)) (fun iv _ => n - (intOf iv).toNat)
  case atStart => exact ⟨0, Nat.zero_le _, rfl, hide (fun j h hj => absurd hj (Nat.not_lt_zero _)), hide (Below.refl _ _)⟩
  case round =>
    obtain ⟨i, hi, rfl, EA, HB⟩ := hrel
    by_cases hlt : i < n
    · have hlt' : (i : Int) < (n : Int) := by omega
      rcases (unhide HS).at_ with e | ⟨b, off, rfl, hb, hc⟩
      · exact absurd (unhide HN) (by rw [e]; simp; omega)
      have e0 := hc i (by rw [unhide HN]; exact hlt)
      have EI : Hid ((l.map Prod.snd)[i]'(by rw [List.length_map, unhide HN]; exact hlt) = (l[i]'(by rw [unhide HN]; exact hlt)).2) := hide (by simp)
      obtain ⟨y, hy⟩ : ∃ y, y = l[i]'(by rw [unhide HN]; exact hlt) := ⟨_, rfl⟩
      rw [← hy] at e0 EI
      have MY : Hid (y ∈ l) := hide (by rw [hy]; exact List.getElem_mem _)
      clear hy
      have HBW := hide (below_on (unhide HW) (unhide HB))
      have E0 : wr.cell? ⟨b, off + i * 2, none⟩ = some (.bool y.1.g) := ((unhide HBW).cell (p := ⟨b, off + i * 2, none⟩) hb).trans (e0.1)
      have E1 : wr.cell? ⟨b, off + i * 2 + 1, none⟩ = some (.slice y.1.a y.1.n y.1.c) := ((unhide HBW).cell (p := ⟨b, off + i * 2 + 1, none⟩) hb).trans (e0.2)
      clear e0 hc
      have R0 := (unhide HS).rd y (unhide MY)
      have R1 := hide (R0.later (unhide HBW))
      have ln := R0.head.ar.len
      have my : y.1.n ≤ maxLen := Nat.le_trans R0.head.ar.cap R0.head.ar.top
      have sgn : y.2.g = y.1.g := R0.head.sg.symm
      have C1 := hide (fun w1 (k : AllAr w1 [(y.1, y.2)]) => goodS_any y.1.g y.1.a y.1.n y.1.c y.2.xs w1 k.sl.head.sl ln my)
      have CON : Hid (tOk i y.2 = true → ∀ j (h : j < (l.map Prod.snd).length), j < i + 1 → tOk j (l.map Prod.snd)[j] = true) := hide (fun ht j h hj => by
        by_cases e : j < i
        · exact unhide EA j h e
        · obtain rfl : j = i := by omega
          rw [unhide EI]
          exact ht)
      have NOT : Hid (tOk i y.2 = false → ¬ gT (l.map Prod.snd)) := hide (fun ht h => by
        have h2 := h.2 i (by rw [List.length_map, unhide HN]; exact hlt)
        rw [unhide EI, ht] at h2
        cases h2)
      have TT : Hid (tOk i y.2 = (goodB y.1.g y.2.xs && (decide (i = 0) || (!y.1.g && !decide (y.1.n = 0))))) := hide (by unfold tOk; rw [sgn, ln])
      clear R0 ln sgn EA HBW
      unfold maxLen at my
      cases hg : goodB y.1.g y.2.xs
      · have NO := hide (unhide NOT (by rw [unhide TT, hg]; rfl))
        rw [hg] at C1
        clear hg NOT CON
        go_wp2_with fail
        refine (unhide C1 _ ((unhide R1).later ((Below.refl _ _).alloc (Nat.le_refl _) _))).mono ?_
        rintro e w1 ⟨rfl, hb1⟩
        have HB1 := hide (below_on (unhide HB) (ba hb1))
        clear hb1 E0 E1 C1
        have r0 : w1.cell? ⟨w.heap.size, 0, none⟩ = some (.bool false) := ((unhide HB1).cell (p := ⟨w.heap.size, 0, none⟩) (by show w.heap.size < _; omega)).trans (unhide RC).1
        have r1 : w1.cell? ⟨w.heap.size, 1, none⟩ = some (.slice none 0 0) := ((unhide HB1).cell (p := ⟨w.heap.size, 1, none⟩) (by show w.heap.size < _; omega)).trans (unhide RC).2.1
        have r2 : w1.cell? ⟨w.heap.size, 2, none⟩ = some (.bool false) := ((unhide HB1).cell (p := ⟨w.heap.size, 2, none⟩) (by show w.heap.size < _; omega)).trans (unhide RC).2.2.1
        have r3 : w1.cell? ⟨w.heap.size, 3, none⟩ = some (.slice none 0 0) := ((unhide HB1).cell (p := ⟨w.heap.size, 3, none⟩) (by show w.heap.size < _; omega)).trans (unhide RC).2.2.2.1
        have rf : ∀ o, w1.frozen? ⟨w.heap.size, o, none⟩ = false := fun o => frozen_later (unhide HB1) (by omega) ((unhide RC).2.2.2.2 o)
        have AN := hide (show AnsQ (gTb (l.map Prod.snd)) (tvd (l.map Prod.snd)).1 (tvd (l.map Prod.snd)).2 (⟨⟨false, []⟩, ⟨false, []⟩⟩ : QD) false from by rw [gTb_no (unhide NO)]; exact ansQ_none _ _)
        go_wp2
        refine bodyPost_ret (v := .tuple #[.agg #[.bool false, .slice none 0 0, .bool false, .slice none 0 0], .bool false]) (by simp [results, Try.results21, go_sem, r0, r1, r2, r3]) rfl ?_
        exact retQ_fin (v := (⟨⟨false, none, 0, 0⟩, ⟨false, none, 0, 0⟩⟩ : QV)) (d := (⟨⟨false, []⟩, ⟨false, []⟩⟩ : QD)) (R := w.heap.size) (Nat.le_refl _) (below_on (unhide HW) (unhide HB1)) (metQ_but (w5 := w1) (v := (⟨⟨false, none, 0, 0⟩, ⟨false, none, 0, 0⟩⟩ : QV)) (G := w.heap.size)) (zeroQ _ _ _) (unhide AN)
      · rw [hg] at C1
        by_cases hi0 : i = 0
        · have YES := hide (unhide CON (by rw [unhide TT, hg, decide_eq_true hi0]; rfl))
          have j0 : ¬ ((i : Int) > 0) := by omega
          have j1 : ¬ (0 < (i : Int)) := by omega
          clear hg NOT CON hi0
          go_wp2_with fail
          refine (unhide C1 _ ((unhide R1).later ((Below.refl _ _).alloc (Nat.le_refl _) _))).mono ?_
          rintro e w1 ⟨rfl, hb1⟩
          have k0 : w1.cell? ⟨wr.heap.size, 0, none⟩ = some (.bool y.1.g) := cell_later hb1 (by simp [go_sem])
          have k1 : w1.cell? ⟨wr.heap.size, 1, none⟩ = some (.slice y.1.a y.1.n y.1.c) := cell_later hb1 (by simp [go_sem])
          have HB1 := hide (below_on (unhide HB) (ba hb1))
          clear hb1 E0 E1 C1
          go_wp2
          go_roundw
          case rel => exact ⟨i + 1, by omega, by go_num, YES, HB1⟩
          case measure => simp [intOf]; omega
        · have j0 : (i : Int) > 0 := by omega
          have j1 : 0 < (i : Int) := by omega
          cases hs : y.1.g
          · rw [hs] at C1 E0
            by_cases hz : y.1.n = 0
            · have NO := hide (unhide NOT (by rw [unhide TT, hg, hs, decide_eq_true hz, decide_eq_false hi0]; rfl))
              have z0 : ((y.1.n : Int) == 0) = true := by simp [hz]
              clear hg NOT CON hz
              go_wp2_with fail
              refine (unhide C1 _ ((unhide R1).later ((Below.refl _ _).alloc (Nat.le_refl _) _))).mono ?_
              rintro e w1 ⟨rfl, hb1⟩
              have k0 : w1.cell? ⟨wr.heap.size, 0, none⟩ = some (.bool false) := cell_later hb1 (by simp [go_sem])
              have k1 : w1.cell? ⟨wr.heap.size, 1, none⟩ = some (.slice y.1.a y.1.n y.1.c) := cell_later hb1 (by simp [go_sem])
              have HB1 := hide (below_on (unhide HB) (ba hb1))
              clear hb1 E0 E1 C1
              have r0 : w1.cell? ⟨w.heap.size, 0, none⟩ = some (.bool false) := ((unhide HB1).cell (p := ⟨w.heap.size, 0, none⟩) (by show w.heap.size < _; omega)).trans (unhide RC).1
              have r1 : w1.cell? ⟨w.heap.size, 1, none⟩ = some (.slice none 0 0) := ((unhide HB1).cell (p := ⟨w.heap.size, 1, none⟩) (by show w.heap.size < _; omega)).trans (unhide RC).2.1
              have r2 : w1.cell? ⟨w.heap.size, 2, none⟩ = some (.bool false) := ((unhide HB1).cell (p := ⟨w.heap.size, 2, none⟩) (by show w.heap.size < _; omega)).trans (unhide RC).2.2.1
              have r3 : w1.cell? ⟨w.heap.size, 3, none⟩ = some (.slice none 0 0) := ((unhide HB1).cell (p := ⟨w.heap.size, 3, none⟩) (by show w.heap.size < _; omega)).trans (unhide RC).2.2.2.1
              have rf : ∀ o, w1.frozen? ⟨w.heap.size, o, none⟩ = false := fun o => frozen_later (unhide HB1) (by omega) ((unhide RC).2.2.2.2 o)
              have AN := hide (show AnsQ (gTb (l.map Prod.snd)) (tvd (l.map Prod.snd)).1 (tvd (l.map Prod.snd)).2 (⟨⟨false, []⟩, ⟨false, []⟩⟩ : QD) false from by rw [gTb_no (unhide NO)]; exact ansQ_none _ _)
              go_wp2
              refine bodyPost_ret (v := .tuple #[.agg #[.bool false, .slice none 0 0, .bool false, .slice none 0 0], .bool false]) (by simp [results, Try.results21, go_sem, r0, r1, r2, r3]) rfl ?_
              exact retQ_fin (v := (⟨⟨false, none, 0, 0⟩, ⟨false, none, 0, 0⟩⟩ : QV)) (d := (⟨⟨false, []⟩, ⟨false, []⟩⟩ : QD)) (R := w.heap.size) (Nat.le_refl _) (below_on (unhide HW) (unhide HB1)) (metQ_but (w5 := w1) (v := (⟨⟨false, none, 0, 0⟩, ⟨false, none, 0, 0⟩⟩ : QV)) (G := w.heap.size)) (zeroQ _ _ _) (unhide AN)
            · have YES := hide (unhide CON (by rw [unhide TT, hg, hs, decide_eq_false hz]; simp))
              have z0 : ((y.1.n : Int) == 0) = false := by simp; omega
              clear hg NOT CON hz
              go_wp2_with fail
              refine (unhide C1 _ ((unhide R1).later ((Below.refl _ _).alloc (Nat.le_refl _) _))).mono ?_
              rintro e w1 ⟨rfl, hb1⟩
              have k0 : w1.cell? ⟨wr.heap.size, 0, none⟩ = some (.bool false) := cell_later hb1 (by simp [go_sem])
              have k1 : w1.cell? ⟨wr.heap.size, 1, none⟩ = some (.slice y.1.a y.1.n y.1.c) := cell_later hb1 (by simp [go_sem])
              have HB1 := hide (below_on (unhide HB) (ba hb1))
              clear hb1 E0 E1 C1
              go_wp2
              go_roundw
              case rel => exact ⟨i + 1, by omega, by go_num, YES, HB1⟩
              case measure => simp [intOf]; omega
          · have NO := hide (unhide NOT (by rw [unhide TT, hg, hs, decide_eq_false hi0]; rfl))
            rw [hs] at C1 E0
            clear hg NOT CON
            go_wp2_with fail
            refine (unhide C1 _ ((unhide R1).later ((Below.refl _ _).alloc (Nat.le_refl _) _))).mono ?_
            rintro e w1 ⟨rfl, hb1⟩
            have k0 : w1.cell? ⟨wr.heap.size, 0, none⟩ = some (.bool true) := cell_later hb1 (by simp [go_sem])
            have k1 : w1.cell? ⟨wr.heap.size, 1, none⟩ = some (.slice y.1.a y.1.n y.1.c) := cell_later hb1 (by simp [go_sem])
            have HB1 := hide (below_on (unhide HB) (ba hb1))
            clear hb1 E0 E1 C1
            have r0 : w1.cell? ⟨w.heap.size, 0, none⟩ = some (.bool false) := ((unhide HB1).cell (p := ⟨w.heap.size, 0, none⟩) (by show w.heap.size < _; omega)).trans (unhide RC).1
            have r1 : w1.cell? ⟨w.heap.size, 1, none⟩ = some (.slice none 0 0) := ((unhide HB1).cell (p := ⟨w.heap.size, 1, none⟩) (by show w.heap.size < _; omega)).trans (unhide RC).2.1
            have r2 : w1.cell? ⟨w.heap.size, 2, none⟩ = some (.bool false) := ((unhide HB1).cell (p := ⟨w.heap.size, 2, none⟩) (by show w.heap.size < _; omega)).trans (unhide RC).2.2.1
            have r3 : w1.cell? ⟨w.heap.size, 3, none⟩ = some (.slice none 0 0) := ((unhide HB1).cell (p := ⟨w.heap.size, 3, none⟩) (by show w.heap.size < _; omega)).trans (unhide RC).2.2.2.1
            have rf : ∀ o, w1.frozen? ⟨w.heap.size, o, none⟩ = false := fun o => frozen_later (unhide HB1) (by omega) ((unhide RC).2.2.2.2 o)
            have AN := hide (show AnsQ (gTb (l.map Prod.snd)) (tvd (l.map Prod.snd)).1 (tvd (l.map Prod.snd)).2 (⟨⟨false, []⟩, ⟨false, []⟩⟩ : QD) false from by rw [gTb_no (unhide NO)]; exact ansQ_none _ _)
            go_wp2
            refine bodyPost_ret (v := .tuple #[.agg #[.bool false, .slice none 0 0, .bool false, .slice none 0 0], .bool false]) (by simp [results, Try.results21, go_sem, r0, r1, r2, r3]) rfl ?_
            exact retQ_fin (v := (⟨⟨false, none, 0, 0⟩, ⟨false, none, 0, 0⟩⟩ : QV)) (d := (⟨⟨false, []⟩, ⟨false, []⟩⟩ : QD)) (R := w.heap.size) (Nat.le_refl _) (below_on (unhide HW) (unhide HB1)) (metQ_but (w5 := w1) (v := (⟨⟨false, none, 0, 0⟩, ⟨false, none, 0, 0⟩⟩ : QV)) (G := w.heap.size)) (zeroQ _ _ _) (unhide AN)
    · have ni : ¬ ((i : Int) < (n : Int)) := by omega
      obtain rfl : i = n := by omega
      by_cases hin : 1 ≤ i ∧ i ≤ 60
      · have GT : Hid (gT (l.map Prod.snd)) := hide ⟨by rw [List.length_map, unhide HN]; exact hin, fun j h => unhide EA j h (by have h2 := h; rw [List.length_map, unhide HN] at h2; exact h2)⟩
        clear EA
        have hgs := hide (terms_of (unhide HS) (unhide GT)).2
        have EY : Hid (tv ((l.reverse.take 1).map fun y => sv y.2.g y.2.xs) = tvF (tv []) (sv (l[i - 1]'(by rw [unhide HN]; omega)).2.g (l[i - 1]'(by rw [unhide HN]; omega)).2.xs)) := hide (take_revT (j := 0) (unhide HN) (by omega))
        rcases (unhide HS).at_ with e | ⟨b, off, rfl, hb, hc⟩
        · exact absurd (unhide HN) (by rw [e]; simp; omega)
        have e0 := hc (i - 1) (by rw [unhide HN]; omega)
        have MY : Hid (l[i - 1]'(by rw [unhide HN]; omega) ∈ l) := hide (List.getElem_mem _)
        generalize l[i - 1]'(by rw [unhide HN]; omega) = y at *
        have HBW := hide (below_on (unhide HW) (unhide HB))
        have IY := hide ((unhide hgs) y (unhide MY)).1
        have E0 : wr.cell? ⟨b, off + (i - 1) * 2, none⟩ = some (.bool y.1.g) := ((unhide HBW).cell (p := ⟨b, off + (i - 1) * 2, none⟩) hb).trans e0.1
        have E1 : wr.cell? ⟨b, off + (i - 1) * 2 + 1, none⟩ = some (.slice y.1.a y.1.n y.1.c) := ((unhide HBW).cell (p := ⟨b, off + (i - 1) * 2 + 1, none⟩) hb).trans e0.2
        clear e0 HBW
        have i8 : IntKind.i64.wrap ((i : Int) - 1) = (i : Int) - 1 := by rw [IntKind.wrap_i64]; omega
        have j0 : (0 : Int) ≤ (i : Int) - 1 := by omega
        have j1 : (i : Int) - 1 < (i : Int) := by omega
        have j2 : ((i : Int) - 1).toNat = i - 1 := by omega
        go_wp2_with fail
        refine (in_ok2 _ _ _ _ true (by rw [eq_comm]; exact decide_eq_true (by omega))).mono ?_
        rintro e w1 ⟨rfl, rfl⟩
        have sz1 := (unhide HB).size
        have n1 : b < w1.heap.size := by omega
        have n2 : ¬ (b = w1.heap.size) := by omega
        have n3 : ¬ (w1.heap.size = b) := by omega
        have E0z : (w1.drew.alloc (.cells #[.bool false, .slice none 0 0, .bool false, .slice none 0 0] 33)).cell? ⟨b, off + (i - 1) * 2, none⟩ = some (.bool y.1.g) := ca_other (w := w1.drew) E0
        have E1z : (w1.drew.alloc (.cells #[.bool false, .slice none 0 0, .bool false, .slice none 0 0] 33)).cell? ⟨b, off + (i - 1) * 2 + 1, none⟩ = some (.slice y.1.a y.1.n y.1.c) := ca_other (w := w1.drew) E1
        go_upto_region 9 with fail
        go_cut [6] (fun p wx => ∃ (G : Nat), p = .pointer (some ⟨G, 0, none⟩) ∧ Hid (OuS W0 (sv y.2.g y.2.xs, 1) G wx))
        case first =>
          go_region_with (go_at_call 51; refine (ofS_v 1 _ (by omega) (by omega)).mono ?_; rintro e w2 ⟨b1, zs1, rfl, hb1, o1, a1, m1⟩; have O1 := hide (outN_ow o1 a1 m1); have hbx : Below w1.heap.size w1 w2 := (by first | exact below_of_drew hb1 | exact below_of_drew (ba hb1)); have sz2 := hbx.size; replace E0 := cell_later hbx E0; replace E1 := cell_later hbx E1; have n4 : b < w2.heap.size := (by omega); have n5 : ¬ (b = w2.heap.size) := (by omega); have n6 : ¬ (w2.heap.size = b) := (by omega); have E0y : (w2.alloc (.cells #[.bool false, .slice none 0 0, .bool false, .slice none 0 0] 33)).cell? ⟨b, off + (i - 1) * 2, none⟩ = some (.bool y.1.g) := ca_other E0; have E1y : (w2.alloc (.cells #[.bool false, .slice none 0 0, .bool false, .slice none 0 0] 33)).cell? ⟨b, off + (i - 1) * 2 + 1, none⟩ = some (.slice y.1.a y.1.n y.1.c) := ca_other E1; have HB2 := hide (below_on (unhide HB) hbx); first | (have g0 : w2.cell? ⟨w1.heap.size, 0, none⟩ = some (.bool false) := cell_later hb1 (by simp [go_sem]); have g1 : w2.cell? ⟨w1.heap.size, 1, none⟩ = some (.slice none 0 0) := cell_later hb1 (by simp [go_sem]); have g2 : w2.cell? ⟨w1.heap.size, 2, none⟩ = some (.bool false) := cell_later hb1 (by simp [go_sem]); have g3 : w2.cell? ⟨w1.heap.size, 3, none⟩ = some (.slice none 0 0) := cell_later hb1 (by simp [go_sem]); have gfr : ∀ o, w2.frozen? ⟨w1.heap.size, o, none⟩ = false := fun o => frozen_later hb1 (by simp) (by simp [go_sem]); have sl : w1.heap.size < w2.heap.size := (by have := hb1.size; simp at this; omega)) | skip; clear hbx hb1 o1 a1 m1)
          all_goals go_wp2_with fail
          all_goals go_meet
          all_goals first
            | exact ⟨_, rfl, hide (ouS_alloc (q := ⟨y.1, b1⟩) _ (unhide HB2) ⟨(unhide IY).later (below_on (unhide HW) (unhide HB2)), (unhide O1).is⟩)⟩
            | exact ⟨_, rfl, hide (ouS_set (q := ⟨y.1, b1⟩) (unhide HB2) (by omega) (by omega) g0 g1 g2 g3 gfr (fun W' bt bb => ⟨(unhide IY).later (below_on (unhide HW) bb), ((unhide O1).unbox bt g0).is⟩))⟩
        case rest =>
          obtain ⟨G, rfl, HO⟩ := hcut
          have ET : Hid (tv ((l.reverse.take 1).map fun y => sv y.2.g y.2.xs) = (sv y.2.g y.2.xs, 1)) := hide ((unhide EY).trans (by simp [tv, tvF]))
          rw [← unhide ET] at HO
          clear IY MY E0 E1 E0z E1z ET EY
          clear y
          have hmx : Try.prog.follows .mixedOrders = true := by kernel_rfl
          go_wp2
          go_loopw [7] (fun iv wr => ∃ j : Nat, j + 1 ≤ i ∧ iv = .int .i64 ((i : Int) - 2 - j) ∧ Hid (OuS W0 (tv ((l.reverse.take (j + 1)).map fun y => sv y.2.g y.2.xs)) G wr)) (fun iv _ => (intOf iv + 1).toNat)
          case atStart => exact ⟨0, by omega, by simp, HO⟩
          case round =>
            clear HO
            obtain ⟨j, hj, rfl, HI⟩ := hrel
            by_cases hlt : j + 1 < i
            · have i0 : (0 : Int) ≤ (i : Int) - 2 - j := by omega
              have i1 : (i : Int) - 2 - j < (i : Int) := by omega
              have i2 : ((i : Int) - 2 - j).toNat = i - 2 - j := by omega
              have e0 := hc (i - 2 - j) (by rw [unhide HN]; omega)
              have MY : Hid (l[i - 2 - j]'(by rw [unhide HN]; omega) ∈ l) := hide (List.getElem_mem _)
              have CP : Hid (tv ((l.reverse.take (j + 1 + 1)).map fun y => sv y.2.g y.2.xs) = tvF (tv ((l.reverse.take (j + 1)).map fun y => sv y.2.g y.2.xs)) (sv (l[i - 2 - j]'(by rw [unhide HN]; omega)).2.g (l[i - 2 - j]'(by rw [unhide HN]; omega)).2.xs)) := hide (by have h := take_revT (j := j + 1) (unhide HN) hlt; simp only [show i - 1 - (j + 1) = i - 2 - j by omega] at h; exact h)
              have TN : Hid (Tn (tv ((l.reverse.take (j + 1)).map fun y => sv y.2.g y.2.xs))) := hide (tn_take (unhide GT) (unhide HN) (by omega) hlt)
              have TG : Hid (∃ k, k ≤ 60 ∧ Tg k (tv ((l.reverse.take (j + 1)).map fun y => sv y.2.g y.2.xs))) := hide ⟨_, by rw [List.length_map, List.length_take, List.length_reverse]; omega, tg_all _ (fun d hd => by
                obtain ⟨y, hy, rfl⟩ := List.mem_map.1 hd
                exact ((unhide hgs) y (List.mem_reverse.1 (List.mem_of_mem_take hy))).2)⟩
              obtain ⟨V2, hV2⟩ : ∃ V2, V2 = tv ((l.reverse.take (j + 1 + 1)).map fun y => sv y.2.g y.2.xs) := ⟨_, rfl⟩
              rw [← hV2] at CP
              have HV2 := hide hV2
              clear hV2 hc
              generalize l[i - 2 - j]'(by rw [unhide HN]; omega) = y at *
              generalize tv ((l.reverse.take (j + 1)).map fun y => sv y.2.g y.2.xs) = V at *
              have HBW := hide (below_on (unhide HW) (unhide HI).bel)
              have E0 : wr.cell? ⟨b, off + (i - 2 - j) * 2, none⟩ = some (.bool y.1.g) := ((unhide HBW).cell (p := ⟨b, off + (i - 2 - j) * 2, none⟩) hb).trans e0.1
              have E1 : wr.cell? ⟨b, off + (i - 2 - j) * 2 + 1, none⟩ = some (.slice y.1.a y.1.n y.1.c) := ((unhide HBW).cell (p := ⟨b, off + (i - 2 - j) * 2 + 1, none⟩) hb).trans e0.2
              have gfr := (unhide HI).gf
              have lt := (unhide HI).lt
              have glo := (unhide HI).lo
              obtain ⟨u, c0, c1, c2, c3, iu⟩ := (unhide HI).val
              have IU := hide iu
              obtain ⟨k, hk, hvg⟩ := unhide TG
              have VJ := hide hvg
              have IY := hide (((unhide hgs) y (unhide MY)).1.later (unhide HBW))
              have BY := hide ((unhide hgs) y (unhide MY)).2
              have BEL := hide (unhide HI).bel
              generalize sv y.2.g y.2.xs = T at *
              clear iu hvg TG e0 MY HI HBW
              go_upto_region 13 with fail
              refine wpIn_wide.1 (wpIn_region_any (F := Fence.wide) (n := 6) hmx ?_)
              simp only [List.size_toArray, List.length_cons, List.length_nil, Nat.reduceAdd, Array.replicate_succ, Array.replicate_zero, List.push_toArray, List.nil_append, List.cons_append]
              change wpAnyIn _ _ _ _ _ _ _ _ _ (World.drew _)
              refine wpAnyC.any (C := (fun a' w' => Below wr.heap.size wr w' ∧ a'.tmps[0]?.getD undef = .slice (some ⟨b, off, none⟩) i c ∧ a'.tmps[6]?.getD undef = .pointer (some ⟨G, 0, none⟩) ∧ a'.tmps[7]?.getD undef = .int .i64 ((i : Int) - 2 - j))) (S := (· == 10)) _ _ _ _ ?_
              refine held_take (i := 0) (v := .slice (some ⟨b, off, none⟩) i c) [2, 3, 5, 9, 10] rfl rfl (by kernel_rfl) (by kernel_rfl) (by kernel_rfl) (by kernel_rfl) rfl (by kernel_rfl) (fun c a w h => h) (fun a w ⟨hq, e0, e6, e7⟩ => ⟨hq, (ev_put (by decide)).symm.trans e0, (ev_put (by decide)).symm.trans e6, (ev_put (by decide)).symm.trans e7⟩) (fun a w ⟨hq, e0, e6, e7⟩ => ⟨hq, (ev_put (by decide)).trans e0, (ev_put (by decide)).trans e6, (ev_put (by decide)).trans e7⟩) (fun a w ⟨hq, e0, e6, e7⟩ => ⟨rfl, (by simp [go_sem, execOp, e0]), rfl⟩) ⟨((Below.refl _ _).drew), rfl, rfl, rfl⟩ ?_
              simp only [Act.put, List.setIfInBounds_toArray, List.set_cons_succ, List.set_cons_zero]
              refine held_take (i := 1) (v := .int .i64 ((i : Int) - 2 - j)) [2, 3, 5, 9, 10] rfl rfl (by kernel_rfl) (by kernel_rfl) (by kernel_rfl) (by kernel_rfl) rfl (by kernel_rfl) (fun c a w h => h) (fun a w ⟨hq, e0, e6, e7⟩ => ⟨hq, (ev_put (by decide)).symm.trans e0, (ev_put (by decide)).symm.trans e6, (ev_put (by decide)).symm.trans e7⟩) (fun a w ⟨hq, e0, e6, e7⟩ => ⟨hq, (ev_put (by decide)).trans e0, (ev_put (by decide)).trans e6, (ev_put (by decide)).trans e7⟩) (fun a w ⟨hq, e0, e6, e7⟩ => ⟨rfl, (by simp [go_sem, execOp, e7]), rfl⟩) ⟨((Below.refl _ _).drew), rfl, rfl, rfl⟩ ?_
              simp only [Act.put, List.setIfInBounds_toArray, List.set_cons_succ, List.set_cons_zero]
              refine wpAnyC.weak (C' := (fun a' w' => Below wr.heap.size wr w' ∧ a'.tmps[0]?.getD undef = .slice (some ⟨b, off, none⟩) i c ∧ a'.tmps[6]?.getD undef = .pointer (some ⟨G, 0, none⟩) ∧ a'.tmps[7]?.getD undef = .int .i64 ((i : Int) - 2 - j) ∧ a'.tmps[54]?.getD undef = .slice (some ⟨b, off, none⟩) i c ∧ a'.tmps[55]?.getD undef = .int .i64 ((i : Int) - 2 - j))) (fun a w h => ⟨h.1, h.2.1, h.2.2.1, h.2.2.2.1⟩) _ _ _ _ ?_
              refine held_take (i := 2) (v := .pointer (some ⟨b, off + (i - 2 - j) * 2, none⟩)) [3, 5, 9, 10] rfl rfl (by kernel_rfl) (by kernel_rfl) (by kernel_rfl) (by kernel_rfl) rfl (by kernel_rfl) (fun c a w h => h) (fun a w ⟨hq, e0, e6, e7, e54, e55⟩ => ⟨hq, (ev_put (by decide)).symm.trans e0, (ev_put (by decide)).symm.trans e6, (ev_put (by decide)).symm.trans e7, (ev_put (by decide)).symm.trans e54, (ev_put (by decide)).symm.trans e55⟩) (fun a w ⟨hq, e0, e6, e7, e54, e55⟩ => ⟨hq, (ev_put (by decide)).trans e0, (ev_put (by decide)).trans e6, (ev_put (by decide)).trans e7, (ev_put (by decide)).trans e54, (ev_put (by decide)).trans e55⟩) (fun a w ⟨hq, e0, e6, e7, e54, e55⟩ => ⟨rfl, (by simp [go_sem, execOp, e54, e55, i0, i1, i2]; intro hx; omega), rfl⟩) ⟨((Below.refl _ _).drew), rfl, rfl, rfl, rfl, rfl⟩ ?_
              simp only [Act.put, List.setIfInBounds_toArray, List.set_cons_succ, List.set_cons_zero]
              refine wpAnyC.weak (C' := (fun a' w' => Below wr.heap.size wr w' ∧ a'.tmps[0]?.getD undef = .slice (some ⟨b, off, none⟩) i c ∧ a'.tmps[6]?.getD undef = .pointer (some ⟨G, 0, none⟩) ∧ a'.tmps[7]?.getD undef = .int .i64 ((i : Int) - 2 - j) ∧ a'.tmps[54]?.getD undef = .slice (some ⟨b, off, none⟩) i c ∧ a'.tmps[55]?.getD undef = .int .i64 ((i : Int) - 2 - j) ∧ a'.tmps[56]?.getD undef = .pointer (some ⟨b, off + (i - 2 - j) * 2, none⟩))) (fun a w h => ⟨h.1, h.2.1, h.2.2.1, h.2.2.2.1, h.2.2.2.2.1, h.2.2.2.2.2.1⟩) _ _ _ _ ?_
              refine held_take (i := 3) (v := .agg #[.bool y.1.g, .slice y.1.a y.1.n y.1.c]) [5, 9, 10] rfl rfl (by kernel_rfl) (by kernel_rfl) (by kernel_rfl) (by kernel_rfl) rfl (by kernel_rfl) (fun c a w h => h) (fun a w ⟨hq, e0, e6, e7, e54, e55, e56⟩ => ⟨hq, (ev_put (by decide)).symm.trans e0, (ev_put (by decide)).symm.trans e6, (ev_put (by decide)).symm.trans e7, (ev_put (by decide)).symm.trans e54, (ev_put (by decide)).symm.trans e55, (ev_put (by decide)).symm.trans e56⟩) (fun a w ⟨hq, e0, e6, e7, e54, e55, e56⟩ => ⟨hq, (ev_put (by decide)).trans e0, (ev_put (by decide)).trans e6, (ev_put (by decide)).trans e7, (ev_put (by decide)).trans e54, (ev_put (by decide)).trans e55, (ev_put (by decide)).trans e56⟩) (fun a w ⟨hq, e0, e6, e7, e54, e55, e56⟩ => ⟨rfl, (by have q0 := cell_later hq E0; have q1 := cell_later hq E1; simp [go_sem, execOp, e56, q0, q1]), rfl⟩) ⟨((Below.refl _ _).drew), rfl, rfl, rfl, rfl, rfl, rfl⟩ ?_
              simp only [Act.put, List.setIfInBounds_toArray, List.set_cons_succ, List.set_cons_zero]
              refine held_take (i := 7) (v := .agg #[.bool u.num.g, .slice u.num.a u.num.n u.num.c, .bool u.den.g, .slice u.den.a u.den.n u.den.c]) [8, 9, 10] rfl rfl (by kernel_rfl) (by kernel_rfl) (by kernel_rfl) (by kernel_rfl) rfl (by kernel_rfl) (fun c a w h => h) (fun a w ⟨hq, e0, e6, e7, e54, e55, e56⟩ => ⟨hq, (ev_put (by decide)).symm.trans e0, (ev_put (by decide)).symm.trans e6, (ev_put (by decide)).symm.trans e7, (ev_put (by decide)).symm.trans e54, (ev_put (by decide)).symm.trans e55, (ev_put (by decide)).symm.trans e56⟩) (fun a w ⟨hq, e0, e6, e7, e54, e55, e56⟩ => ⟨hq, (ev_put (by decide)).trans e0, (ev_put (by decide)).trans e6, (ev_put (by decide)).trans e7, (ev_put (by decide)).trans e54, (ev_put (by decide)).trans e55, (ev_put (by decide)).trans e56⟩) (fun a w ⟨hq, e0, e6, e7, e54, e55, e56⟩ => ⟨rfl, (by have q0 := cell_later hq c0; have q1 := cell_later hq c1; have q2 := cell_later hq c2; have q3 := cell_later hq c3; simp [go_sem, execOp, e6, q0, q1, q2, q3]), rfl⟩) ⟨((Below.refl _ _).drew), rfl, rfl, rfl, rfl, rfl, rfl⟩ ?_
              simp only [Act.put, List.setIfInBounds_toArray, List.set_cons_succ, List.set_cons_zero]
              refine held_step (i := 4) (by kernel_rfl) rfl (fun K hK => ?_)
              go_simp
              refine ⟨trivial, ?_⟩
              refine (callsIn_wide.2 (ofS_v 1 _ (by omega) (by omega))).mono ?_
              rintro e w2 ⟨b1, zs1, rfl, hb1, o1, a1, m1⟩
              have hq : Below wr.heap.size wr w2 := below_of_drew hb1
              refine hK _ _ (fun _ => ⟨hq, rfl, rfl, rfl, rfl, rfl, rfl⟩) ?_
              clear hK K
              have O1 := hide (outN_ow o1 a1 m1).is
              have Q2 := hide hq
              clear hb1 o1 a1 m1 hq
              simp only [Act.put, List.setIfInBounds_toArray, List.set_cons_succ, List.set_cons_zero]
              refine wpAnyC.weak (C' := (fun a' w' => Below wr.heap.size wr w' ∧ a'.tmps[0]?.getD undef = .slice (some ⟨b, off, none⟩) i c ∧ a'.tmps[6]?.getD undef = .pointer (some ⟨G, 0, none⟩) ∧ a'.tmps[7]?.getD undef = .int .i64 ((i : Int) - 2 - j) ∧ a'.tmps[54]?.getD undef = .slice (some ⟨b, off, none⟩) i c ∧ a'.tmps[55]?.getD undef = .int .i64 ((i : Int) - 2 - j) ∧ a'.tmps[56]?.getD undef = .pointer (some ⟨b, off + (i - 2 - j) * 2, none⟩) ∧ a'.tmps[57]?.getD undef = .agg #[.bool y.1.g, .slice y.1.a y.1.n y.1.c] ∧ a'.tmps[58]?.getD undef = .agg #[.bool b1.g, .slice b1.a b1.n b1.c])) (fun a w h => ⟨h.1, h.2.1, h.2.2.1, h.2.2.2.1, h.2.2.2.2.1, h.2.2.2.2.2.1, h.2.2.2.2.2.2.1⟩) _ _ _ _ ?_
              refine held_take (i := 5) (v := .agg #[.bool y.1.g, .slice y.1.a y.1.n y.1.c, .bool b1.g, .slice b1.a b1.n b1.c]) [9, 10] rfl rfl (by kernel_rfl) (by kernel_rfl) (by kernel_rfl) (by kernel_rfl) rfl (by kernel_rfl) (fun c a w h => h) (fun a w ⟨hq, e0, e6, e7, e54, e55, e56, e57, e58⟩ => ⟨hq, (ev_put (by decide)).symm.trans e0, (ev_put (by decide)).symm.trans e6, (ev_put (by decide)).symm.trans e7, (ev_put (by decide)).symm.trans e54, (ev_put (by decide)).symm.trans e55, (ev_put (by decide)).symm.trans e56, (ev_put (by decide)).symm.trans e57, (ev_put (by decide)).symm.trans e58⟩) (fun a w ⟨hq, e0, e6, e7, e54, e55, e56, e57, e58⟩ => ⟨hq, (ev_put (by decide)).trans e0, (ev_put (by decide)).trans e6, (ev_put (by decide)).trans e7, (ev_put (by decide)).trans e54, (ev_put (by decide)).trans e55, (ev_put (by decide)).trans e56, (ev_put (by decide)).trans e57, (ev_put (by decide)).trans e58⟩) (fun a w ⟨hq, e0, e6, e7, e54, e55, e56, e57, e58⟩ => ⟨rfl, (by simp [go_sem, execOp, e57, e58]), rfl⟩) ⟨(unhide Q2), rfl, rfl, rfl, rfl, rfl, rfl, rfl, rfl⟩ ?_
              simp only [Act.put, List.setIfInBounds_toArray, List.set_cons_succ, List.set_cons_zero]
              refine held_step (i := 6) (by kernel_rfl) rfl (fun K hK => ?_)
              go_simp
              refine ⟨trivial, ?_⟩
              refine (callsIn_wide.2 (wholeS 1 _ (by omega) (by omega))).mono ?_
              rintro e w3 ⟨q1, zs2, us2, rfl, hb1, o1, a1, m1, m2⟩
              have hq : Below wr.heap.size wr w3 := below_on (unhide Q2) hb1
              refine hK _ _ (fun _ => ⟨hq, rfl, rfl, rfl, rfl, rfl, rfl, rfl, rfl⟩) ?_
              clear hK K
              have I1 := hide (isQ_of a1 m1 m2)
              have O2 := hide ((unhide O1).later hb1)
              have Q3 := hide hq
              clear hb1 o1 a1 m1 m2 hq O1
              simp only [Act.put, List.setIfInBounds_toArray, List.set_cons_succ, List.set_cons_zero]
              refine held_step (i := 8) (by kernel_rfl) rfl (fun K hK => ?_)
              go_simp
              refine ⟨trivial, ?_⟩
              refine (callsIn_wide.2 (divQS q1 u 1 1 V.1 V.2 _ (unhide I1) ((unhide IU).later (unhide Q3)) (by have := (unhide TN).pos; omega) ((Bd.small (by decide)).mono (by omega)) ((Bd.small (by decide)).mono (by omega)) ((unhide VJ).kn.mono (by omega)) ((unhide VJ).kd.mono (by omega)))).mono ?_
              rintro e w4 ⟨r1, rfl, hb1, o1, o2⟩
              rw [(sp_div (unhide TN)).1] at o1
              rw [(sp_div (unhide TN)).2] at o2
              have hq : Below wr.heap.size wr w4 := below_on (unhide Q3) hb1
              refine hK _ _ (fun _ => ⟨hq, rfl, rfl, rfl, rfl, rfl, rfl, rfl, rfl⟩) ?_
              clear hK K
              have I2 : Hid (IsQ w4 r1 V.2 V.1) := hide ⟨o1.is, o2.is⟩
              have O3 := hide ((unhide O2).later hb1)
              have Q4 := hide hq
              clear hb1 o1 o2 hq I1 O2
              simp only [Act.put, List.setIfInBounds_toArray, List.set_cons_succ, List.set_cons_zero]
              refine held_step (i := 9) (by kernel_rfl) rfl (fun K hK => ?_)
              go_simp
              refine ⟨trivial, ?_⟩
              refine (callsIn_wide.2 (addQS ⟨y.1, b1⟩ r1 T 1 V.2 V.1 _ ⟨(unhide IY).later (unhide Q4), unhide O3⟩ (unhide I2) (by have := (unhide TN).pos; omega) ((unhide BY).mono (by omega)) ((Bd.small (by decide)).mono (by omega)) ((unhide VJ).kd.mono (by omega)) ((unhide VJ).kn.mono (by omega)))).mono ?_
              rintro e w5 ⟨v, rfl, hb1, o1, o2⟩
              rw [(sp_add T (unhide TN)).1] at o1
              rw [(sp_add T (unhide TN)).2] at o2
              have hq : Below wr.heap.size wr w5 := below_on (unhide Q4) hb1
              refine hK _ _ (fun _ => ⟨hq, rfl, rfl, rfl, rfl, rfl, rfl, rfl, rfl⟩) ?_
              clear hK K
              have OA := hide o1
              have OB := hide o2
              replace gfr := fun o => frozen_later hq (World.block_lt_of_cell? _ _ c0) (gfr o)
              replace c0 := cell_later hq c0
              replace c1 := cell_later hq c1
              replace c2 := cell_later hq c2
              replace c3 := cell_later hq c3
              have sz5 := hq.size
              have Q5 := hide hq
              clear hb1 o1 o2 hq I2 O3 E0 E1
              simp only [Act.put, List.setIfInBounds_toArray, List.set_cons_succ, List.set_cons_zero]
              refine held_step (i := 10) (by kernel_rfl) rfl (fun K hK => ?_)
              go_simp
              refine hK _ _ (fun e => by cases e) ?_
              clear hK K
              simp only [Act.put, List.setIfInBounds_toArray, List.set_cons_succ, List.set_cons_zero]
              refine held_done (by kernel_rfl) ?_
              go_wp2
              go_roundw
              case rel =>
                have q3 := ouS_set (q := v) (V := tvF V T) (below_on (unhide BEL) (unhide Q5)) glo (by omega) c0 c1 c2 c3 gfr (fun W' bt bb => ⟨((unhide OA).unbox bt c0).is, ((unhide OB).unbox bt c0).is⟩)
                refine ⟨j + 1, by omega, by go_num, hide ?_⟩
                rw [← unhide HV2, unhide CP]
                exact q3
              case measure => simp [intOf]; omega
            · obtain rfl : i = j + 1 := by omega
              have i0 : ¬ ((0 : Int) ≤ ((j + 1 : Nat) : Int) - 2 - j) := by omega
              have EV : Hid (tv ((l.reverse.take (j + 1)).map fun y => sv y.2.g y.2.xs) = tvd (l.map Prod.snd)) := hide (by rw [List.take_of_length_le (by simp; rw [unhide HN]; omega)]; exact tvd_eq l)
              rw [unhide EV] at HI
              have DP := hide (gT_den (unhide GT))
              have GB := hide ((gTb_iff _).2 (unhide GT))
              obtain ⟨u, c0, c1, c2, c3, iu⟩ := (unhide HI).val
              have IU := hide iu
              have BEL := hide (unhide HI).bel
              have szb := (unhide HI).bel.size
              clear iu HI
              go_wp2_with fail
              refine (fitsQS u _ _ _ (unhide IU) (unhide DP)).mono ?_
              rintro e w2 ⟨v, dv, ok, rfl, hb2, ov, hu⟩
              have hbz := below_on (unhide BEL) hb2
              have sz2 := hb2.size
              have r0 : w2.cell? ⟨w.heap.size, 0, none⟩ = some (.bool false) := (hbz.cell (p := ⟨w.heap.size, 0, none⟩) (by show w.heap.size < _; omega)).trans (unhide RC).1
              have r1 : w2.cell? ⟨w.heap.size, 1, none⟩ = some (.slice none 0 0) := (hbz.cell (p := ⟨w.heap.size, 1, none⟩) (by show w.heap.size < _; omega)).trans (unhide RC).2.1
              have r2 : w2.cell? ⟨w.heap.size, 2, none⟩ = some (.bool false) := (hbz.cell (p := ⟨w.heap.size, 2, none⟩) (by show w.heap.size < _; omega)).trans (unhide RC).2.2.1
              have r3 : w2.cell? ⟨w.heap.size, 3, none⟩ = some (.slice none 0 0) := (hbz.cell (p := ⟨w.heap.size, 3, none⟩) (by show w.heap.size < _; omega)).trans (unhide RC).2.2.2.1
              have rf : ∀ o, w2.frozen? ⟨w.heap.size, o, none⟩ = false := fun o => frozen_later hbz (by omega) ((unhide RC).2.2.2.2 o)
              have HZ := hide hbz
              have OV := hide ov
              have UU := hide (show AnsQ (gTb (l.map Prod.snd)) (tvd (l.map Prod.snd)).1 (tvd (l.map Prod.snd)).2 dv ok from by rw [unhide GB]; exact hu)
              clear hbz hb2 ov hu c0 c1 c2 c3
              go_wp2
              refine bodyPost_ret (v := .tuple #[.agg #[.bool v.num.g, .slice v.num.a v.num.n v.num.c, .bool v.den.g, .slice v.den.a v.den.n v.den.c], .bool ok]) (by simp [results, Try.results21, go_sem, r0, r1, r2, r3]) rfl ?_
              exact retQ_fin (v := v) (d := dv) (R := w.heap.size) (Nat.le_refl _) (below_on (unhide HW) (unhide HZ)) (metQ_but (w5 := w2) (v := v) (G := w.heap.size)) ((unhide OV).wide (by omega) (by omega)) (unhide UU)
      · have NO := hide (show ¬ gT (l.map Prod.snd) from fun h => hin (by have := h.1; rw [List.length_map, unhide HN] at this; exact this))
        go_wp2_with fail
        refine (in_ok2 _ _ _ _ false (by rw [eq_comm]; exact decide_eq_false (by omega))).mono ?_
        rintro e w1 ⟨rfl, rfl⟩
        have r0 : w1.cell? ⟨w.heap.size, 0, none⟩ = some (.bool false) := ((unhide HB).cell (p := ⟨w.heap.size, 0, none⟩) (by show w.heap.size < _; omega)).trans (unhide RC).1
        have r1 : w1.cell? ⟨w.heap.size, 1, none⟩ = some (.slice none 0 0) := ((unhide HB).cell (p := ⟨w.heap.size, 1, none⟩) (by show w.heap.size < _; omega)).trans (unhide RC).2.1
        have r2 : w1.cell? ⟨w.heap.size, 2, none⟩ = some (.bool false) := ((unhide HB).cell (p := ⟨w.heap.size, 2, none⟩) (by show w.heap.size < _; omega)).trans (unhide RC).2.2.1
        have r3 : w1.cell? ⟨w.heap.size, 3, none⟩ = some (.slice none 0 0) := ((unhide HB).cell (p := ⟨w.heap.size, 3, none⟩) (by show w.heap.size < _; omega)).trans (unhide RC).2.2.2.1
        have rf : ∀ o, w1.frozen? ⟨w.heap.size, o, none⟩ = false := fun o => frozen_later (unhide HB) (by omega) ((unhide RC).2.2.2.2 o)
        have AN := hide (show AnsQ (gTb (l.map Prod.snd)) (tvd (l.map Prod.snd)).1 (tvd (l.map Prod.snd)).2 (⟨⟨false, []⟩, ⟨false, []⟩⟩ : QD) false from by rw [gTb_no (unhide NO)]; exact ansQ_none _ _)
        go_wp2
        refine bodyPost_ret (v := .tuple #[.agg #[.bool false, .slice none 0 0, .bool false, .slice none 0 0], .bool false]) (by simp [results, Try.results21, go_sem, r0, r1, r2, r3]) rfl ?_
        exact retQ_fin (v := (⟨⟨false, none, 0, 0⟩, ⟨false, none, 0, 0⟩⟩ : QV)) (d := (⟨⟨false, []⟩, ⟨false, []⟩⟩ : QD)) (R := w.heap.size) (Nat.le_refl _) (below_on (unhide HW) (unhide HB)) (metQ_but (w5 := w1) (v := (⟨⟨false, none, 0, 0⟩, ⟨false, none, 0, 0⟩⟩ : QV)) (G := w.heap.size)) (zeroQ _ _ _) (unhide AN)
end Go.Proofs.Ytliaddmkomcmnaa
namespace Go.Proofs.Ytliaddmkomcmnaa
open Go.RowKit
set_option linter.unusedVariables false
set_option maxRecDepth 100000
set_option linter.unusedSimpArgs false

set_option maxRecDepth 100000 in
set_option maxHeartbeats 16000000 in
theorem lawFromT_walk (a0 : Option Addr) (n0 c0 : Nat) (l0 : List (BV × BD))   (w : World) (h0 : PSlB w a0 l0) (hn0 : l0.length = n0)  (hm0 : n0 ≤ maxLen) (ml0 : ∀ p ∈ l0, p.1.n ≤ maxLen)  :
    Calls Try.prog 4 #[.slice a0 n0 c0] w fun e w' => e = .returned (.bool true) ∧ Below w.heap.size w w' := by
  obtain ⟨U, HU⟩ : ∃ U : QD → Bool → Prop, Hid (U = AnsQ (gTb (l0.map Prod.snd)) (tvd (l0.map Prod.snd)).1 (tvd (l0.map Prod.snd)).2) := ⟨_, hide rfl⟩
  have US : Hid (∀ d ok d' ok', U d ok → U d' ok' → d = d' ∧ ok = ok') := hide (by rw [unhide HU]; exact fun d ok d' ok' h k => h.same k)
  have UL : Hid (∀ d ok, U d ok → d.num.xs.length ≤ 40 ∧ d.den.xs.length ≤ 40) := hide (by rw [unhide HU]; exact fun d ok h => h.lens)
  have CS : Hid (∀ (a : Option Addr) (n c : Nat) (k : List (BV × BD))  (w : World), PArB w a n c k → k.map Prod.snd = l0.map Prod.snd → Calls Try.prog 21 #[.slice a n c] w (RetQ w U)) := hide (by rw [unhide HU]; exact fun a n c k w h e => by have := FromTPS a n c k w h; rw [e] at this; exact this)
  have CI : Hid (∀ (a : Option Addr) (n c : Nat) (k : List (BV × BD))  (w : World), PArB w a n c k → k.map Prod.snd = l0.map Prod.snd → Calls Try.prog 23 #[.slice a n c] w (RetQ w U)) := hide (by rw [unhide HU]; exact fun a n c k w h e => by have := FromTPI a n c k w h; rw [e] at this; exact this)
  clear HU
  have SZ0 := hide (fun w1 (left : Int) (b0 : 0 ≤ left) (b1 : left ≤ 1048576) (k : PSlB w1 a0 l0) => szPB a0 n0 c0 l0 left w1 k hn0 hm0 ml0 b0 b1)
  have HS0 := hide h0
  have HN0 := hide hn0
  clear h0 hn0 hm0 ml0 
  have HB := hide (Below.refl w.heap.size w)
  go_enter Try.func4, Try.ntmps4
  go_wp2_with fail
  refine (unhide SZ0 _ 1048576 (by omega) (by omega) ((unhide HS0).later (unhide HB))).mono ?_
  rintro e ws0 ⟨r0, rfl, hb, hr⟩
  have z := hb.size
  replace HB := hide (below_on (unhide HB) hb)
  clear hb SZ0
  replace z : w.heap.size ≤ ws0.heap.size := z
  by_cases hneg : r0 < 0
  · clear hr
    go_wp2
    go_ret
    exact ⟨rfl, (unhide HB)⟩
  have e0 : Hid (r0 = 1048576 - (n0 : Int) - (lenPB l0 : Int)) := hide (by
    rcases hr with e | e
    · exact absurd (show r0 < 0 by omega) hneg
    · exact e.2)
  clear hr
  have b0 : r0 ≤ 1048576 := by have := unhide e0; omega
  have pp0 : 0 ≤ r0 := by omega
  have M0 : Hid (∀ p ∈ l0, p.1.n ≤ 1048576) := hide (fun p hp => by have h1 := lenPB_mem hp; have h2 : lenB p = p.1.n := rfl; have := unhide e0; omega)
  have Z0 : Hid (n0 + lenPB l0 ≤ 3200000) := hide (by have := unhide e0; omega)
  have TT0 := hide (fun w1 (k : PSlB w1 a0 l0) => toPB a0 n0 c0 l0 w1 k (unhide HN0) (by have := unhide e0; omega) (unhide M0))
  go_wp2_with fail
  refine (unhide TT0 _ ((unhide HS0).later (unhide HB))).mono ?_
  rintro e ws ⟨ls, rfl, hb, zs, ds, os⟩
  have szs := hb.size
  replace HB := hide (below_on (unhide HB) hb)
  have Ds := hide ds
  have Os := hide os
  clear hb ds os
  go_wp2_with fail
  refine (unhide CS _ _ _ ls _ (unhide Os).arg (unhide Ds)).mono ?_
  rintro e wc ⟨vr, dr, okr, rfl, hb, hown, hu⟩
  have V0 := hide (VarQ.start 33 hown)
  have UR := hide hu
  have ss := hb.size
  replace HB := hide (below_on (unhide HB) hb)
  replace HB := hide ((unhide HB).alloc (unhide HB).size (.cells #[.bool vr.num.g, .slice vr.num.a vr.num.n vr.num.c, .bool vr.den.g, .slice vr.den.a vr.den.n vr.den.c] 33))
  clear hb hown hu Os Ds
  have zG1 : w.heap.size ≤ wc.heap.size := by omega
  have r_0 : vr.num.n ≤ 40 := by rw [← ((unhide V0).own.own (vr.num, dr.num) (by simp)).len]; exact (unhide UL _ _ (unhide UR)).1
  have rm0 : vr.num.n ≤ maxLen := by unfold maxLen; omega
  have rl0 : vr.num.n ≤ 1048576 := by omega
  have r_1 : vr.den.n ≤ 40 := by rw [← ((unhide V0).own.own (vr.den, dr.den) (by simp)).len]; exact (unhide UL _ _ (unhide UR)).2
  have rm1 : vr.den.n ≤ maxLen := by unfold maxLen; omega
  have rl1 : vr.den.n ≤ 1048576 := by omega
  go_wp2_with fail
  refine (unhide TT0 _ ((unhide HS0).later (unhide HB))).mono ?_
  rintro e wx ⟨lx, rfl, hb, zx, dx, ox⟩
  have szx := hb.size
  simp only [World.size_alloc] at ox szx zx
  replace V0 := hide ((unhide V0).later hb)
  replace HB := hide (below_on (unhide HB) hb)
  have Dx := hide dx
  have Ox := hide ox
  clear hb dx ox
  go_wp2_with fail
  refine (unhide CI _ _ _ lx  _ (unhide Ox).arg (unhide Dx) ).mono ?_
  rintro e w5 ⟨vg, dg, okg, rfl, hb, hown, hu⟩
  obtain ⟨e1, e2⟩ := unhide US _ _ _ _ (unhide UR) hu
  subst e1 e2
  have VG := hide (VarQ.start 33 hown)
  have sg : wx.heap.size ≤ w5.heap.size := by have := hb.size; exact this
  have en0 : vg.num.n = vr.num.n := by rw [← ((unhide VG).own.own (vg.num, dr.num) (by simp)).len, ← ((unhide V0).own.own (vr.num, dr.num) (by simp)).len]
  have q0 : vg.num.n ≤ 40 := by omega
  have qm0 : vg.num.n ≤ maxLen := by omega
  have ql0 : vg.num.n ≤ 1048576 := by omega
  have en1 : vg.den.n = vr.den.n := by rw [← ((unhide VG).own.own (vg.den, dr.den) (by simp)).len, ← ((unhide V0).own.own (vr.den, dr.den) (by simp)).len]
  have q1 : vg.den.n ≤ 40 := by omega
  have qm1 : vg.den.n ≤ maxLen := by omega
  have ql1 : vg.den.n ≤ 1048576 := by omega
  replace V0 := hide ((unhide V0).later hb)
  replace Ox := hide ((unhide Ox).later hb)
  replace HB := hide (below_on (unhide HB) hb)
  clear hb hown hu
  replace V0 := hide ((unhide V0).later ((Below.refl _ _).alloc (Nat.le_refl _) (.cells #[.bool vg.num.g, .slice vg.num.a vg.num.n vg.num.c, .bool vg.den.g, .slice vg.den.a vg.den.n vg.den.c] 33)))
  replace Ox := hide ((unhide Ox).later ((Below.refl _ _).alloc (Nat.le_refl _) (.cells #[.bool vg.num.g, .slice vg.num.a vg.num.n vg.num.c, .bool vg.den.g, .slice vg.den.a vg.den.n vg.den.c] 33)))
  replace HB := hide ((unhide HB).alloc (unhide HB).size (.cells #[.bool vg.num.g, .slice vg.num.a vg.num.n vg.num.c, .bool vg.den.g, .slice vg.den.a vg.den.n vg.den.c] 33))
  have enh0 := hide en0
  clear en0
  have enh1 := hide en1
  clear en1
  have PX : Hid (PRoB (wc.heap.size + 1) wx.heap.size (w5.alloc (.cells #[.bool vg.num.g, .slice vg.num.a vg.num.n vg.num.c, .bool vg.den.g, .slice vg.den.a vg.den.n vg.den.c] 33)) (some ⟨wc.heap.size + 1, 0, none⟩) n0 n0 lx) := hide ((unhide Ox).ro (Nat.lt_succ_self _) (by omega) (by rw [lenPB_snd (unhide Ox).arg.sl (unhide HS0) (unhide Dx)]; exact unhide Z0) (ml_sndB (unhide Ox).arg.sl (unhide HS0) (unhide Dx) (unhide M0)))
  have KL : Hid (lenPB lx = lenPB l0 ∧ lx.length = n0) := hide ⟨lenPB_snd (unhide Ox).arg.sl (unhide HS0) (unhide Dx), (unhide Ox).len⟩
  clear Ox
  have p0 := (unhide V0).c0
  have p1 := (unhide V0).c1
  have p2 := (unhide V0).c2
  have p3 := (unhide V0).c3
  have okk : (okr == okr) = true := by simp
  go_wp2_with fail
  refine (eqQ_at vg vr dr _ (unhide VG).own.sl (unhide V0).own.sl qm0 qm1).mono ?_
  rintro e w6 ⟨rfl, hb⟩
  have sz6 := hb.size
  clear p0 p1 p2 p3
  replace V0 := hide ((unhide V0).later hb)
  replace VG := hide ((unhide VG).later hb)
  replace PX := hide ((unhide PX).later hb)
  replace HB := hide (below_on (unhide HB) hb)
  clear hb
  go_wp2_with fail
  refine (unhide TT0 _ ((unhide HS0).later (unhide HB))).mono ?_
  rintro e wy ⟨ly, rfl, hb, zy, dy, oy⟩
  have szy := hb.size
  replace V0 := hide ((unhide V0).later hb)
  replace VG := hide ((unhide VG).later hb)
  replace PX := hide ((unhide PX).later hb)
  replace HB := hide (below_on (unhide HB) hb)
  have Dy := hide dy
  have Oy := hide oy
  clear hb dy oy
  go_wp2_with fail
  refine (eqPB _ _ n0 _ _ lx ly _ (unhide PX).sl (unhide Oy).arg.sl (unhide PX).len ((unhide Dx).trans (unhide Dy).symm) (unhide PX).max (unhide PX).lens).mono ?_
  rintro e wy1 ⟨rfl, hb⟩
  have szy1 := hb.size
  replace V0 := hide ((unhide V0).later hb)
  replace VG := hide ((unhide VG).later hb)
  replace PX := hide ((unhide PX).later hb)
  replace HB := hide (below_on (unhide HB) hb)
  clear hb Oy Dy zy
  have WW : w5.heap.size + 1 ≤ wy1.heap.size := by simp at sz6; omega
  clear sz6 szy szy1
  generalize w5.heap.size = GG at *
  generalize wx.heap.size = GX0 at *
  generalize wc.heap.size = GC at *
  go_wp2_with fail
  refine (markRB _ _ _ n0 n0 lx _ (unhide PX) (by omega)).mono ?_
  rintro e wm0 ⟨kk, rfl, kq, hbt⟩
  have kb : 0 ≤ kk ∧ True := ⟨kq, trivial⟩
  replace HB := hide (hbt.below (unhide HB) (by omega) (unhide HB).size)
  replace V0 := hide ((unhide V0).but hbt (by omega) (by omega))
  replace VG := hide ((unhide VG).but hbt (by omega) (by omega))
  replace WW : GG + 1 ≤ wm0.heap.size := Nat.le_trans WW hbt.size
  clear hbt PX KL
  have kb0 := hide kb.2
  replace kb := kb.1
  have hk0 : decide (kk < 0) = false := decide_eq_false (by omega)
  have p0 := (unhide VG).c0
  have pq0 := (unhide V0).c0
  have p1 := (unhide VG).c1
  have pq1 := (unhide V0).c1
  have p2 := (unhide VG).c2
  have pq2 := (unhide V0).c2
  have p3 := (unhide VG).c3
  have pq3 := (unhide V0).c3
  go_wp2_with fail
  refine (eqQ_at vg vr dr _ (unhide VG).own.sl (unhide V0).own.sl qm0 qm1).mono ?_
  rintro e w20 ⟨rfl, hb⟩
  clear p0 pq0 p1 pq1 p2 pq2 p3 pq3 hk0
  replace WW : GG + 1 ≤ w20.heap.size := Nat.le_trans WW hb.size
  replace V0 := hide ((unhide V0).later hb)
  replace VG := hide ((unhide VG).later hb)
  replace HB := hide (below_on (unhide HB) hb)
  clear hb
  have p0 := (unhide VG).c0
  have p1 := (unhide VG).c1
  have p2 := (unhide VG).c2
  have p3 := (unhide VG).c3
  go_wp2_with fail
  refine (markQ_at vg dr [] [] 1 (GX0) GG _ (unhide VG).own ql0 ql1 (by have := (unhide VG).gt; omega) (by omega) (by omega)).mono ?_
  rintro e w21 ⟨rfl, hbt, hmk⟩
  replace HB := hide (hbt.below (unhide HB) (by omega) (unhide HB).size)
  replace V0 := hide ((unhide V0).but hbt (by omega) (by omega))
  replace VG := hide ((unhide VG).mark (d' := ⟨⟨dr.num.g, marks 1 vg.num.n⟩, ⟨dr.den.g, marks (1 + vg.num.n) vg.den.n⟩⟩) hbt (by omega) hmk)
  clear p0 p1 p2 p3 hbt hmk
  have p0 := (unhide VG).c0
  have p1 := (unhide VG).c1
  have p2 := (unhide VG).c2
  have p3 := (unhide VG).c3
  go_wp2_with fail
  refine (heldQ_at vg 1 _ ((unhide VG).own.sl (vg.num, ⟨dr.num.g, marks 1 vg.num.n⟩) (by simp)).sl ((unhide VG).own.sl (vg.den, ⟨dr.den.g, marks (1 + vg.num.n) vg.den.n⟩) (by simp)).sl ql0 ql1 (by omega) (by omega)).mono ?_
  rintro e wk ⟨rfl, hb⟩
  replace V0 := hide ((unhide V0).later hb)
  replace VG := hide ((unhide VG).later hb)
  replace HB := hide (below_on (unhide HB) hb)
  have hr0 : ¬ ((1 : Int) + (vg.num.n : Int) + (vg.den.n : Int) < 0) := by omega
  have zk : w.heap.size + 0 ≤ wk.heap.size := by have h1 := (unhide VG).gt; omega
  clear p0 p1 p2 p3 hb
  go_wp2_with fail
  refine (unhide TT0 _ ((unhide HS0).later (unhide HB))).mono ?_
  rintro e wh ⟨lh, rfl, hb, zh, dh, oh⟩
  have szh := hb.size
  replace V0 := hide ((unhide V0).later hb)
  replace VG := hide ((unhide VG).later hb)
  replace HB := hide (below_on (unhide HB) hb)
  have Dh := hide dh
  have Oh := hide oh
  clear hb dh oh
  go_wp2_with fail
  refine (unhide CI _ _ _ lh _ (unhide Oh).arg (unhide Dh)).mono ?_
  rintro e wh9 ⟨vh, dh, okh, rfl, hb, hown, hu⟩
  obtain ⟨e1, e2⟩ := unhide US _ _ _ _ (unhide UR) hu
  subst e1 e2
  have VH := hide (VarQ.start 33 hown)
  replace V0 := hide ((unhide V0).later hb)
  replace VG := hide ((unhide VG).later hb)
  replace HB := hide (below_on (unhide HB) hb)
  replace HB := hide ((unhide HB).alloc (unhide HB).size (.cells #[.bool vh.num.g, .slice vh.num.a vh.num.n vh.num.c, .bool vh.den.g, .slice vh.den.a vh.den.n vh.den.c] 33))
  replace V0 := hide ((unhide V0).later ((Below.refl _ _).alloc (Nat.le_refl _) (.cells #[.bool vh.num.g, .slice vh.num.a vh.num.n vh.num.c, .bool vh.den.g, .slice vh.den.a vh.den.n vh.den.c] 33)))
  replace VG := hide ((unhide VG).later ((Below.refl _ _).alloc (Nat.le_refl _) (.cells #[.bool vh.num.g, .slice vh.num.a vh.num.n vh.num.c, .bool vh.den.g, .slice vh.den.a vh.den.n vh.den.c] 33)))
  clear hb hown hu Oh Dh
  have hm0 : vh.num.n ≤ maxLen := by rw [← ((unhide VH).own.own (vh.num, dr.num) (by simp)).len, ((unhide V0).own.own (vr.num, dr.num) (by simp)).len]; exact rm0
  have hm1 : vh.den.n ≤ maxLen := by rw [← ((unhide VH).own.own (vh.den, dr.den) (by simp)).len, ((unhide V0).own.own (vr.den, dr.den) (by simp)).len]; exact rm1
  have p0 := (unhide VH).c0
  have pq0 := (unhide V0).c0
  have p1 := (unhide VH).c1
  have pq1 := (unhide V0).c1
  have p2 := (unhide VH).c2
  have pq2 := (unhide V0).c2
  have p3 := (unhide VH).c3
  have pq3 := (unhide V0).c3
  go_wp2_with fail
  refine (eqQ_at vh vr dr _ (unhide VH).own.sl (unhide V0).own.sl hm0 hm1).mono ?_
  rintro e w30 ⟨rfl, hb⟩
  clear p0 pq0 p1 pq1 p2 pq2 p3 pq3
  replace HB := hide (below_on (unhide HB) hb)
  replace VG := hide ((unhide VG).later hb)
  clear hb VH V0
  have p0 := (unhide VG).c0
  have p1 := (unhide VG).c1
  have p2 := (unhide VG).c2
  have p3 := (unhide VG).c3
  go_wp2_with fail
  refine (heldQ_at vg 1 _ ((unhide VG).own.sl (vg.num, ⟨dr.num.g, marks 1 vg.num.n⟩) (by simp)).sl ((unhide VG).own.sl (vg.den, ⟨dr.den.g, marks (1 + vg.num.n) vg.den.n⟩) (by simp)).sl ql0 ql1 (by omega) (by omega)).mono ?_
  rintro e w31 ⟨rfl, hb⟩
  replace HB := hide (below_on (unhide HB) hb)
  clear p0 p1 p2 p3 hb
  go_wp2
  go_ret
  exact ⟨rfl, (unhide HB)⟩
end Go.Proofs.Ytliaddmkomcmnaa
namespace Go.Proofs.Ytliaddmkomcmnaa
open Go.ChangeShapes Go.WideShapes Go.ChangeAt Go.RowKit Go.Joins
set_option linter.unusedVariables false
set_option maxRecDepth 100000
set_option linter.unusedSimpArgs false

set_option maxRecDepth 100000 in
theorem fromT_holds_lifted (os : Os) (started : os.Started) (H : Type) (enc : TypeId × Value → H) :
    ReturnsInHanded {} Try.checked os 4 .any (Rows.fnExactFromTermsSpec.pre6 enc Try.prog Try.f4 Rows.fnExactFromTermsRow.domain false) (Rows.fnExactFromTermsSpec.post enc Try.prog Try.f4 false true false false) := by
  refine returnsInHanded_of_change (C := Try.checked) own started (by kernel_rfl) Try.func4
    (ChangeSpec.witness6 (enc := enc) (C := Try.checked) false ⟨#[], #[.slice none 0 0], []⟩ 8 (by kernel_rfl) (by kernel_rfl) (by kernel_rfl) (by kernel_rfl)) ?_
  intro W base args ds gs before hval0 hW hcnd _
  have hval : ∀ (j : Nat) t v, Try.f4.params[j]? = some t → args[j]? = some v → Value.okWide Try.prog W .any base t v := hval0
  have hW' := hW
  obtain ⟨p, q, hA0, hV, rfl, hfz, hnd⟩ := hW
  have hA : DataW.TrodAll enc Try.prog W 0 (fun _ => true) true Try.f4.params.toList args.toList ds p := hA0
  rw [Try.params4] at hA hval
  obtain ⟨v0, vs0, d0, ds0, p0, q0, hargs, rfl, rfl, h0, r0⟩ := trodAll_cons hA
  obtain ⟨rfl, rfl, rfl⟩ := trodAll_nil r0
  obtain rfl : args = #[v0] := by cases args; simp_all
  obtain ⟨rfl, rfl⟩ := trodVars_none hV
  have lt0 : ∀ x ∈ p0, x.block < W.heap.size := by obtain ⟨m, hm⟩ := h0; exact DataW.trod_lt m _ _ _ hm
  obtain ⟨a0, n0, c0, l0, rfl, sl0, hn0, hm0, ml0⟩ := open_PB (hval 0 40 v0 rfl rfl) h0
  clear hA0 hval0
  refine (lawFromT_walk a0 n0 c0 l0 W sl0 hn0 hm0 ml0).mono fun e W' ⟨he, bel⟩ => ?_
  subst he
  exact ⟨_, rfl, _, _, _, [], _, [], hW', trodAll_mk1 (shut_bool Try.underlying4 _), (trodAll_cons_mk (Below.trod laidOut (by kernel_rfl) (of_decide_eq_true (by kernel_rfl)) h0 bel lt0) trodAll_mk0), rfl, bel.frame _, fun h => by cases h⟩

theorem fromT_holds_c0 : (Rows.fnExactFromTermsRow.wf (OpenSpec.ofChange Rows.fnExactFromTermsSpec)) = true := by kernel_rfl
theorem fromT_holds_c1 : (laidOutB Try.pinned.checked.prog) = true := by kernel_rfl
theorem fromT_holds_c2 : (mapsRowed Try.pinned.checked.prog) = true := by kernel_rfl
theorem fromT_holds_c3 : (Try.f4.params.all (Try.pinned.checked.prog.readableRec ·)) = true := by kernel_rfl
theorem fromT_holds_c4 : (namedTie Try.pinned.checked.prog Rows.fnExactFromTermsRow.named Rows.fnExactFromTermsSpec.vars) = true := by kernel_rfl
theorem fromT_holds_c5 : (Rows.fnExactFromTermsRow.stops == []) = true := by kernel_rfl
theorem fromT_holds_c6 : (Try.pinned.checked.prog.stops == []) = true := by kernel_rfl
theorem fromT_holds_c7 : (Rows.fnExactFromTermsRow.knobs == []) = true := by kernel_rfl
theorem fromT_holds_c8 : (Try.pinned.checked.prog.stopKnobs == []) = true := by kernel_rfl
theorem fromT_holds_c9 : (Rows.fnExactFromTermsRow.inPlace == Try.pinned.checked.prog.inPlace 4) = true := by kernel_rfl
theorem fromT_holds_c10 : (Rows.fnExactFromTermsRow.unfollowed == Try.pinned.checked.prog.unfollowed 4) = true := by kernel_rfl
theorem fromT_holds_c11 : (Rows.fnExactFromTermsRow.recurses == Try.pinned.checked.prog.recurses 4) = true := by kernel_rfl
theorem fromT_holds_c12 : (Rows.fnExactFromTermsRow.named == Try.pinned.checked.prog.varsNamed 4) = true := by kernel_rfl
theorem fromT_holds_c13 : (Rows.fnExactFromTermsRow.maps == (Try.f4.params.toList ++ Rows.fnExactFromTermsSpec.plain.varTypes Try.pinned.checked.prog).any (Try.pinned.checked.prog.mapsRec ·)) = true := by kernel_rfl
theorem fromT_holds_c14 : (Rows.fnExactFromTermsRow.ifaces == (Try.f4.params.toList ++ Rows.fnExactFromTermsSpec.plain.varTypes Try.pinned.checked.prog).any (Try.pinned.checked.prog.ifacesRec ·)) = true := by kernel_rfl
theorem fromT_holds_c15 : (Rows.fnExactFromTermsRow.mapsOut == Try.pinned.checked.prog.mapsAmong Try.f4.resultTypes.toList) = true := by kernel_rfl
theorem fromT_holds_c16 : (Rows.fnExactFromTermsRow.loops == (Try.f4.params.toList ++ Rows.fnExactFromTermsSpec.plain.varTypes Try.pinned.checked.prog).any (Try.pinned.checked.prog.loopsFrom ·)) = true := by kernel_rfl
theorem fromT_holds_c17 : (Rows.fnExactFromTermsRow.wideKeys == (Try.f4.params.toList ++ Rows.fnExactFromTermsSpec.plain.varTypes Try.pinned.checked.prog ++ Try.f4.resultTypes.toList).any (Try.pinned.checked.prog.wideKeysFrom ·)) = true := by kernel_rfl
theorem fromT_holds_c18 : (Rows.fnExactFromTermsSpec.vars.all (Try.pinned.checked.prog.varReadable ·)) = true := by kernel_rfl
theorem fromT_holds_c19 : (Try.f4.resultTypes.all (fun t => Try.pinned.checked.prog.readableRec t && decide (t < Try.pinned.checked.prog.types.size))) = true := by kernel_rfl
theorem fromT_holds_c20 : (Rows.fnExactFromTermsRow.ifacesOut == Try.f4.resultTypes.toList.any (Try.pinned.checked.prog.ifacesRec ·)) = true := by kernel_rfl
theorem fromT_holds_c21 : (Rows.fnExactFromTermsRow.loopsOut == Try.f4.resultTypes.toList.any (Try.pinned.checked.prog.loopsFrom ·)) = true := by kernel_rfl
theorem fromT_holds_c22 : (Rows.fnExactFromTermsRow.plainKeys == Try.pinned.checked.prog.plainKeys) = true := by kernel_rfl
theorem fromT_holds_c23 : (Rows.fnExactFromTermsRow.shortTexts.isNone) = true := by kernel_rfl
theorem fromT_holds_c24 : (Try.pinned.checked.prog.stopsHeard) = true := by kernel_rfl
theorem fromT_holds_c25 : (Try.pinned.checked.prog.mayEnter) = true := io_enter
theorem fromT_holds_c26 : (Rows.fnExactFromTermsRow.lifted == Try.pinned.checked.prog.liftsFinal) = true := by rw [io_lifts]; kernel_rfl
theorem fromT_holds_c27 : (Try.pinned.checked.prog.make == some Rows.fnExactFromTermsRow.make) = true := by rw [io_make]; kernel_rfl
theorem fromT_holds_c28 : (Rows.fnExactFromTermsRow.kinds == (if Rows.fnExactFromTermsRow.domain.isEmpty then [] else Try.f4.params.toList.map fun t => match Try.pinned.checked.prog.underlying t with | some (.int k) => some k | _ => none)) = true := by kernel_rfl
theorem fromT_holds_c29 : (Rows.fnExactFromTermsRow.pinned == Rows.fnExactFromTermsRow.pinnedBy) = true := by kernel_rfl
theorem fromT_holds_c30 : (Rows.fnExactFromTermsRow.veiled == (Try.f4.params.toList ++ Rows.fnExactFromTermsSpec.plain.varTypes Try.pinned.checked.prog ++ Try.f4.resultTypes.toList).any (Try.pinned.checked.prog.veiledRec ·)) = true := by kernel_rfl
theorem fromT_holds_c31 : (Rows.fnExactFromTermsRow.veiledFits Try.pinned.checked.prog Try.f4.params.toList (Try.f4.params.toList ++ Rows.fnExactFromTermsSpec.plain.varTypes Try.pinned.checked.prog ++ Try.f4.resultTypes.toList)) = true := by kernel_rfl
theorem fromT_holds_and {a b : Bool} (h : a = true) (k : b = true) : (a && b) = true := by rw [h, k]; rfl
theorem fromT_holds_closed : joinedFacts Try.pinned.checked.prog 4 Try.f4 Rows.fnExactFromTermsSpec Rows.fnExactFromTermsRow = true := (fromT_holds_and (fromT_holds_and (fromT_holds_and (fromT_holds_and (fromT_holds_and (fromT_holds_and (fromT_holds_and (fromT_holds_and (fromT_holds_and (fromT_holds_and (fromT_holds_and (fromT_holds_and (fromT_holds_and (fromT_holds_and (fromT_holds_and (fromT_holds_and (fromT_holds_and (fromT_holds_and (fromT_holds_and (fromT_holds_and (fromT_holds_and (fromT_holds_and (fromT_holds_and (fromT_holds_and (fromT_holds_and (fromT_holds_and (fromT_holds_and (fromT_holds_and (fromT_holds_and (fromT_holds_and (fromT_holds_and fromT_holds_c0 fromT_holds_c1) fromT_holds_c2) fromT_holds_c3) fromT_holds_c4) fromT_holds_c5) fromT_holds_c6) fromT_holds_c7) fromT_holds_c8) fromT_holds_c9) fromT_holds_c10) fromT_holds_c11) fromT_holds_c12) fromT_holds_c13) fromT_holds_c14) fromT_holds_c15) fromT_holds_c16) fromT_holds_c17) fromT_holds_c18) fromT_holds_c19) fromT_holds_c20) fromT_holds_c21) fromT_holds_c22) fromT_holds_c23) fromT_holds_c24) fromT_holds_c25) fromT_holds_c26) fromT_holds_c27) fromT_holds_c28) fromT_holds_c29) fromT_holds_c30) fromT_holds_c31)
theorem fromT_holds_named : Try.pinned.checked.prog.funcNamed Rows.fnExactFromTermsRow.func = some 4 := by kernel_rfl
theorem fromT_holds_inst : Try.f4.isInstance Try.pinned.checked.prog Rows.fnExactFromTermsRow.origin Rows.fnExactFromTermsRow.targs := of_decide_eq_true (by kernel_rfl)
theorem fromT_holds_wrap : Try.f4.isWrapper Try.pinned.checked.prog Rows.fnExactFromTermsRow.wrapper Rows.fnExactFromTermsRow.mainSum := by unfold Func.isWrapper; first | (rw [if_pos (by decide +kernel)]; kernel_rfl) | (rw [if_neg (by decide +kernel)]; exact ⟨rfl, rfl⟩)
theorem fromT_holds : Rows.FnExactFromTermsSaid :=
  OpenClaim.holds_of_wide 4 Try.f4 rfl rfl rfl rfl rfl rfl rfl ⟨rfl, rfl, rfl, rfl, rfl⟩ rfl rfl rfl rfl rfl fromT_holds_named Try.func4 fromT_holds_closed fromT_holds_inst fromT_holds_wrap
    (fun os started H enc _ => fromT_holds_lifted os started H enc)
#print axioms fromT_holds
end Go.Proofs.Ytliaddmkomcmnaa
