/- The law FnExactDetOf returns true for every argument and leaves it as it was: the given statement FnExactDetOfSaid. No condition. -/
import Derived.Test.YtaaajmdneaaeeaaFlatQ
import Derived.Test.YtaaajmdneaaeeaaLow
import Derived.Test.YtaaajmdneaaeeaaPackA7
import Derived.Test.YtaaajmdneaaeeaaPackC7
import Derived.Test.YtaaajmdneaaeeaaLaw2
import Derived.Test.YtaaajmdneaaeeaaEq
import Derived.Test.YtaaajmdneaaeeaaMark
import Derived.Test.YtaaajmdneaaeeaaOpenQ
import Derived.Deep.Slices
import Derived.Test.YtaaajmdneaaeeaaIo
namespace Go.Proofs.Ytaaajmdneaaeeaa
open Go.RowKit
set_option linter.unusedVariables false
set_option maxRecDepth 100000
set_option linter.unusedSimpArgs false

/-- The cells of some values in a row. -/
def PAtQ (w : World) (a : Option Addr) (l : List (QV × QD)) : Prop := l = [] ∨ ∃ b off, a = some ⟨b, off, none⟩ ∧ b < w.heap.size ∧ ∀ i (h : i < l.length), w.cell? ⟨b, off + i * 4, none⟩ = some (.bool l[i].1.num.g) ∧ w.cell? ⟨b, off + i * 4 + 1, none⟩ = some (.slice l[i].1.num.a l[i].1.num.n l[i].1.num.c) ∧ w.cell? ⟨b, off + i * 4 + 2, none⟩ = some (.bool l[i].1.den.g) ∧ w.cell? ⟨b, off + i * 4 + 3, none⟩ = some (.slice l[i].1.den.a l[i].1.den.n l[i].1.den.c)
theorem PAtQ.later {w w' : World} {a : Option Addr} {l : List (QV × QD)} (h : PAtQ w a l) (hb : Below w.heap.size w w') : PAtQ w' a l := by
  rcases h with h | ⟨b, off, rfl, h1, h2⟩
  · exact .inl h
  · exact .inr ⟨b, off, rfl, Nat.lt_of_lt_of_le h1 hb.size, fun i hi => ⟨cell_later hb ((h2 i hi).1), cell_later hb ((h2 i hi).2.1), cell_later hb ((h2 i hi).2.2.1), cell_later hb ((h2 i hi).2.2.2)⟩⟩
structure PSlQ (w : World) (a : Option Addr) (l : List (QV × QD)) : Prop where
  at_ : PAtQ w a l
  rd : ∀ p ∈ l, AllSl w [(p.1.num, p.2.num), (p.1.den, p.2.den)]
theorem PSlQ.later {w w' : World} {a : Option Addr} {l : List (QV × QD)} (h : PSlQ w a l) (hb : Below w.heap.size w w') : PSlQ w' a l := ⟨h.at_.later hb, fun p hp => (h.rd p hp).later hb⟩
/-- .. as an argument. -/
structure PArQ (w : World) (a : Option Addr) (n c : Nat) (l : List (QV × QD)) : Prop where
  at_ : PAtQ w a l
  rd : ∀ p ∈ l, AllAr w [(p.1.num, p.2.num), (p.1.den, p.2.den)]
  len : l.length = n
  cap : n ≤ c
  top : c ≤ maxLen
theorem PArQ.later {w w' : World} {a : Option Addr} {n c : Nat} {l : List (QV × QD)} (h : PArQ w a n c l) (hb : Below w.heap.size w w') : PArQ w' a n c l := ⟨h.at_.later hb, fun p hp => (h.rd p hp).later hb, h.len, h.cap, h.top⟩
theorem PArQ.sl {w : World} {a : Option Addr} {n c : Nat} {l : List (QV × QD)} (h : PArQ w a n c l) : PSlQ w a l := ⟨h.at_, fun p hp => (h.rd p hp).sl⟩
end Go.Proofs.Ytaaajmdneaaeeaa
namespace Go.Proofs.Ytaaajmdneaaeeaa
open Go.RowKit
set_option linter.unusedVariables false
set_option maxRecDepth 100000
set_option linter.unusedSimpArgs false

/-- The mark that stands for a sign. -/
def sg (k : Int) : Bool := (k % 3 == 0)
theorem mid_ne {α : Type} {pre post : List α} {y y' : α} {j : Nat} (h : j ≠ pre.length) : (pre ++ y :: post)[j]? = (pre ++ y' :: post)[j]? := by
  by_cases c : j < pre.length
  · rw [List.getElem?_append_left c, List.getElem?_append_left c]
  · rw [List.getElem?_append_right (by omega), List.getElem?_append_right (by omega)]
    obtain ⟨m, hm⟩ : ∃ m, j - pre.length = m + 1 := ⟨j - pre.length - 1, by omega⟩
    rw [hm, List.getElem?_cons_succ, List.getElem?_cons_succ]
theorem mid_eq {α : Type} {pre post : List α} {y : α} : (pre ++ y :: post)[pre.length]? = some y := by
  rw [List.getElem?_append_right (Nat.le_refl _), Nat.sub_self]; rfl
theorem AllOwn.resign {lo hi : Nat} {w w' : World} {pre post : List (BV × BD)} {b : BV} {d : BD} (g : Bool) (h : AllOwn lo hi w (pre ++ (b, d) :: post)) (hb : ∀ k, lo ≤ k → k < w.heap.size → w'.heap[k]? = w.heap[k]?) : AllOwn lo hi w' (pre ++ (⟨g, b.a, b.n, b.c⟩, ⟨g, d.xs⟩) :: post) := by
  have mv : ∀ (a : Option Addr) (zs : List Int), Own2 lo hi w a zs → Own2 lo hi w' a zs := fun a zs ho => by
    rcases ho with e | ⟨b', cur, e, h1, h2, hg, hc⟩
    · exact .inl e
    · exact .inr ⟨b', cur, e, h1, h2, by rw [hb b' h1 (Array.getElem?_eq_some_iff.1 hg).1]; exact hg, hc⟩
  refine ⟨fun p hp => ?_, ?_⟩
  · rcases List.mem_append.1 hp with hp | hp
    · have ho := h.own p (List.mem_append_left _ hp)
      exact ⟨ho.sg, mv _ _ ho.own, ho.len⟩
    · rcases List.mem_cons.1 hp with rfl | hp
      · have ho := h.own (b, d) (List.mem_append_right _ List.mem_cons_self)
        exact ⟨rfl, mv _ _ ho.own, ho.len⟩
      · have ho := h.own p (List.mem_append_right _ (List.mem_cons_of_mem _ hp))
        exact ⟨ho.sg, mv _ _ ho.own, ho.len⟩
  · obtain ⟨p1, p2, p3⟩ := List.pairwise_append.1 h.ap
    obtain ⟨p4, p5⟩ := List.pairwise_cons.1 p2
    refine List.pairwise_append.2 ⟨p1, List.pairwise_cons.2 ⟨fun q hq => p4 q hq, p5⟩, fun p hp q hq => ?_⟩
    rcases List.mem_cons.1 hq with rfl | hq
    · exact p3 p hp (b, d) List.mem_cons_self
    · exact p3 p hp q (List.mem_cons_of_mem _ hq)
theorem But.wide {lo hi lo' hi' : Nat} {w w' : World} (h : But lo hi w w') (h1 : lo' ≤ lo) (h2 : hi ≤ hi') : But lo' hi' w w' := ⟨h.os, h.tape, h.output, h.size, fun k hk hd => h.block k hk (by omega)⟩
theorem setCell_other {w : World} {G o k : Nat} {v : Value} (h : k ≠ G) : (w.setCell ⟨G, o, none⟩ v).heap[k]? = w.heap[k]? := heap_setCell_other w ⟨G, o, none⟩ k v h
theorem PSlQ.data {w : World} {a : Option Addr} {l : List (QV × QD)} (h : PSlQ w a l) : ∀ p ∈ l, p.2.num.xs.length = p.1.num.n ∧ p.2.den.xs.length = p.1.den.n := fun p hp => ⟨(h.rd p hp).head.len, (h.rd p hp).tail.head.len⟩
end Go.Proofs.Ytaaajmdneaaeeaa
namespace Go.Proofs.Ytaaajmdneaaeeaa
open Go.RowKit
set_option linter.unusedVariables false
set_option maxRecDepth 100000
set_option linter.unusedSimpArgs false

/-- The cells of some numbers from block G's start on. -/
def RowB (w : World) (G : Nat) (l : List (BV × BD)) : Prop := ∃ cur, w.heap[G]? = some (.cells cur 27 (0, 0)) ∧ ∀ j p, l[j]? = some p → cur[j * 2]? = some (.bool p.1.g) ∧ cur[j * 2 + 1]? = some (.slice p.1.a p.1.n p.1.c)
theorem RowB.lt {w : World} {G : Nat} {l : List (BV × BD)} (h : RowB w G l) : G < w.heap.size := by
  obtain ⟨cur, hg, _⟩ := h
  exact (Array.getElem?_eq_some_iff.1 hg).1
theorem RowB.cellsAt {w : World} {G : Nat} {l : List (BV × BD)} (h : RowB w G l) {i : Nat} {y : BV × BD} (hy : l[i]? = some y) : w.cell? ⟨G, i * 2, none⟩ = some (.bool y.1.g) ∧ w.cell? ⟨G, i * 2 + 1, none⟩ = some (.slice y.1.a y.1.n y.1.c) := by
  obtain ⟨cur, hg, hc⟩ := h
  have h1 := hc i y hy
  refine ⟨?_, ?_⟩ <;> rw [cell_of_row w G _ cur 27 (0, 0) hg]
  · exact h1.1
  · exact h1.2
theorem RowB.frozen {w : World} {G : Nat} {l : List (BV × BD)} (h : RowB w G l) (o : Nat) : w.frozen? ⟨G, o, none⟩ = false := by
  obtain ⟨cur, hg, hc⟩ := h
  exact frozen_of_row w G o cur 27 hg
theorem RowB.but {w w' : World} {G lo hi : Nat} {l : List (BV × BD)} (h : RowB w G l) (hb : But lo hi w w') (hG : G < lo ∨ hi ≤ G) : RowB w' G l := by
  obtain ⟨cur, hg, hc⟩ := h
  exact ⟨cur, by rw [hb.block G (Array.getElem?_eq_some_iff.1 hg).1 hG]; exact hg, hc⟩
theorem RowB.later {w w' : World} {G : Nat} {l : List (BV × BD)} (h : RowB w G l) (hb : Below w.heap.size w w') : RowB w' G l := by
  obtain ⟨cur, hg, hc⟩ := h
  exact ⟨cur, by rw [hb.block G (Array.getElem?_eq_some_iff.1 hg).1]; exact hg, hc⟩
theorem RowB.g0 {w : World} {G i : Nat} {pre post : List (BV × BD)} {y : BV × BD} (g : Bool) (h : RowB w G (pre ++ y :: post)) (hi : pre.length = i) : RowB (w.setCell ⟨G, i * 2, none⟩ (.bool g)) G (pre ++ ((⟨g, y.1.a, y.1.n, y.1.c⟩ : BV), (⟨g, y.2.xs⟩ : BD)) :: post) := by
  obtain ⟨cur, hg, hc⟩ := h
  subst hi
  refine ⟨cur.setIfInBounds (pre.length * 2) (.bool g), heap_setCell_same w G (pre.length * 2) cur 27 (.bool g) hg, fun j p hp => ?_⟩
  by_cases e : j = pre.length
  · subst e
    rw [mid_eq] at hp
    obtain rfl := Option.some.inj hp
    have h1 := hc pre.length y mid_eq
    have hs : pre.length * 2 < cur.size := (Array.getElem?_eq_some_iff.1 (h1.1)).1
    refine ⟨?_, ?_⟩
    · simp [hs]
    · rw [Array.getElem?_setIfInBounds_ne (by omega)]; exact h1.2
  · rw [mid_ne e (y' := y)] at hp
    have h1 := hc j p hp
    refine ⟨?_, ?_⟩
    · rw [Array.getElem?_setIfInBounds_ne (by omega)]; exact h1.1
    · rw [Array.getElem?_setIfInBounds_ne (by omega)]; exact h1.2
theorem RowB.data {w : World} {G : Nat} {pre post : List (BV × BD)} {v : BV} {d d' : BD} (h : RowB w G (pre ++ (v, d) :: post)) : RowB w G (pre ++ (v, d') :: post) := by
  obtain ⟨cur, hg, hc⟩ := h
  refine ⟨cur, hg, fun j p hp => ?_⟩
  by_cases e : j = pre.length
  · subst e
    rw [mid_eq] at hp
    obtain rfl := Option.some.inj hp
    exact hc pre.length (v, d) mid_eq
  · rw [mid_ne e (y' := (v, d))] at hp
    exact hc j p hp
theorem zipB_mid (pre post : List (BV × BD)) (y : BV × BD) : zipPB (pre ++ y :: post) = zipPB pre ++ (y.1, y.2) :: zipPB post := by simp [zipPB]

theorem markPB0 (a : Option Addr) (c : Nat) (k : Int) (w : World) : Calls Try.prog 57 #[.slice a 0 c, .int .i64 k] w fun e w' => e = .returned (.int .i64 k) ∧ w' = w := by
  go_enter Try.func57, Try.ntmps57
  go_wp2
  refine wp_loop_rounds 1 ?_
  rw [rounds_succ]
  go_wp2
  go_ret
  exact ⟨rfl, rfl⟩
end Go.Proofs.Ytaaajmdneaaeeaa
namespace Go.Proofs.Ytaaajmdneaaeeaa
open Go.RowKit
set_option linter.unusedVariables false
set_option maxRecDepth 100000
set_option linter.unusedSimpArgs false

/-- A slice of numbers that is the call's own: its row and its numbers in blocks from B to below E. -/
structure PRoB (B E : Nat) (w : World) (a : Option Addr) (n c : Nat) (l : List (BV × BD)) : Prop where
  len : l.length = n
  sz : n + lenPB l ≤ 3200000
  ml : ∀ p ∈ l, p.1.n ≤ 1048576
  row : n = 0 ∨ ∃ G lo hi, a = some ⟨G, 0, none⟩ ∧ B ≤ G ∧ G < lo ∧ lo ≤ hi ∧ hi ≤ E ∧ RowB w G l ∧ AllOwn lo hi w (zipPB l)
theorem PRoB.later {B E : Nat} {w w' : World} {a : Option Addr} {n c : Nat} {l : List (BV × BD)} (h : PRoB B E w a n c l) (hb : Below w.heap.size w w') : PRoB B E w' a n c l := by
  refine ⟨h.len, h.sz, h.ml, ?_⟩
  rcases h.row with e | ⟨G, lo, hi, e, h1, h2, h3, h4, h5, h6⟩
  · exact .inl e
  · exact .inr ⟨G, lo, hi, e, h1, h2, h3, h4, h5.later hb, h6.later hb⟩
theorem PRoB.sl {B E : Nat} {w : World} {a : Option Addr} {n c : Nat} {l : List (BV × BD)} (h : PRoB B E w a n c l) : PSlB w a l := by
  rcases h.row with e | ⟨G, lo, hi, e, h1, h2, h3, h4, h5, h6⟩
  · have hl : l = [] := List.length_eq_zero_iff.1 (by rw [h.len]; exact e)
    subst hl
    exact ⟨.inl rfl, fun p hp => by cases hp⟩
  · subst e
    refine ⟨.inr ⟨G, 0, rfl, h5.lt, fun i hi => ?_⟩, fun p hp x hx => h6.sl x (zipPB_mem hp hx)⟩
    have hc := h5.cellsAt (List.getElem?_eq_getElem hi)
    simpa using hc
theorem PRoB.lens {B E : Nat} {w : World} {a : Option Addr} {n c : Nat} {l : List (BV × BD)} (h : PRoB B E w a n c l) : ∀ p ∈ l, p.1.n ≤ maxLen := fun p hp => by
  have := h.ml p hp
  unfold maxLen
  omega
theorem PRoB.max {B E : Nat} {w : World} {a : Option Addr} {n c : Nat} {l : List (BV × BD)} (h : PRoB B E w a n c l) : n ≤ maxLen := by
  have := h.sz
  unfold maxLen
  omega
theorem POwB.ro {lo hi : Nat} {w : World} {G n c : Nat} {l : List (BV × BD)} (h : POwB lo hi w G n c l) (hG : G < lo) (hl : lo ≤ hi) (sz : n + lenPB l ≤ 3200000) (ml : ∀ p ∈ l, p.1.n ≤ 1048576) : PRoB G hi w (some ⟨G, 0, none⟩) n c l := by
  refine ⟨h.len, sz, ml, .inr ⟨G, lo, hi, rfl, Nat.le_refl _, hG, hl, Nat.le_refl _, ?_, h.own⟩⟩
  obtain ⟨M, hr, hM⟩ := h.row
  rcases hr.2 with ⟨h', _⟩ | ⟨g', cap, cur, hv, _, hg, _, _, _, htake⟩
  · simp at h'
  simp only [Value.slice.injEq, Option.some.injEq, Addr.mk.injEq, and_true, true_and] at hv
  obtain ⟨rfl, rfl⟩ := hv
  refine ⟨cur, hg, fun j p hp => ?_⟩
  have hj : j < l.length := (List.getElem?_eq_some_iff.1 hp).1
  have hc := hM j hj
  have e : l[j] = p := by rw [List.getElem?_eq_getElem hj] at hp; exact Option.some.inj hp
  rw [e] at hc
  have hlen := h.len
  have up : ∀ t v, t < n * 2 → M[t]? = some v → cur[t]? = some v := fun t v ht hv => by
    rw [← htake, List.getElem?_take, if_pos ht] at hv
    simpa using hv
  exact ⟨up _ _ (by omega) hc.1, up _ _ (by omega) hc.2⟩
theorem PSlB.dataB {w : World} {a : Option Addr} {l : List (BV × BD)} (h : PSlB w a l) : ∀ p ∈ l, p.2.xs.length = p.1.n := fun p hp => (h.rd p hp).head.len
theorem lenPB_snd {w w' : World} {a a' : Option Addr} {l l' : List (BV × BD)} (h : PSlB w a l) (h' : PSlB w' a' l') (e : l.map Prod.snd = l'.map Prod.snd) : lenPB l = lenPB l' := by
  have key : ∀ k : List (BV × BD), (∀ p ∈ k, p.2.xs.length = p.1.n) → lenPB k = ((k.map Prod.snd).map fun d => d.xs.length).sum := fun k hk => by
    induction k with
    | nil => rfl
    | cons p k ih =>
      have h1 := hk p List.mem_cons_self
      have h2 := ih (fun q hq => hk q (List.mem_cons_of_mem _ hq))
      show lenB p + lenPB k = _
      rw [h2]
      show p.1.n + _ = p.2.xs.length + _
      rw [h1]
      rfl
  rw [key l h.dataB, key l' h'.dataB, e]
theorem ml_sndB {w w' : World} {a a' : Option Addr} {l l' : List (BV × BD)} (h : PSlB w a l) (h' : PSlB w' a' l') (e : l.map Prod.snd = l'.map Prod.snd) (ml : ∀ p ∈ l', p.1.n ≤ 1048576) : ∀ p ∈ l, p.1.n ≤ 1048576 := fun p hp => by
  have h1 : p.2 ∈ l'.map Prod.snd := by rw [← e]; exact List.mem_map.2 ⟨p, hp, rfl⟩
  obtain ⟨q, hq, e2⟩ := List.mem_map.1 h1
  have h2 := h.dataB p hp
  have h3 := h'.dataB q hq
  have h4 := ml q hq
  rw [e2] at h3
  omega
end Go.Proofs.Ytaaajmdneaaeeaa
namespace Go.Proofs.Ytaaajmdneaaeeaa
open Go.RowKit
set_option linter.unusedVariables false
set_option maxRecDepth 100000
set_option linter.unusedSimpArgs false

set_option maxHeartbeats 4000000 in
theorem markPBx (G n c : Nat) (l : List (BV × BD)) (k : Int) (lo hi : Nat) (w : World) (hr : RowB w G l) (ho : AllOwn lo hi w (zipPB l)) (hn : l.length = n) (ml : ∀ p ∈ l, p.1.n ≤ 1048576) (hG : G < lo) (hH : lo ≤ hi) (k0 : 0 ≤ k) (k1 : k + (n : Int) + (lenPB l : Int) ≤ 3900000) :
    Calls Try.prog 57 #[.slice (some ⟨G, 0, none⟩) n c, .int .i64 k] w fun e w' => e = .returned (.int .i64 (k + (n : Int) + (lenPB l : Int))) ∧ But G hi w w' := by
  have HR := hide hr
  have HO := hide ho
  have HN := hide hn
  have ML := hide ml
  clear hr ho hn ml
  have hn1 : n ≤ 3900000 := by omega
  go_enter Try.func57, Try.ntmps57
  go_wp2
  go_loopw [1, 5] (fun kv iv wr => ∃ (i : Nat) (m a b : List (BV × BD)) (q : Int), i ≤ n ∧ iv = .int .i64 i ∧ kv = .int .i64 q ∧ 0 ≤ q ∧ m.length = i ∧ a.length = i ∧ Hid (l = a ++ b) ∧ Hid (q = k + (i : Int) + (lenPB a : Int)) ∧ Hid (RowB wr G (m ++ b)) ∧ Hid (AllOwn lo hi wr (zipPB (m ++ b))) ∧ Hid (But G hi w wr)) (fun _ iv _ => n - (intOf iv).toNat)
  case atStart => exact ⟨0, [], [], l, k, Nat.zero_le _, rfl, rfl, k0, rfl, rfl, hide rfl, hide (by simp [lenPB]), HR, HO, hide (But.refl _ _ _)⟩
  case round =>
    clear HR HO
    obtain ⟨i, m, a, b, q, hi', rfl, rfl, q0, pl, ha, EL, EQ, HR, HO, HB⟩ := hrel
    by_cases hlt : i < n
    · have hlt' : (i : Int) < (n : Int) := by omega
      obtain ⟨y, b', rfl⟩ : ∃ y b', b = y :: b' := by
        cases b with
        | nil => have h1 := unhide HN; rw [unhide EL, List.append_nil] at h1; omega
        | cons y b' => exact ⟨y, b', rfl⟩
      have LB : Hid ((y.1.n : Int) + (q + 1) ≤ 3900000) := hide (by
        have h1 := unhide EQ
        have h2 : lenPB l = lenPB a + (lenB y + lenPB b') := by rw [unhide EL, lenPB_append]; rfl
        have h3 : lenB y = y.1.n := rfl
        omega)
      have l1 : (y.1.n : Int) + (q + 1) ≤ 3900000 := unhide LB
      have m1 : y.1.n ≤ 1048576 := (unhide ML) y (by rw [unhide EL]; simp)
      obtain ⟨c0, c1⟩ := (unhide HR).cellsAt (i := i) (y := y) (by rw [← pl]; exact mid_eq)
      have fz := (unhide HR).frozen
      have gG : G < wr.heap.size := (unhide HR).lt
      have HR1 := hide ((unhide HR).g0 (sg q) pl)
      have HO1 := hide (AllOwn.resign (sg q) (by have h := unhide HO; rw [zipB_mid] at h; exact h) (w' := wr.setCell ⟨G, i * 2, none⟩ (.bool (sg q))) (fun k h1 _ => setCell_other (by omega)))
      have HB1 := hide ((unhide HB).set (p := ⟨G, i * 2, none⟩) (Nat.le_refl _) (by show G < hi; omega) (.bool (sg q)))
      go_wp2_with fail
      refine (mark_at ⟨sg q, y.1.a, y.1.n, y.1.c⟩ ⟨sg q, y.2.xs⟩ (zipPB m) (zipPB b') (q + 1) lo hi _ (unhide HO1) m1 (by omega) (by omega)).mono ?_
      rintro e w2 ⟨rfl, hbt, ho2⟩
      have HR2 : Hid (RowB w2 G ((m ++ [((⟨sg q, y.1.a, y.1.n, y.1.c⟩ : BV), (⟨sg q, marks (q + 1) y.1.n⟩ : BD))]) ++ b')) := hide (by rw [List.append_assoc]; exact ((unhide HR1).but hbt (.inl hG)).data)
      have HO2 : Hid (AllOwn lo hi w2 (zipPB ((m ++ [((⟨sg q, y.1.a, y.1.n, y.1.c⟩ : BV), (⟨sg q, marks (q + 1) y.1.n⟩ : BD))]) ++ b'))) := hide (by rw [List.append_assoc, List.singleton_append, zipB_mid]; exact ho2)
      have HB2 := hide ((unhide HB1).trans (hbt.wide (by omega) (Nat.le_refl _)))
      have EQ2 : Hid (q + 1 + (y.1.n : Int) = k + ((i + 1 : Nat) : Int) + (lenPB (a ++ [y]) : Int)) := hide (by
        have h1 := unhide EQ
        have h2 : lenPB (a ++ [y]) = lenPB a + (lenB y + 0) := by rw [lenPB_append]; rfl
        have h3 : lenB y = y.1.n := rfl
        omega)
      clear hbt ho2 c0 c1 fz HR HO HB HR1 HO1 HB1
      go_wp2
      go_roundw
      case rel => exact ⟨i + 1, _, a ++ [y], b', q + 1 + (y.1.n : Int), by omega, by go_num, rfl, by omega, by simp [pl], by simp [ha], hide (by rw [unhide EL, List.append_assoc]; rfl), EQ2, HR2, HO2, HB2⟩
      case measure => simp [intOf]; omega
    · obtain rfl : i = n := by omega
      have hb : b = [] := by
        have h1 := unhide HN
        rw [unhide EL, List.length_append, ha] at h1
        exact List.length_eq_zero_iff.1 (by omega)
      have EF : Hid (q = k + (i : Int) + (lenPB l : Int)) := hide (by have h := unhide EQ; rw [unhide EL, hb, List.append_nil]; exact h)
      go_wp2
      go_ret
      exact ⟨by rw [← unhide EF]; rfl, unhide HB⟩
/-- A row of numbers: where its slice lies, and its numbers. -/
structure RB where
  a : Option Addr
  n : Nat
  c : Nat
  l : List (BV × BD)
def MAt (w : World) (a : Option Addr) (rs : List RB) : Prop := rs = [] ∨ ∃ b off, a = some ⟨b, off, none⟩ ∧ b < w.heap.size ∧ ∀ i (h : i < rs.length), w.cell? ⟨b, off + i, none⟩ = some (.slice rs[i].a rs[i].n rs[i].c)
theorem MAt.later {w w' : World} {a : Option Addr} {rs : List RB} (h : MAt w a rs) (hb : Below w.heap.size w w') : MAt w' a rs := by
  rcases h with h | ⟨b, off, rfl, h1, h2⟩
  · exact .inl h
  · exact .inr ⟨b, off, rfl, Nat.lt_of_lt_of_le h1 hb.size, fun i hi => cell_later hb (h2 i hi)⟩
structure MSl (w : World) (a : Option Addr) (rs : List RB) : Prop where
  at_ : MAt w a rs
  rd : ∀ r ∈ rs, PSlB w r.a r.l ∧ r.l.length = r.n
theorem MSl.later {w w' : World} {a : Option Addr} {rs : List RB} (h : MSl w a rs) (hb : Below w.heap.size w w') : MSl w' a rs := ⟨h.at_.later hb, fun r hr => ⟨(h.rd r hr).1.later hb, (h.rd r hr).2⟩⟩
structure MAr (w : World) (a : Option Addr) (n c : Nat) (rs : List RB) : Prop where
  at_ : MAt w a rs
  rd : ∀ r ∈ rs, PArB w r.a r.n r.c r.l
  len : rs.length = n
  cap : n ≤ c
  top : c ≤ maxLen
theorem MAr.later {w w' : World} {a : Option Addr} {n c : Nat} {rs : List RB} (h : MAr w a n c rs) (hb : Below w.heap.size w w') : MAr w' a n c rs := ⟨h.at_.later hb, fun r hr => (h.rd r hr).later hb, h.len, h.cap, h.top⟩
theorem MAr.sl {w : World} {a : Option Addr} {n c : Nat} {rs : List RB} (h : MAr w a n c rs) : MSl w a rs := ⟨h.at_, fun r hr => ⟨(h.rd r hr).sl, (h.rd r hr).len⟩⟩
def dM (rs : List RB) : List (List BD) := rs.map (fun r => r.l.map Prod.snd)
def MLn (rs : List RB) : Prop := ∀ r ∈ rs, r.n ≤ maxLen ∧ ∀ p ∈ r.l, p.1.n ≤ maxLen
def szM1 : List RB → Nat
  | [] => 0
  | r :: rs => 1 + r.n + lenPB r.l + szM1 rs
theorem szM1_append (l l' : List RB) : szM1 (l ++ l') = szM1 l + szM1 l' := by
  induction l with
  | nil => simp [szM1]
  | cons r l ih => simp only [List.cons_append, szM1, ih]; omega
theorem szM1_len (l : List RB) : l.length ≤ szM1 l := by
  induction l with
  | nil => simp
  | cons r l ih => simp only [szM1, List.length_cons]; omega
theorem szM1_mem {l : List RB} {r : RB} (h : r ∈ l) : 1 + r.n + lenPB r.l ≤ szM1 l := by
  induction l with
  | nil => cases h
  | cons q l ih =>
    unfold szM1
    rcases List.mem_cons.1 h with rfl | h
    · omega
    · have := ih h; omega
theorem take_succM {l : List RB} {i : Nat} (h : i < l.length) : l.take (i + 1) = l.take i ++ [l[i]] := (List.take_append_getElem h).symm
set_option maxHeartbeats 2000000 in
theorem szM (a : Option Addr) (n c : Nat) (rs : List RB) (left : Int) (w : World) (h : MSl w a rs) (hn : rs.length = n) (hm : n ≤ maxLen) (ml : MLn rs) (h0 : 0 ≤ left) (h1 : left ≤ 1048576) :
    Calls Try.prog 22 #[.slice a n c, .int .i64 left] w fun e w' => ∃ r : Int, e = .returned (.int .i64 r) ∧ Below w.heap.size w w' ∧ (r = -1 ∨ (0 ≤ r ∧ r = left - (szM1 rs : Int))) := by
  have HS := hide h
  have HN := hide hn
  have ML := hide ml
  clear h hn ml
  unfold maxLen at hm
  by_cases c0 : left - (n : Int) < 0
  · go_enter Try.func22, Try.ntmps22
    go_wp2
    go_ret
    exact ⟨_, rfl, Below.refl _ _, .inl rfl⟩
  · go_enter Try.func22, Try.ntmps22
    go_wp2
    go_loopw [1, 5] (fun lv iv wr => ∃ (i : Nat) (r : Int), i ≤ n ∧ iv = .int .i64 i ∧ lv = .int .i64 r ∧ 0 ≤ r ∧ r ≤ 1048576 ∧ Hid (r = left - (n : Int) + (i : Int) - (szM1 (rs.take i) : Int)) ∧ Hid (Below w.heap.size w wr)) (fun _ iv _ => n - (intOf iv).toNat)
    case atStart => exact ⟨0, _, Nat.zero_le _, rfl, rfl, by omega, by omega, hide (by simp [szM1]), hide (Below.refl _ _)⟩
    case round =>
      obtain ⟨i, r, hi, rfl, rfl, r0, r1, ER, HB⟩ := hrel
      by_cases hlt : i < n
      · have hlt' : (i : Int) < (n : Int) := by omega
        rcases (unhide HS).at_ with e | ⟨b, off, rfl, hb, hc⟩
        · exact absurd (unhide HN) (by rw [e]; simp; omega)
        have e0 := hc i (by rw [unhide HN]; exact hlt)
        obtain ⟨y, hy⟩ : ∃ y, y = rs[i]'(by rw [unhide HN]; exact hlt) := ⟨_, rfl⟩
        rw [← hy] at e0
        have MY : Hid (y ∈ rs) := hide (by rw [hy]; exact List.getElem_mem _)
        have TK : Hid (rs.take (i + 1) = rs.take i ++ [y]) := hide (by have h := take_succM (l := rs) (i := i) (by rw [unhide HN]; exact hlt); rw [← hy] at h; exact h)
        clear hy
        have E0 : wr.cell? ⟨b, off + i, none⟩ = some (.slice y.a y.n y.c) := ((unhide HB).cell (p := ⟨b, off + i, none⟩) hb).trans e0
        clear e0 hc
        have hy2 := (unhide HS).rd y (unhide MY)
        have my := (unhide ML) y (unhide MY)
        have CS := hide (szPB y.a y.n y.c y.l r wr (hy2.1.later (unhide HB)) hy2.2 my.1 my.2 r0 r1)
        have TL : Hid ((szM1 (rs.take (i + 1)) : Int) = (szM1 (rs.take i) : Int) + 1 + (y.n : Int) + (lenPB y.l : Int)) := hide (by rw [unhide TK, szM1_append]; show ((_ + (1 + y.n + lenPB y.l + 0) : Nat) : Int) = _; omega)
        clear hy2 my
        go_wp2_with fail
        refine (unhide CS).mono ?_
        rintro e w1 ⟨q, rfl, hb1, hq⟩
        have HB1 := hide (below_on (unhide HB) hb1)
        have HQ := hide hq
        clear hb1 hq E0
        by_cases hneg : q < 0
        · go_wp2
          go_ret
          exact ⟨_, rfl, unhide HB1, .inl rfl⟩
        · have q1 : q ≤ 1048576 := by rcases unhide HQ with e | ⟨_, e⟩ <;> omega
          go_wp2
          go_roundw
          case rel => exact ⟨i + 1, q, by omega, by go_num, rfl, by omega, by omega, hide (by have h1 := unhide ER; have h2 := unhide TL; rcases unhide HQ with e | ⟨_, e⟩ <;> omega), HB1⟩
          case measure => simp [intOf]; omega
      · obtain rfl : i = n := by omega
        have EL : Hid (r = left - (szM1 rs : Int)) := hide (by have := unhide ER; rw [← unhide HN, List.take_length, unhide HN] at this; omega)
        go_wp2
        go_ret
        exact ⟨_, rfl, unhide HB, .inr ⟨r0, unhide EL⟩⟩
theorem get_dM {l l' : List RB} (h : dM l = dM l') {i : Nat} (hi : i < l.length) (hi' : i < l'.length) : l[i].l.map Prod.snd = l'[i].l.map Prod.snd := by
  have := congrArg (fun x => x[i]?) h
  simpa [dM, hi, hi'] using this
set_option maxHeartbeats 2000000 in
theorem eqM (a a' : Option Addr) (n c c' : Nat) (l l' : List RB) (w : World) (h : MSl w a l) (h' : MSl w a' l') (he : dM l = dM l') (hn : l.length = n) (hm : n ≤ maxLen) (ml : MLn l) :
    Calls Try.prog 25 #[.slice a n c, .slice a' n c'] w fun e w' => e = .returned (.bool true) ∧ Below w.heap.size w w' := by
  have hn' : l'.length = n := by have := congrArg List.length he; simp [dM] at this; omega
  have HS := hide h
  have HS' := hide h'
  have HN := hide hn
  have HN' := hide hn'
  have HE := hide he
  have ML := hide ml
  clear h hn ml he hn' h'
  unfold maxLen at hm
  go_enter Try.func25, Try.ntmps25
  go_wp2
  go_loopw [5] (fun iv wr => ∃ (i : Nat), i ≤ n ∧ iv = .int .i64 i ∧ Hid (Below w.heap.size w wr)) (fun iv _ => n - (intOf iv).toNat)
  case atStart => exact ⟨0, Nat.zero_le _, rfl, hide (Below.refl _ _)⟩
  case round =>
    obtain ⟨i, hi, rfl, HB⟩ := hrel
    by_cases hlt : i < n
    · have hlt' : (i : Int) < (n : Int) := by omega
      rcases (unhide HS).at_ with e | ⟨b, off, rfl, hb, hc⟩
      · exact absurd (unhide HN) (by rw [e]; simp; omega)
      rcases (unhide HS').at_ with e | ⟨b', off', rfl, hb', hc'⟩
      · exact absurd (unhide HN') (by rw [e]; simp; omega)
      have E0 : wr.cell? ⟨b, off + i, none⟩ = _ := ((unhide HB).cell (p := ⟨b, off + i, none⟩) hb).trans (hc i (by rw [unhide HN]; exact hlt))
      have F0 : wr.cell? ⟨b', off' + i, none⟩ = _ := ((unhide HB).cell (p := ⟨b', off' + i, none⟩) hb').trans (hc' i (by rw [unhide HN']; exact hlt))
      have ED := hide (get_dM (unhide HE) (i := i) (by rw [unhide HN]; exact hlt) (by rw [unhide HN']; exact hlt))
      have MY := hide (List.getElem_mem (l := l) (n := i) (by rw [unhide HN]; exact hlt))
      have MY' := hide (List.getElem_mem (l := l') (n := i) (by rw [unhide HN']; exact hlt))
      generalize l[i]'(by rw [unhide HN]; exact hlt) = y at E0 ED MY
      generalize l'[i]'(by rw [unhide HN']; exact hlt) = y' at F0 ED MY'
      clear hc hc'
      have hy := (unhide HS).rd y (unhide MY)
      have hy' := (unhide HS').rd y' (unhide MY')
      have my := (unhide ML) y (unhide MY)
      have en : y'.n = y.n := by rw [← hy.2, ← hy'.2]; have := congrArg List.length (unhide ED); simpa using this.symm
      rw [en] at F0
      have CE := hide (eqPB y.a y'.a y.n y.c y'.c y.l y'.l wr.drew (hy.1.later (unhide HB).drew) (hy'.1.later (unhide HB).drew) hy.2 (unhide ED) my.1 my.2)
      clear hy hy' my en
      go_upto_region 6 with fail
      go_region_held3 (fun w' => w'.cell? ⟨b, off + i, none⟩ = some (.slice y.a y.n y.c) ∧ w'.cell? ⟨b', off' + i, none⟩ = some (.slice y'.a y.n y'.c))
        (with_reducible (first | exact ⟨E0, F0⟩ | exact ⟨cd_other E0, cd_other F0⟩ | fail))
        (first
        | (go_at_call 56; refine (unhide CE).mono ?_; rintro e w1 ⟨rfl, hb1⟩; have hbx := below_of_drew hb1; have HB1 := hide (below_on (unhide HB) hbx); replace E0 := cell_later hbx E0; replace F0 := cell_later hbx F0; clear hb1 hbx))
      clear E0 F0
      go_wp2
      go_roundw
      case rel => exact ⟨i + 1, by omega, by go_num, HB1⟩
      case measure => simp [intOf]; omega
    · obtain rfl : i = n := by omega
      go_wp2
      go_ret
      exact ⟨rfl, unhide HB⟩
theorem szM1_same {w w' : World} {a a' : Option Addr} {l l' : List RB} (h : MSl w a l) (h' : MSl w' a' l') (e : dM l = dM l') : szM1 l = szM1 l' := by
  have key : ∀ (l l' : List RB), (∀ r ∈ l, PSlB w r.a r.l ∧ r.l.length = r.n) → (∀ r ∈ l', PSlB w' r.a r.l ∧ r.l.length = r.n) → dM l = dM l' → szM1 l = szM1 l' := by
    intro l
    induction l with
    | nil => intro l' _ _ e; cases l' with
      | nil => rfl
      | cons r l' => simp [dM] at e
    | cons r l ih => intro l' h1 h2 e; cases l' with
      | nil => simp [dM] at e
      | cons r' l' =>
        simp only [dM, List.map_cons, List.cons.injEq] at e
        have i1 := ih l' (fun q hq => h1 q (List.mem_cons_of_mem _ hq)) (fun q hq => h2 q (List.mem_cons_of_mem _ hq)) e.2
        have a1 := h1 r List.mem_cons_self
        have a2 := h2 r' List.mem_cons_self
        have a3 := lenPB_snd a1.1 a2.1 e.1
        have a4 := congrArg List.length e.1
        simp only [List.length_map] at a4
        simp only [szM1]
        omega
  exact key l l' h.rd h'.rd e
/-- A matrix in memory of the law's own: its list of rows at block g, its rows one behind another. -/
structure OwM (lo hi : Nat) (w : World) (g n : Nat) (rs : List RB) : Prop where
  len : rs.length = n
  n1 : n ≤ 1048576
  glo : lo ≤ g
  out : ∃ cur, w.heap[g]? = some (.cells cur 33 (0, 0)) ∧ ∀ i (h : i < rs.length), cur[i]? = some (.slice rs[i].a rs[i].n rs[i].c)
  rows : ∃ e : Nat → Nat, g < e 0 ∧ e n ≤ hi ∧ (∀ i, i < n → e i ≤ e (i + 1)) ∧ ∀ i (h : i < rs.length), PRoB (e i) (e (i + 1)) w rs[i].a rs[i].n rs[i].c rs[i].l ∧ PArB w rs[i].a rs[i].n rs[i].c rs[i].l
theorem PRoB.but7 {B E lo hi : Nat} {w w' : World} {a : Option Addr} {n c : Nat} {l : List (BV × BD)} (h : PRoB B E w a n c l) (hb : But lo hi w w') (hd : E ≤ lo ∨ hi ≤ B) : PRoB B E w' a n c l := by
  refine ⟨h.len, h.sz, h.ml, ?_⟩
  rcases h.row with e | ⟨G, lo', hi', e, h1, h2, h3, h4, h5, h6⟩
  · exact .inl e
  · exact .inr ⟨G, lo', hi', e, h1, h2, h3, h4, h5.but hb (by omega), h6.but hb (by omega)⟩
theorem OwM.later {lo hi : Nat} {w w' : World} {g n : Nat} {rs : List RB} (h : OwM lo hi w g n rs) (hb : Below w.heap.size w w') : OwM lo hi w' g n rs := by
  obtain ⟨cur, h1, h2⟩ := h.out
  obtain ⟨e, k1, k2, k3, k4⟩ := h.rows
  exact ⟨h.len, h.n1, h.glo, ⟨cur, by rw [hb.block g (Array.getElem?_eq_some_iff.1 h1).1]; exact h1, h2⟩, e, k1, k2, k3, fun i hi => ⟨(k4 i hi).1.later hb, (k4 i hi).2.later hb⟩⟩
theorem OwM.arg {lo hi : Nat} {w : World} {g n : Nat} {rs : List RB} (h : OwM lo hi w g n rs) : MAr w (some ⟨g, 0, none⟩) n n rs := by
  obtain ⟨cur, h1, h2⟩ := h.out
  obtain ⟨e, k1, k2, k3, k4⟩ := h.rows
  refine ⟨.inr ⟨g, 0, rfl, (Array.getElem?_eq_some_iff.1 h1).1, fun i hi => ?_⟩, fun r hr => ?_, h.len, Nat.le_refl _, by have := h.n1; unfold maxLen; omega⟩
  · rw [Nat.zero_add, cell_of_row w g _ cur _ (0, 0) h1]; exact h2 i hi
  · obtain ⟨i, hi, rfl⟩ := List.mem_iff_getElem.1 hr
    exact (k4 i hi).2
theorem OwM.mln {lo hi : Nat} {w : World} {g n : Nat} {rs : List RB} (h : OwM lo hi w g n rs) : MLn rs := fun r hr => by
  obtain ⟨e, k1, k2, k3, k4⟩ := h.rows
  obtain ⟨i, hi, rfl⟩ := List.mem_iff_getElem.1 hr
  exact ⟨(k4 i hi).1.max, (k4 i hi).1.lens⟩
theorem e_mono {e : Nat → Nat} {n : Nat} (h : ∀ i, i < n → e i ≤ e (i + 1)) : ∀ {i j : Nat}, i ≤ j → j ≤ n → e i ≤ e j := by
  intro i j hij
  induction j with
  | zero => intro _; obtain rfl : i = 0 := by omega
            exact Nat.le_refl _
  | succ j ih =>
    intro hj
    by_cases c : i = j + 1
    · rw [c]; exact Nat.le_refl _
    · exact Nat.le_trans (ih (by omega) (by omega)) (h j (by omega))
set_option maxHeartbeats 4000000 in
theorem markM_own (g n c : Nat) (rs : List RB) (k : Int) (lo hi : Nat) (w : World) (h : OwM lo hi w g n rs) (k0 : 0 ≤ k) (k1 : k + (szM1 rs : Int) ≤ 3000000) :
    Calls Try.prog 26 #[.slice (some ⟨g, 0, none⟩) n c, .int .i64 k] w fun e w' => ∃ q : Int, e = .returned (.int .i64 q) ∧ 0 ≤ q ∧ q ≤ 3900000 ∧ But lo hi w w' := by
  obtain ⟨cur, h1, h2⟩ := h.out
  obtain ⟨e, g1, g2, g3, g4⟩ := h.rows
  have hlen := h.len
  have n1 := h.n1
  have glo := h.glo
  have HC := hide h2
  have HG := hide h1
  have E3 := hide g3
  have HR := hide (fun i hi => (g4 i hi).1)
  have HL := hide hlen
  have SQ : Hid (∀ i (hi : i < rs.length), (szM1 (rs.take i) : Int) + 1 + (rs[i].n : Int) + (lenPB rs[i].l : Int) ≤ (szM1 rs : Int) ∧ (szM1 (rs.take (i + 1)) : Int) = (szM1 (rs.take i) : Int) + 1 + (rs[i].n : Int) + (lenPB rs[i].l : Int)) := hide (fun i hi => by
    have e1 : szM1 (rs.take (i + 1)) = szM1 (rs.take i) + (1 + rs[i].n + lenPB rs[i].l + 0) := by rw [take_succM hi, szM1_append]; rfl
    have e2 : szM1 rs = szM1 (rs.take (i + 1)) + szM1 (rs.drop (i + 1)) := by rw [← szM1_append, List.take_append_drop]
    constructor <;> omega)
  clear h h1 h2 g3 g4 hlen
  go_enter Try.func26, Try.ntmps26
  go_wp2
  go_loopw [1, 5] (fun kv iv wr => ∃ (i : Nat) (q : Int), i ≤ n ∧ iv = .int .i64 i ∧ kv = .int .i64 q ∧ 0 ≤ q ∧ Hid (q ≤ k + (szM1 (rs.take i) : Int)) ∧ Hid (∀ t (ht : t < rs.length), i ≤ t → PRoB (e t) (e (t + 1)) wr rs[t].a rs[t].n rs[t].c rs[t].l) ∧ Hid (wr.heap[g]? = w.heap[g]?) ∧ Hid (But lo hi w wr)) (fun _ iv _ => n - (intOf iv).toNat)
  case atStart => exact ⟨0, k, Nat.zero_le _, rfl, rfl, k0, hide (by simp [szM1]), hide (fun t ht _ => (unhide HR) t ht), hide rfl, hide (But.refl _ _ _)⟩
  case round =>
    clear HR
    obtain ⟨i, q, hi', rfl, rfl, q0, QB, HR, GE, HT⟩ := hrel
    by_cases hlt : i < n
    · have hlt' : (i : Int) < (n : Int) := by omega
      have hil : i < rs.length := by rw [unhide HL]; exact hlt
      have E0 : wr.cell? ⟨g, i, none⟩ = some (.slice rs[i].a rs[i].n rs[i].c) := by
        rw [cell_of_row wr g _ cur _ (0, 0) ((unhide GE).trans (unhide HG))]
        exact (unhide HC) i hil
      have hro := (unhide HR) i hil (Nat.le_refl _)
      have hq := (unhide SQ) i hil
      have b1 := e_mono (unhide E3) (i := 0) (j := i) (Nat.zero_le _) (by omega)
      have b2 := e_mono (unhide E3) (i := i + 1) (j := n) (by omega) (Nat.le_refl _)
      have b3 := (unhide E3) i hlt
      have qb := unhide QB
      have CM : Hid (Calls Try.prog 57 #[.slice rs[i].a rs[i].n rs[i].c, .int .i64 q] wr fun x w' => ∃ z : Int, x = .returned (.int .i64 z) ∧ 0 ≤ z ∧ z ≤ q + (rs[i].n : Int) + (lenPB rs[i].l : Int) ∧ But (e i) (e (i + 1)) wr w') := hide (by
        rcases hro.row with e0 | ⟨G, lo2, hi2, ea, p1, p2, p3, p4, p5, p6⟩
        · have hl : rs[i].l = [] := List.length_eq_zero_iff.1 (by rw [hro.len]; exact e0)
          rw [e0, hl]
          refine (markPB0 rs[i].a rs[i].c q wr).mono ?_
          rintro x w' ⟨rfl, rfl⟩
          exact ⟨q, rfl, q0, by simp [lenPB], But.refl _ _ _⟩
        · rw [ea]
          refine (markPBx G rs[i].n rs[i].c rs[i].l q lo2 hi2 wr p5 p6 hro.len hro.ml p2 p3 q0 (by omega)).mono ?_
          rintro x w' ⟨rfl, hb⟩
          exact ⟨_, rfl, by omega, Int.le_refl _, hb.wide p1 p4⟩)
      have HQ := hide hq
      obtain ⟨ra, hra⟩ : ∃ x, x = rs[i] := ⟨_, rfl⟩
      rw [← hra] at CM E0 HQ
      clear hro hq qb hra
      go_wp2_with fail
      refine (unhide CM).mono ?_
      rintro x w1 ⟨z, rfl, z0, z1, bt⟩
      have HR1 : Hid (∀ t (ht : t < rs.length), i + 1 ≤ t → PRoB (e t) (e (t + 1)) w1 rs[t].a rs[t].n rs[t].c rs[t].l) := hide (fun t ht hti => ((unhide HR) t ht (by omega)).but7 bt (.inr (e_mono (unhide E3) hti (by rw [← unhide HL]; omega))))
      have hgl := (Array.getElem?_eq_some_iff.1 (unhide HG)).1
      have GE1 : Hid (w1.heap[g]? = w.heap[g]?) := hide ((bt.block g (by have := (unhide HT).size; omega) (by omega)).trans (unhide GE))
      have HT1 := hide ((unhide HT).trans (bt.wide (by omega) (by omega)))
      have ZB : Hid (z ≤ k + (szM1 (rs.take (i + 1)) : Int)) := hide (by have h1 := unhide HQ; have h2 := unhide QB; omega)
      clear bt z1 E0
      go_wp2
      go_roundw
      case rel => exact ⟨i + 1, z, by omega, by go_num, rfl, z0, ZB, HR1, GE1, HT1⟩
      case measure => simp [intOf]; omega
    · obtain rfl : i = n := by omega
      have ZB : Hid (q ≤ 3900000) := hide (by have h := unhide QB; rw [← unhide HL, List.take_length] at h; omega)
      go_wp2
      go_ret
      exact ⟨q, rfl, q0, unhide ZB, unhide HT⟩
set_option maxHeartbeats 4000000 in
theorem toM_own (a : Option Addr) (n c : Nat) (rs : List RB) (w : World) (h : MSl w a rs) (hn : rs.length = n) (h1 : n ≤ 1048576) (sz : szM1 rs ≤ 1048576) :
    Calls Try.prog 23 #[.slice a n c] w fun e w' => ∃ (g : Nat) (ys : List RB), e = .returned (.slice (some ⟨g, 0, none⟩) n n) ∧ Below w.heap.size w w' ∧ dM ys = dM rs ∧ OwM w.heap.size w'.heap.size w' g n ys := by
  have HS := hide h
  have HN := hide hn
  have SZ := hide sz
  clear h hn sz
  obtain ⟨i0, hi0, hz0, hz1, hz2⟩ := info_parts Try.info33
  have I0 := hide (And.intro hi0 (And.intro hz0 (And.intro hz1 hz2)))
  clear hi0 hz0 hz1 hz2
  go_enter Try.func23, Try.ntmps23
  go_wp2_with (at_make; refine wpList_make_full _ rfl _ _ 23 rfl w.heap.size 33 i0 (.slice none 0 0) 1 Try.underlying23 (unhide I0).1 (unhide I0).2.1 (unhide I0).2.2.1 .i64 .i64 _ _ n rfl rfl rfl rfl ?c1 ?c2 ?c3 ?_)
  case c1 => rw [(unhide I0).2.2.2]; omega
  case c2 => unfold maxLen; omega
  case c3 => exact Nat.le_refl _
  intro w0 hown hgrow
  have hb0 : Below w.heap.size w w0 := (Below.refl _ _).grown hgrow (Nat.le_refl _) (fun k e => by cases e)
  have z0 := (madeO_of hown).lt
  have P0 : Hid (∃ M, w0.ownsRow w.heap.size 33 1 (.slice (some ⟨w.heap.size, 0, none⟩) n n) n M) := hide ⟨_, hown⟩
  have HB0 := hide hb0
  clear hown hgrow hb0
  go_wp2
  go_loopw [4] (fun iv wr => ∃ (k : Nat) (us : List RB) (e : Nat → Nat), k ≤ n ∧ iv = .int .i64 k ∧ us.length = k ∧ Hid (dM us = dM (rs.take k)) ∧ Hid (∃ M, wr.ownsRow w.heap.size 33 1 (.slice (some ⟨w.heap.size, 0, none⟩) n n) n M ∧ ∀ i (h : i < us.length), M[i]? = some (.slice us[i].a us[i].n us[i].c)) ∧ Hid (w.heap.size < e 0 ∧ e k ≤ wr.heap.size ∧ (∀ i, i < k → e i ≤ e (i + 1)) ∧ ∀ i (h : i < us.length), PRoB (e i) (e (i + 1)) wr us[i].a us[i].n us[i].c us[i].l ∧ PArB wr us[i].a us[i].n us[i].c us[i].l) ∧ Hid (Below w.heap.size w wr)) (fun iv _ => n - (intOf iv).toNat)
  case atStart =>
    obtain ⟨M, hM⟩ := unhide P0
    exact ⟨0, [], fun _ => w0.heap.size, Nat.zero_le _, rfl, rfl, hide (by simp [dM]), hide ⟨M, hM, fun i hi => absurd hi (by simp)⟩, hide ⟨z0, Nat.le_refl _, fun i hi => by omega, fun i hi => absurd hi (by simp)⟩, HB0⟩
  case round =>
    clear P0 HB0 z0
    obtain ⟨k, us, e, hk, rfl, hu, ED, EM, RW, HB⟩ := hrel
    by_cases hlt : k < n
    · have hlt' : (k : Int) < (n : Int) := by omega
      rcases (unhide HS).at_ with e0 | ⟨b, off, rfl, hb, hc⟩
      · exact absurd (unhide HN) (by rw [e0]; simp; omega)
      have E0 : wr.cell? ⟨b, off + k, none⟩ = _ := ((unhide HB).cell (p := ⟨b, off + k, none⟩) hb).trans (hc k (by rw [unhide HN]; exact hlt))
      have MY := hide (List.getElem_mem (l := rs) (n := k) (by rw [unhide HN]; exact hlt))
      have TK := hide (take_succM (l := rs) (i := k) (by rw [unhide HN]; exact hlt))
      generalize rs[k]'(by rw [unhide HN]; exact hlt) = y at E0 MY TK
      clear hc
      have hy := (unhide HS).rd y (unhide MY)
      have szy := szM1_mem (unhide MY)
      have sz1 := unhide SZ
      have mly : ∀ p ∈ y.l, p.1.n ≤ 1048576 := fun p hp => by have := lenPB_mem hp; have e1 : lenB p = p.1.n := rfl; omega
      have CT := hide (toPB y.a y.n y.c y.l wr (hy.1.later (unhide HB)) hy.2 (by omega) mly)
      have HY := hide hy
      have MLY := hide mly
      have SY := hide (show y.n + lenPB y.l ≤ 3200000 by omega)
      have ny : y.n ≤ 1048576 := by omega
      clear hy mly szy sz1
      go_wp2_with fail
      refine (unhide CT).mono ?_
      rintro x w2 ⟨l', rfl, hb2, zlt, hmap, hpo⟩
      have z2 := hb2.size
      have szw := (unhide HB).size
      have HB1 := hide (below_on (unhide HB) hb2)
      obtain ⟨M, hM, hL⟩ := unhide EM
      replace hM := owns_later7 hM hb2
      obtain ⟨e1, e2, e3, e4⟩ := unhide RW
      have PSL : PSlB w2 (some ⟨wr.heap.size, 0, none⟩) l' := hpo.arg.sl
      have e5 : lenPB l' = lenPB y.l := lenPB_snd PSL (unhide HY).1 hmap
      have PR := hpo.ro (by omega) (by omega) (by have := unhide SY; omega) (ml_sndB PSL (unhide HY).1 hmap (unhide MLY))
      have old0 : ∃ x, w2.cell? ⟨w.heap.size, k, none⟩ = some x := by
        have hl := hM.1
        rw [hM.cellAt _ (by omega)]
        exact ⟨_, List.getElem?_eq_getElem (by omega)⟩
      obtain ⟨x0, o0⟩ := old0
      have fr : ∀ o, w2.frozen? ⟨w.heap.size, o, none⟩ = false := fun o => hM.frozenAt o
      have HM := hide hM
      have HL := hide hL
      have PR1 := hide PR
      have PA1 := hide hpo.arg
      have EE := hide (And.intro e1 (And.intro e2 (And.intro e3 (fun i (hi : i < us.length) => (And.intro ((e4 i hi).1.later hb2) ((e4 i hi).2.later hb2))))))
      have DM : Hid (dM (us ++ [⟨some ⟨wr.heap.size, 0, none⟩, y.n, y.n, l'⟩]) = dM (rs.take (k + 1))) := hide (by
        rw [unhide TK]
        have h := unhide ED
        unfold dM at h ⊢
        rw [List.map_append, List.map_append, h]
        simp [hmap])
      clear hM hL hb2 EM RW E0 PR hpo PSL e1 e2 e3 e4 e5 hmap
      go_wp2
      go_roundw
      case rel =>
        have bt : But w.heap.size (w.heap.size + 1) w2 (w2.setCell ⟨w.heap.size, k, none⟩ (.slice (some ⟨wr.heap.size, 0, none⟩) y.n y.n)) := (But.refl _ _ _).set (p := ⟨w.heap.size, k, none⟩) (Nat.le_refl _) (Nat.lt_succ_self _) _
        obtain ⟨e1, e2, e3, e4⟩ := unhide EE
        have arb : ∀ {B E : Nat} {a : Option Addr} {n c : Nat} {l : List (BV × BD)}, PRoB B E w2 a n c l → PArB w2 a n c l → w.heap.size < B → PRoB B E (w2.setCell ⟨w.heap.size, k, none⟩ (.slice (some ⟨wr.heap.size, 0, none⟩) y.n y.n)) a n c l ∧ PArB (w2.setCell ⟨w.heap.size, k, none⟩ (.slice (some ⟨wr.heap.size, 0, none⟩) y.n y.n)) a n c l := fun {B E a n c l} hp ha hB => by
          have hp2 := hp.but7 bt (.inr (by omega))
          refine ⟨hp2, hp2.sl.at_, fun p hpl => ?_, ha.len, ha.cap, ha.top⟩
          have r1 := hp2.sl.rd p hpl
          have r2 := ha.rd p hpl
          intro x hx
          exact ⟨(r1 x hx).sg, ⟨(r1 x hx).sl, (r2 x hx).ar.len, (r2 x hx).ar.cap, (r2 x hx).ar.top, (r2 x hx).ar.addr⟩⟩
        refine ⟨k + 1, us ++ [⟨some ⟨wr.heap.size, 0, none⟩, y.n, y.n, l'⟩], fun t => if t ≤ k then e t else w2.heap.size, by omega, by go_num, by simp [hu], DM, hide ⟨_, (World.ownsRow.stored (unhide HM) k (.slice (some ⟨wr.heap.size, 0, none⟩) y.n y.n)).1, fun i hi => ?_⟩, hide ⟨?_, ?_, ?_, fun i hi => ?_⟩, hide (bt.below (unhide HB1) (Nat.le_refl _) (unhide HB1).size)⟩
        · have hml : M.length = n * 1 := (unhide HM).1
          by_cases c : i = k
          · subst c
            rw [List.getElem?_set_self (by omega)]
            simp [hu]
          · have hi2 : i < us.length := by simp at hi; omega
            rw [List.getElem?_set_ne (by omega), (unhide HL) i hi2, List.getElem_append_left hi2]
        · show w.heap.size < if 0 ≤ k then e 0 else _
          rw [if_pos (Nat.zero_le _)]; exact e1
        · show (if k + 1 ≤ k then _ else w2.heap.size) ≤ _
          rw [if_neg (by omega)]; exact bt.size
        · intro i hi
          show (if i ≤ k then e i else w2.heap.size) ≤ (if i + 1 ≤ k then e (i + 1) else w2.heap.size)
          rw [if_pos (by omega)]
          by_cases c : i + 1 ≤ k
          · rw [if_pos c]; exact e3 i (by omega)
          · rw [if_neg c]
            obtain rfl : i = k := by omega
            omega
        · show PRoB (if i ≤ k then e i else w2.heap.size) (if i + 1 ≤ k then e (i + 1) else w2.heap.size) _ _ _ _ _ ∧ _
          by_cases c : i = k
          · subst c
            rw [if_pos (Nat.le_refl _), if_neg (by omega)]
            have hx : (us ++ [(⟨some ⟨wr.heap.size, 0, none⟩, y.n, y.n, l'⟩ : RB)])[i]'hi = ⟨some ⟨wr.heap.size, 0, none⟩, y.n, y.n, l'⟩ := by simp [← hu]
            rw [hx]
            have ekl : w.heap.size < e i := Nat.lt_of_lt_of_le e1 (e_mono e3 (Nat.zero_le _) (Nat.le_refl _))
            have p0 := unhide PR1
            have p1 : PRoB (e i) w2.heap.size w2 (some ⟨wr.heap.size, 0, none⟩) y.n y.n l' := ⟨p0.len, p0.sz, p0.ml, by
              rcases p0.row with z | ⟨G, lo, hi, ea, q1, q2, q3, q4, q5, q6⟩
              · exact .inl z
              · exact .inr ⟨G, lo, hi, ea, by omega, q2, q3, q4, q5, q6⟩⟩
            exact arb p1 (unhide PA1) ekl
          · have hi2 : i < us.length := by simp at hi; omega
            rw [if_pos (by omega), if_pos (by omega), List.getElem_append_left hi2]
            exact arb (e4 i hi2).1 (e4 i hi2).2 (Nat.lt_of_lt_of_le e1 (e_mono e3 (Nat.zero_le _) (by omega)))
      case measure => simp [intOf]; omega
    · obtain rfl : k = n := by omega
      have EL : Hid (dM us = dM rs) := hide (by have := unhide ED; rw [← unhide HN, List.take_length] at this; exact this)
      go_wp2
      go_ret
      obtain ⟨M, hM, hL⟩ := unhide EM
      obtain ⟨e1, e2, e3, e4⟩ := unhide RW
      refine ⟨w.heap.size, us, rfl, unhide HB, unhide EL, ⟨hu, h1, Nat.le_refl _, ?_, e, e1, e2, e3, e4⟩⟩
      rcases hM.2 with ⟨h', _⟩ | ⟨g', cap, cur, hv, _, hg, _, _, _, htake⟩
      · simp at h'
      simp only [Value.slice.injEq, Option.some.injEq, Addr.mk.injEq, and_true, true_and] at hv
      obtain ⟨rfl, rfl⟩ := hv
      refine ⟨cur, hg, fun i hi => ?_⟩
      have h5 := hL i hi
      rw [← htake, List.getElem?_take, if_pos (by omega)] at h5
      simpa using h5
end Go.Proofs.Ytaaajmdneaaeeaa
namespace Go.Proofs.Ytaaajmdneaaeeaa
open Go.RowKit
set_option linter.unusedVariables false
set_option maxRecDepth 100000
set_option linter.unusedSimpArgs false

def bad7 (d : BD) : Bool := !(goodB d.g d.xs && decide (d.xs.length ≤ 3))
set_option maxHeartbeats 1000000 in
theorem isBadI (b : BV) (d : BD) (w : World) (h : ArB w b d) :
    Calls Try.prog 70 #[.agg #[.bool b.g, .slice b.a b.n b.c]] w fun e w' => e = .returned (.bool (bad7 d)) ∧ Below w.heap.size w w' := by
  have hl := h.ar.len
  have hmx : b.n ≤ maxLen := Nat.le_trans h.ar.cap h.ar.top
  have HM := hide hmx
  unfold maxLen at hmx
  by_cases h3 : 3 < b.n
  · have d3 : decide ((3 : Int) < (b.n : Int)) = true := decide_eq_true (by omega)
    have EV : Hid (bad7 d = true) := hide (by unfold bad7; rw [decide_eq_false (show ¬ d.xs.length ≤ 3 by omega)]; simp)
    have HL := hide hl
    clear hl h
    go_enter Try.func70, Try.ntmps70
    go_wp2
    go_ret
    exact ⟨by rw [unhide EV]; rfl, (Below.refl _ _).alloc (Nat.le_refl _) _⟩
  · have d3 : decide ((3 : Int) < (b.n : Int)) = false := decide_eq_false (by omega)
    have EV : Hid (bad7 d = !(goodB d.g d.xs)) := hide (by unfold bad7; rw [decide_eq_true (show d.xs.length ≤ 3 by omega)]; simp)
    have hsg := h.sg
    have CG : Hid (∀ w1, Below w.heap.size w w1 → Calls Try.prog 87 #[.agg #[.bool b.g, .slice b.a b.n b.c]] w1 fun e w' => e = .returned (.bool (goodB d.g d.xs)) ∧ Below w1.heap.size w1 w') := hide (fun w1 hb => by rw [← hsg]; exact goodI_any b.g b.a b.n b.c d.xs w1 (h.ar.sl.later (Nat.le_refl _) hb) hl (unhide HM))
    generalize goodB d.g d.xs = z at CG EV
    clear hl h hsg
    have hb0 : Below w.heap.size w (w.alloc (.cells #[.bool b.g, .slice b.a b.n b.c] 27)) := (Below.refl _ _).alloc (Nat.le_refl _) _
    have HB0 := hide hb0
    clear hb0
    go_enter Try.func70, Try.ntmps70
    go_wp2_with fail
    refine (unhide CG _ (unhide HB0)).mono ?_
    rintro e w1 ⟨rfl, hb⟩
    have HB1 := hide (below_on (unhide HB0) hb)
    clear hb
    go_wp2
    go_ret
    exact ⟨by rw [unhide EV]; rfl, unhide HB1⟩
set_option maxHeartbeats 2000000 in
theorem indexB7 (a : Option Addr) (n c : Nat) (l : List (BV × BD)) (w : World) (h : PArB w a n c l) :
    Calls Try.prog 104 #[.slice a n c, .func (Fn.func 70) #[] #[]] w fun e w' => ∃ r : Int, e = .returned (.int .i64 r) ∧ Below w.heap.size w w' ∧ decide (0 ≤ r) = (l.map Prod.snd).any bad7 ∧ -1 ≤ r ∧ r ≤ 9223372036854775807 := by
  have HS := hide h
  have HN := hide h.len
  have hm : n ≤ maxLen := Nat.le_trans h.cap h.top
  clear h
  unfold maxLen at hm
  go_enter Try.func104, Try.ntmps104
  go_wp2
  go_loopw [8] (fun iv wr => ∃ (i : Nat), i ≤ n ∧ iv = .int .i64 i ∧ Hid (((l.take i).map Prod.snd).any bad7 = false) ∧ Hid (Below w.heap.size w wr)) (fun iv _ => n - (intOf iv).toNat)
  case atStart => exact ⟨0, Nat.zero_le _, rfl, hide (by simp), hide (Below.refl _ _)⟩
  case round =>
    obtain ⟨i, hi, rfl, EA, HB⟩ := hrel
    by_cases hlt : i < n
    · have hlt' : (i : Int) < (n : Int) := by omega
      rcases (unhide HS).at_ with e | ⟨b, off, rfl, hb, hc⟩
      · exact absurd (unhide HN) (by rw [e]; simp; omega)
      have e0 := hc i (by rw [unhide HN]; exact hlt)
      have TK0 := take_succB (l := l) (i := i) (by rw [unhide HN]; exact hlt)
      have MY0 := List.getElem_mem (l := l) (n := i) (by rw [unhide HN]; exact hlt)
      generalize l[i]'(by rw [unhide HN]; exact hlt) = y at e0 TK0 MY0
      have E0 : wr.cell? ⟨b, off + i * 2, none⟩ = some (.bool y.1.g) := ((unhide HB).cell (p := ⟨b, off + i * 2, none⟩) hb).trans e0.1
      have E1 : wr.cell? ⟨b, off + i * 2 + 1, none⟩ = some (.slice y.1.a y.1.n y.1.c) := ((unhide HB).cell (p := ⟨b, off + i * 2 + 1, none⟩) hb).trans e0.2
      have MY := hide MY0
      have TK : Hid ((l.take (i + 1)).map Prod.snd = (l.take i).map Prod.snd ++ [y.2]) := hide (by rw [TK0, List.map_append]; rfl)
      have CC := hide (isBadI y.1 y.2 wr ((((unhide HS).rd y MY0).head).later (unhide HB)))
      clear e0 hc TK0 MY0
      cases hp : bad7 y.2
      · rw [hp] at CC
        go_wp2_with fail
        refine (unhide CC).mono ?_
        rintro e w1 ⟨rfl, hb1⟩
        have HB1 := hide (below_on (unhide HB) hb1)
        clear hb1 E0 E1 CC
        go_wp2
        go_roundw
        case rel => exact ⟨i + 1, by omega, by go_num, hide (by rw [unhide TK, List.any_append, unhide EA]; simp only [List.any_cons, List.any_nil]; rw [hp]; rfl), HB1⟩
        case measure => simp [intOf]; omega
      · rw [hp] at CC
        have AN := hide (show (l.map Prod.snd).any bad7 = true from List.any_eq_true.2 ⟨y.2, List.mem_map.2 ⟨y, unhide MY, rfl⟩, hp⟩)
        go_wp2_with fail
        refine (unhide CC).mono ?_
        rintro e w1 ⟨rfl, hb1⟩
        have HB1 := hide (below_on (unhide HB) hb1)
        clear hb1 E0 E1 CC
        go_wp2
        go_ret
        exact ⟨_, rfl, unhide HB1, by rw [unhide AN]; exact decide_eq_true (by omega), by omega, by omega⟩
    · obtain rfl : i = n := by omega
      have EL := hide (show (l.map Prod.snd).any bad7 = false from by have := unhide EA; rw [← unhide HN, List.take_length] at this; exact this)
      go_wp2
      go_ret
      exact ⟨_, rfl, unhide HB, by rw [unhide EL]; rfl, by omega, by omega⟩
theorem containsB7 (a : Option Addr) (n c : Nat) (l : List (BV × BD)) (w : World) (h : PArB w a n c l) :
    Calls Try.prog 69 #[.slice a n c, .func (Fn.func 70) #[] #[]] w fun e w' => e = .returned (.bool ((l.map Prod.snd).any bad7)) ∧ Below w.heap.size w w' := by
  have HS := hide h
  clear h
  go_enter Try.func69, Try.ntmps69
  go_wp2_with fail
  refine (indexB7 a n c l _ (unhide HS)).mono ?_
  rintro e w1 ⟨r, rfl, hb1, hr, r0, r1⟩
  have HB1 := hide hb1
  have HR := hide hr
  clear hb1 hr
  go_wp2
  go_ret
  exact ⟨by rw [← unhide HR]; rfl, unhide HB1⟩
/-- A row of a matrix of N rows is as said. -/
def rowOk (N : Nat) (d : List BD) : Bool := decide (d.length = N) && !(d.any bad7)
/-- A matrix is as said. -/
def gD (ds : List (List BD)) : Bool := (decide (1 ≤ ds.length) && decide (ds.length ≤ 8)) && ds.all (rowOk ds.length)
/-- Its numbers. -/
def mD (ds : List (List BD)) (i j : Nat) : Int := match (ds.getD i [])[j]? with
  | some d => sv d.g d.xs
  | none => 0
theorem dM_len (rs : List RB) : (dM rs).length = rs.length := by simp [dM]
theorem gD_len {ds : List (List BD)} (h : gD ds = true) : 1 ≤ ds.length ∧ ds.length ≤ 8 := by
  unfold gD at h
  rw [Bool.and_eq_true, Bool.and_eq_true] at h
  exact ⟨of_decide_eq_true h.1.1, of_decide_eq_true h.1.2⟩
theorem gD_mat {w : World} {a : Option Addr} {n c : Nat} {rs : List RB} (h : MAr w a n c rs) (hg : gD (dM rs) = true) : MatV w a n (mD (dM rs)) ∧ ∀ i j, Bd (mD (dM rs) i j) 3 := by
  have hl : (dM rs).length = n := by rw [dM_len]; exact h.len
  have h18 := gD_len hg
  have hall : ∀ i (hi : i < rs.length), rs[i].l.length = n ∧ ∀ p ∈ rs[i].l, goodB p.2.g p.2.xs = true ∧ p.2.xs.length ≤ 3 := fun i hi => by
    unfold gD at hg
    rw [Bool.and_eq_true] at hg
    have h1 := List.all_eq_true.1 hg.2 (rs[i].l.map Prod.snd) (List.mem_map.2 ⟨rs[i], List.getElem_mem hi, rfl⟩)
    unfold rowOk at h1
    rw [Bool.and_eq_true] at h1
    refine ⟨by have := of_decide_eq_true h1.1; simpa [hl] using this, fun p hp => ?_⟩
    have h2 : (rs[i].l.map Prod.snd).any bad7 = false := by simpa using h1.2
    have h3 := List.any_eq_false.1 h2 p.2 (List.mem_map.2 ⟨p, hp, rfl⟩)
    unfold bad7 at h3
    simpa using h3
  have val : ∀ i j (hi : i < rs.length) (hj : j < rs[i].l.length), mD (dM rs) i j = sv rs[i].l[j].2.g rs[i].l[j].2.xs := fun i j hi hj => by
    unfold mD dM
    simp [hi, hj]
  constructor
  · rcases h.at_ with e | ⟨b, off, rfl, hb, hc⟩
    · rw [← h.len, e] at hl; simp at hl; rw [dM_len, e] at h18; simp at h18
    refine ⟨b, off, rfl, hb, fun i hi => ?_⟩
    have hil : i < rs.length := by rw [h.len]; exact hi
    have hr := h.rd rs[i] (List.getElem_mem hil)
    have hn : rs[i].n = n := by rw [← hr.len]; exact (hall i hil).1
    have hc0 := hc i hil
    rw [hn] at hc0
    rcases hr.at_ with e | ⟨b2, off2, ea, hb2, hc2⟩
    · have := (hall i hil).1; rw [e] at this; simp at this; omega
    rw [ea] at hc0
    refine ⟨b2, off2, rs[i].c, hc0, by have := hr.cap; omega, hr.top, hb2, fun j hj => ?_⟩
    have hjl : j < rs[i].l.length := by rw [(hall i hil).1]; exact hj
    have hcell := hc2 j hjl
    refine ⟨rs[i].l[j].1, hcell.1, hcell.2, ?_⟩
    rw [val i j hil hjl]
    exact (isB_of_good ((hr.rd rs[i].l[j] (List.getElem_mem hjl)).head) ((hall i hil).2 _ (List.getElem_mem hjl)).1).1
  · intro i j
    by_cases hi : i < rs.length
    · by_cases hj : j < rs[i].l.length
      · rw [val i j hi hj]
        obtain ⟨g1, g2⟩ := (hall i hi).2 rs[i].l[j] (List.getElem_mem hj)
        obtain ⟨o1, o2, _, _⟩ := good_parts g1
        have v0 := val_nonneg o1
        have hn : Nm rs[i].l[j].2.xs (sv rs[i].l[j].2.g rs[i].l[j].2.xs).natAbs := ⟨o1, o2, by unfold sv; split <;> omega⟩
        exact hn.bd g2
      · have : mD (dM rs) i j = 0 := by unfold mD dM; simp [hi, hj]
        rw [this]; exact (Bd.small (by decide)).mono (by omega)
    · have : mD (dM rs) i j = 0 := by unfold mD dM; simp [hi]
      rw [this]; exact (Bd.small (by decide)).mono (by omega)
set_option maxHeartbeats 2000000 in
theorem goodMI (a : Option Addr) (n c : Nat) (rs : List RB) (w : World) (h : MAr w a n c rs) :
    Calls Try.prog 40 #[.slice a n c] w fun e w' => e = .returned (.bool (gD (dM rs))) ∧ Below w.heap.size w w' := by
  have hl := h.len
  have hm : n ≤ maxLen := Nat.le_trans h.cap h.top
  have HS := hide h
  clear h
  unfold maxLen at hm
  have HL := hide hl
  by_cases h0 : n = 0
  · have d0 : ((n : Int) == 0) = true := by simp [h0]
    have EV : Hid (gD (dM rs) = false) := hide (by unfold gD; rw [dM_len, decide_eq_false (show ¬ 1 ≤ rs.length by omega)]; rfl)
    have H0 := hide h0
    clear h0 hl
    go_enter Try.func40, Try.ntmps40
    go_wp2
    go_ret
    exact ⟨by rw [unhide EV]; rfl, Below.refl _ _⟩
  have d0 : ((n : Int) == 0) = false := by simp; omega
  by_cases h8 : 8 < n
  · have d8 : decide ((8 : Int) < (n : Int)) = true := decide_eq_true (by omega)
    have EV : Hid (gD (dM rs) = false) := hide (by unfold gD; rw [dM_len, decide_eq_false (show ¬ rs.length ≤ 8 by omega)]; simp)
    clear hl
    go_enter Try.func40, Try.ntmps40
    go_wp2
    go_ret
    exact ⟨by rw [unhide EV]; rfl, Below.refl _ _⟩
  have d8 : decide ((8 : Int) < (n : Int)) = false := decide_eq_false (by omega)
  clear hl
  go_enter Try.func40, Try.ntmps40
  go_wp2
  go_loopw [15] (fun iv wr => ∃ (i : Nat), i ≤ n ∧ iv = .int .i64 i ∧ Hid ((dM (rs.take i)).all (rowOk n) = true) ∧ Hid (Below w.heap.size w wr)) (fun iv _ => n - (intOf iv).toNat)
  case atStart => exact ⟨0, Nat.zero_le _, rfl, hide (by simp [dM]), hide (Below.refl _ _)⟩
  case round =>
    obtain ⟨i, hi, rfl, EA, HB⟩ := hrel
    by_cases hlt : i < n
    · have hlt' : (i : Int) < (n : Int) := by omega
      rcases (unhide HS).at_ with e | ⟨b, off, rfl, hb, hc⟩
      · exact absurd (unhide HL) (by rw [e]; simp; omega)
      have E0 : wr.cell? ⟨b, off + i, none⟩ = _ := ((unhide HB).cell (p := ⟨b, off + i, none⟩) hb).trans (hc i (by rw [unhide HL]; exact hlt))
      have MY0 := List.getElem_mem (l := rs) (n := i) (by rw [unhide HL]; exact hlt)
      have TK0 := take_succM (l := rs) (i := i) (by rw [unhide HL]; exact hlt)
      generalize rs[i]'(by rw [unhide HL]; exact hlt) = y at E0 MY0 TK0
      have hy := (unhide HS).rd y MY0
      have yl : (y.l.map Prod.snd).length = y.n := by rw [List.length_map]; exact hy.len
      have hym : y.n ≤ maxLen := Nat.le_trans hy.cap hy.top
      unfold maxLen at hym
      have TK : Hid (dM (rs.take (i + 1)) = dM (rs.take i) ++ [y.l.map Prod.snd]) := hide (by rw [TK0]; simp [dM])
      have BADR : Hid (rowOk n (y.l.map Prod.snd) = false → gD (dM rs) = false) := hide (fun hb => by
        unfold gD
        have : (dM rs).all (rowOk (dM rs).length) = false := by
          rw [List.all_eq_false]
          exact ⟨_, List.mem_map.2 ⟨y, MY0, rfl⟩, by rw [dM_len, unhide HL, hb]; simp⟩
        rw [this]; simp)
      have YL := hide yl
      clear hc MY0 TK0 yl
      by_cases hne : y.n = n
      · have dn : ((y.n : Int) != (n : Int)) = false := by simp [hne]
        have CC := hide (containsB7 y.a y.n y.c y.l wr (hy.later (unhide HB)))
        cases hp : (y.l.map Prod.snd).any bad7
        · rw [hp] at CC
          have ROK : Hid (rowOk n (y.l.map Prod.snd) = true) := hide (by unfold rowOk; rw [unhide YL, hp, decide_eq_true hne]; rfl)
          have HNE := hide hne
          clear hne hp hy
          go_wp2_with fail
          refine (unhide CC).mono ?_
          rintro e w1 ⟨rfl, hb1⟩
          have HB1 := hide (below_on (unhide HB) hb1)
          clear hb1 E0 CC
          go_wp2
          go_roundw
          case rel => exact ⟨i + 1, by omega, by go_num, hide (by rw [unhide TK, List.all_append, unhide EA]; simp only [List.all_cons, List.all_nil]; rw [unhide ROK]; rfl), HB1⟩
          case measure => simp [intOf]; omega
        · rw [hp] at CC
          have EV : Hid (gD (dM rs) = false) := hide ((unhide BADR) (by unfold rowOk; rw [hp]; simp))
          have HNE := hide hne
          clear hne hp hy
          go_wp2_with fail
          refine (unhide CC).mono ?_
          rintro e w1 ⟨rfl, hb1⟩
          have HB1 := hide (below_on (unhide HB) hb1)
          clear hb1 E0 CC
          go_wp2
          go_ret
          exact ⟨by rw [unhide EV]; rfl, unhide HB1⟩
      · have dn : ((y.n : Int) != (n : Int)) = true := by simp; omega
        have EV : Hid (gD (dM rs) = false) := hide ((unhide BADR) (by unfold rowOk; rw [unhide YL, decide_eq_false hne]; rfl))
        clear hy
        go_wp2
        go_ret
        exact ⟨by rw [unhide EV]; rfl, unhide HB⟩
    · obtain rfl : i = n := by omega
      have EV : Hid (gD (dM rs) = true) := hide (by
        have h := unhide EA
        rw [← unhide HL, List.take_length] at h
        unfold gD
        rw [dM_len, decide_eq_true (show 1 ≤ rs.length by rw [unhide HL]; omega), decide_eq_true (show rs.length ≤ 8 by rw [unhide HL]; omega), h]; rfl)
      go_wp2
      go_ret
      exact ⟨by rw [unhide EV]; rfl, unhide HB⟩
theorem ok_bad (d : BD) : (!(goodB d.g d.xs) || decide (3 < d.xs.length)) = bad7 d := by
  unfold bad7
  by_cases h : d.xs.length ≤ 3
  · rw [decide_eq_true h, decide_eq_false (show ¬ 3 < d.xs.length by omega)]; simp
  · rw [decide_eq_false h, decide_eq_true (show 3 < d.xs.length by omega)]; simp
set_option maxHeartbeats 4000000 in
theorem goodMS (a : Option Addr) (n c : Nat) (rs : List RB) (w : World) (h : MAr w a n c rs) :
    Calls Try.prog 42 #[.slice a n c] w fun e w' => e = .returned (.bool (gD (dM rs))) ∧ Below w.heap.size w w' := by
  have hl := h.len
  have hm : n ≤ maxLen := Nat.le_trans h.cap h.top
  have HS := hide h
  clear h
  unfold maxLen at hm
  have HL := hide hl
  clear hl
  go_enter Try.func42, Try.ntmps42
  go_wp2
  go_loopw [9] (fun iv wr => ∃ (i : Nat), i ≤ n ∧ iv = .int .i64 i ∧ Hid ((dM (rs.take i)).all (rowOk n) = true) ∧ Hid (Below w.heap.size w wr)) (fun iv _ => n - (intOf iv).toNat)
  case atStart => exact ⟨0, Nat.zero_le _, rfl, hide (by simp [dM]), hide (Below.refl _ _)⟩
  case round =>
    obtain ⟨i, hi, rfl, EA, HB⟩ := hrel
    by_cases hlt : i < n
    · have hlt' : (i : Int) < (n : Int) := by omega
      rcases (unhide HS).at_ with e | ⟨b, off, rfl, hb, hc⟩
      · exact absurd (unhide HL) (by rw [e]; simp; omega)
      have E0 : wr.cell? ⟨b, off + i, none⟩ = _ := ((unhide HB).cell (p := ⟨b, off + i, none⟩) hb).trans (hc i (by rw [unhide HL]; exact hlt))
      have MY0 := List.getElem_mem (l := rs) (n := i) (by rw [unhide HL]; exact hlt)
      have TK0 := take_succM (l := rs) (i := i) (by rw [unhide HL]; exact hlt)
      generalize rs[i]'(by rw [unhide HL]; exact hlt) = y at E0 MY0 TK0
      have hy := (unhide HS).rd y MY0
      have yl : (y.l.map Prod.snd).length = y.n := by rw [List.length_map]; exact hy.len
      have hym : y.n ≤ maxLen := Nat.le_trans hy.cap hy.top
      unfold maxLen at hym
      have TK : Hid (dM (rs.take (i + 1)) = dM (rs.take i) ++ [y.l.map Prod.snd]) := hide (by rw [TK0]; simp [dM])
      have BADR : Hid (rowOk n (y.l.map Prod.snd) = false → gD (dM rs) = false) := hide (fun hb => by
        unfold gD
        have : (dM rs).all (rowOk (dM rs).length) = false := by
          rw [List.all_eq_false]
          exact ⟨_, List.mem_map.2 ⟨y, MY0, rfl⟩, by rw [dM_len, unhide HL, hb]; simp⟩
        rw [this]; simp)
      have YL := hide yl
      have YN := hide hy.len
      have HY := hide hy
      clear hc MY0 TK0 yl hy
      go_upto_region 4 with fail
      clear E0
      go_wp2
      obtain ⟨wp, hwp⟩ : ∃ x, x = wr := ⟨_, rfl⟩
      subst hwp
      go_loopw [15] (fun jv wr => ∃ (j : Nat), j ≤ y.n ∧ jv = .int .i64 j ∧ Hid (((y.l.take j).map Prod.snd).any bad7 = false) ∧ Hid (Below w.heap.size w wr)) (fun jv _ => y.n - (intOf jv).toNat)
      case atStart => exact ⟨0, Nat.zero_le _, rfl, hide (by simp), HB⟩
      case round =>
        clear HB
        obtain ⟨j, hj, rfl, EJ, HB⟩ := hrel
        by_cases hjt : j < y.n
        · have hjt' : (j : Int) < (y.n : Int) := by omega
          rcases (unhide HY).at_ with e | ⟨b2, off2, ea, hb2, hc2⟩
          · exact absurd (unhide YN) (by rw [e]; simp; omega)
          have e0 := hc2 j (by rw [unhide YN]; exact hjt)
          have TK1 := take_succB (l := y.l) (i := j) (by rw [unhide YN]; exact hjt)
          have MY1 := List.getElem_mem (l := y.l) (n := j) (by rw [unhide YN]; exact hjt)
          generalize y.l[j]'(by rw [unhide YN]; exact hjt) = z at e0 TK1 MY1
          have F0 : wr.cell? ⟨b2, off2 + j * 2, none⟩ = some (.bool z.1.g) := ((unhide HB).cell (p := ⟨b2, off2 + j * 2, none⟩) hb2).trans e0.1
          have F1 : wr.cell? ⟨b2, off2 + j * 2 + 1, none⟩ = some (.slice z.1.a z.1.n z.1.c) := ((unhide HB).cell (p := ⟨b2, off2 + j * 2 + 1, none⟩) hb2).trans e0.2
          have TKJ : Hid ((y.l.take (j + 1)).map Prod.snd = (y.l.take j).map Prod.snd ++ [z.2]) := hide (by rw [TK1, List.map_append]; rfl)
          have hz := ((unhide HY).rd z MY1).head
          have zl : z.2.xs.length = z.1.n := hz.ar.len
          have zm : z.1.n ≤ maxLen := Nat.le_trans hz.ar.cap hz.ar.top
          have BZ : Hid (bad7 z.2 = true → gD (dM rs) = false) := hide (fun hb => (unhide BADR) (by
            unfold rowOk
            rw [show (y.l.map Prod.snd).any bad7 = true from List.any_eq_true.2 ⟨z.2, List.mem_map.2 ⟨z, MY1, rfl⟩, hb⟩]; simp))
          have CG : Hid (∀ w1, Below w.heap.size w w1 → Calls Try.prog 77 #[.agg #[.bool z.1.g, .slice z.1.a z.1.n z.1.c]] w1 fun e w' => e = .returned (.bool (goodB z.2.g z.2.xs)) ∧ Below w1.heap.size w1 w') := hide (fun w1 hb => by rw [← hz.sg]; exact goodS_any z.1.g z.1.a z.1.n z.1.c z.2.xs w1 (hz.ar.sl.later (Nat.le_refl _) hb) zl zm)
          have OB := ok_bad z.2
          rw [zl] at OB
          have hbx : Below w.heap.size w (wr.alloc (.cells #[.bool z.1.g, .slice z.1.a z.1.n z.1.c] 27)) := (unhide HB).alloc (unhide HB).size _
          have HBX := hide hbx
          unfold maxLen at zm
          obtain ⟨ya, yn, yc, yll⟩ := y
          simp only at ea
          subst ea
          clear e0 hc2 TK1 MY1 hz zl hbx
          cases hg : goodB z.2.g z.2.xs
          · rw [hg] at CG OB
            have EV : Hid (gD (dM rs) = false) := hide ((unhide BZ) (by rw [← OB]; rfl))
            clear OB hg
            go_wp2_with fail
            refine (unhide CG _ (unhide HBX)).mono ?_
            rintro e w1 ⟨rfl, hb1⟩
            have HB1 := hide (below_on (unhide HBX) hb1)
            have G0 : w1.cell? ⟨wr.heap.size, 0, none⟩ = some (.bool z.1.g) := cell_later hb1 (by simp [go_sem])
            have G1 : w1.cell? ⟨wr.heap.size, 1, none⟩ = some (.slice z.1.a z.1.n z.1.c) := cell_later hb1 (by simp [go_sem])
            clear hb1 F0 F1 CG
            go_wp2
            go_ret
            exact ⟨by rw [unhide EV]; rfl, unhide HB1⟩
          · rw [hg] at CG OB
            by_cases h3 : 3 < z.1.n
            · have d3 : decide ((3 : Int) < (z.1.n : Int)) = true := decide_eq_true (by omega)
              have EV : Hid (gD (dM rs) = false) := hide ((unhide BZ) (by rw [← OB, decide_eq_true h3]; rfl))
              clear OB hg
              go_wp2_with fail
              refine (unhide CG _ (unhide HBX)).mono ?_
              rintro e w1 ⟨rfl, hb1⟩
              have HB1 := hide (below_on (unhide HBX) hb1)
              have G0 : w1.cell? ⟨wr.heap.size, 0, none⟩ = some (.bool z.1.g) := cell_later hb1 (by simp [go_sem])
              have G1 : w1.cell? ⟨wr.heap.size, 1, none⟩ = some (.slice z.1.a z.1.n z.1.c) := cell_later hb1 (by simp [go_sem])
              clear hb1 F0 F1 CG
              go_wp2
              go_ret
              exact ⟨by rw [unhide EV]; rfl, unhide HB1⟩
            · have d3 : decide ((3 : Int) < (z.1.n : Int)) = false := decide_eq_false (by omega)
              have GZ : Hid (bad7 z.2 = false) := hide (by rw [← OB, decide_eq_false h3]; rfl)
              clear OB hg
              go_wp2_with fail
              refine (unhide CG _ (unhide HBX)).mono ?_
              rintro e w1 ⟨rfl, hb1⟩
              have HB1 := hide (below_on (unhide HBX) hb1)
              have G0 : w1.cell? ⟨wr.heap.size, 0, none⟩ = some (.bool z.1.g) := cell_later hb1 (by simp [go_sem])
              have G1 : w1.cell? ⟨wr.heap.size, 1, none⟩ = some (.slice z.1.a z.1.n z.1.c) := cell_later hb1 (by simp [go_sem])
              clear hb1 F0 F1 CG
              go_wp2
              go_roundw
              case rel => exact ⟨j + 1, by omega, by go_num, hide (by rw [unhide TKJ, List.any_append, unhide EJ]; simp only [List.any_cons, List.any_nil]; rw [unhide GZ]; rfl), HB1⟩
              case measure => simp [intOf]; omega
        · obtain rfl : j = y.n := by omega
          have EL : Hid ((y.l.map Prod.snd).any bad7 = false) := hide (by have h := unhide EJ; rw [← unhide YN, List.take_length] at h; exact h)
          by_cases hne : y.n = n
          · have dn : ((y.n : Int) != (n : Int)) = false := by simp [hne]
            have ROK : Hid (rowOk n (y.l.map Prod.snd) = true) := hide (by unfold rowOk; rw [unhide YL, unhide EL, decide_eq_true hne]; rfl)
            have HNE := hide hne
            clear hne
            go_wp2
            go_roundw
            case rel => exact ⟨i + 1, by omega, by go_num, hide (by rw [unhide TK, List.all_append, unhide EA]; simp only [List.all_cons, List.all_nil]; rw [unhide ROK]; rfl), HB⟩
            case measure => simp [intOf]; omega
          · have dn : ((y.n : Int) != (n : Int)) = true := by simp; omega
            have EV : Hid (gD (dM rs) = false) := hide ((unhide BADR) (by unfold rowOk; rw [unhide YL, decide_eq_false hne]; rfl))
            go_wp2
            go_ret
            exact ⟨by rw [unhide EV]; rfl, unhide HB⟩
    · obtain rfl : i = n := by omega
      have EV : Hid (gD (dM rs) = (decide ((1 : Int) ≤ (i : Int)) && decide ((i : Int) ≤ 8))) := hide (by
        have h := unhide EA
        rw [← unhide HL, List.take_length] at h
        unfold gD
        rw [dM_len, unhide HL]
        rw [unhide HL] at h
        rw [h, Bool.and_true]
        congr 1
        · exact decide_eq_decide.2 (by omega)
        · exact decide_eq_decide.2 (by omega))
      have CC := hide (fun w1 => l1In_any (i : Int) 1 8 w1)
      rw [← unhide EV] at CC
      go_wp2_with fail
      refine (unhide CC _).mono ?_
      rintro e w1 ⟨rfl, rfl⟩
      go_wp2
      go_ret
      exact ⟨rfl, unhide HB⟩
set_option maxHeartbeats 4000000 in
theorem detOfI_v (a : Option Addr) (n c : Nat) (rs : List RB) (w : World) (h : MAr w a n c rs) :
    Calls Try.prog 11 #[.slice a n c] w (RetB w (fun d ok => Ans (gD (dM rs)) (barVal (mD (dM rs)) n) d.g d.xs ok)) := by
  have A0 := hide h
  have hl := h.len
  clear h
  have CG := hide (fun w1 (k : MAr w1 a n c rs) => goodMI a n c rs w1 k)
  cases hg : gD (dM rs)
  · rw [hg] at CG
    clear hg hl
    go_enter Try.func11, Try.ntmps11
    go_upto_region 1 with fail
    have hb0 : Below w.heap.size w (w.alloc (.cells #[.bool false, .slice none 0 0] 27)) := (Below.refl _ _).alloc (Nat.le_refl _) _
    have RS0 : Rs7 (w.alloc (.cells #[.bool false, .slice none 0 0] 27)) w.heap.size := ⟨⟨⟨false, none, 0, 0⟩, by simp [go_sem], by simp [go_sem]⟩, fun o => by simp [go_sem]⟩
    have sz0 : (w.alloc (.cells #[.bool false, .slice none 0 0] 27)).heap.size = w.heap.size + 1 := by simp
    generalize w.alloc (.cells #[.bool false, .slice none 0 0] 27) = wz at *
    have RS := hide RS0
    have HB := hide hb0
    replace A0 := hide ((unhide A0).later hb0)
    clear hb0 RS0
    go_wp2_with fail
    refine (unhide CG _ (unhide A0)).mono ?_
    rintro e w1 ⟨rfl, hb⟩
    replace A0 := hide ((unhide A0).later hb)
    replace RS := hide ((unhide RS).later hb)
    replace HB := hide (below_on (unhide HB) hb)
    have szw1 := hb.size
    clear hb
    obtain ⟨bz, r0, r1⟩ := (unhide RS).c
    have rf := (unhide RS).f
    go_wp2
    refine bodyPost_ret (v := .tuple #[.agg #[.bool false, .slice none 0 0], .bool false]) (by simp [results, Try.results11, go_sem, r0, r1]) rfl ?_
    exact retB_no ((metB_but (w5 := w1) (v := ⟨false, none, 0, 0⟩) (G := w.heap.size)).below (unhide HB) (Nat.le_refl _) (unhide HB).size) rfl
  rw [hg] at CG
  have h18 := gD_len hg
  rw [dM_len, hl] at h18
  have MV := hide (fun wx (k : MAr wx a n c rs) => gD_mat k hg)
  have BB := hide (gD_mat (unhide A0) hg).2
  have BV_ : Hid (Bd (barVal (mD (dM rs)) n) 25) := hide (bar_bd (by omega) (unhide BB))
  clear hg hl
  go_enter Try.func11, Try.ntmps11
  go_upto_region 1 with fail
  have hb0 : Below w.heap.size w (w.alloc (.cells #[.bool false, .slice none 0 0] 27)) := (Below.refl _ _).alloc (Nat.le_refl _) _
  have RS0 : Rs7 (w.alloc (.cells #[.bool false, .slice none 0 0] 27)) w.heap.size := ⟨⟨⟨false, none, 0, 0⟩, by simp [go_sem], by simp [go_sem]⟩, fun o => by simp [go_sem]⟩
  have sz0 : (w.alloc (.cells #[.bool false, .slice none 0 0] 27)).heap.size = w.heap.size + 1 := by simp
  generalize w.alloc (.cells #[.bool false, .slice none 0 0] 27) = wz at *
  have RS := hide RS0
  have HB := hide hb0
  replace A0 := hide ((unhide A0).later hb0)
  clear hb0 RS0
  go_wp2_with fail
  refine (unhide CG _ (unhide A0)).mono ?_
  rintro e w1 ⟨rfl, hb⟩
  replace A0 := hide ((unhide A0).later hb)
  replace RS := hide ((unhide RS).later hb)
  replace HB := hide (below_on (unhide HB) hb)
  have szw1 := hb.size
  clear hb
  go_wp2_with fail
  refine (detI_v a n c (mD (dM rs)) _ (unhide MV _ (unhide A0)).1 (by omega) (by omega) (fun i j _ _ => unhide BB i j)).mono ?_
  rintro e w4 ⟨x, lx, rfl, hb, ox, ax, nx⟩
  replace RS := hide ((unhide RS).later hb)
  replace HB := hide (below_on (unhide HB) hb)
  have szw4 := hb.size
  have OD := hide (outN_ow ox ax nx)
  clear ox ax nx
  clear hb
  obtain ⟨bz, r0, r1⟩ := (unhide RS).c
  have rf := (unhide RS).f
  go_wp2
  refine bodyPost_ret (v := .tuple #[.agg #[.bool x.g, .slice x.a x.n x.c], .bool true]) (by simp [results, Try.results11, go_sem, r0, r1]) rfl ?_
  have bt := metB_but (w5 := w4) (v := x) (G := w.heap.size)
  exact retB_yes (((unhide OD).blk bt r0 (notI_b _)).wide (Nat.le_refl _) (by have := bt.size; omega)) (by omega) (Nat.le_refl _) (bt.below (unhide HB) (Nat.le_refl _) (unhide HB).size) ((unhide BV_).mono (by omega)) rfl
set_option maxHeartbeats 4000000 in
theorem detOfS_v (a : Option Addr) (n c : Nat) (rs : List RB) (w : World) (h : MAr w a n c rs) :
    Calls Try.prog 12 #[.slice a n c] w (RetB w (fun d ok => Ans (gD (dM rs)) (barVal (mD (dM rs)) n) d.g d.xs ok)) := by
  have A0 := hide h
  have hl := h.len
  clear h
  have CG := hide (fun w1 (k : MAr w1 a n c rs) => goodMS a n c rs w1 k)
  cases hg : gD (dM rs)
  · rw [hg] at CG
    clear hg hl
    go_enter Try.func12, Try.ntmps12
    go_upto_region 1 with fail
    have hb0 : Below w.heap.size w (w.alloc (.cells #[.bool false, .slice none 0 0] 27)) := (Below.refl _ _).alloc (Nat.le_refl _) _
    have RS0 : Rs7 (w.alloc (.cells #[.bool false, .slice none 0 0] 27)) w.heap.size := ⟨⟨⟨false, none, 0, 0⟩, by simp [go_sem], by simp [go_sem]⟩, fun o => by simp [go_sem]⟩
    have sz0 : (w.alloc (.cells #[.bool false, .slice none 0 0] 27)).heap.size = w.heap.size + 1 := by simp
    generalize w.alloc (.cells #[.bool false, .slice none 0 0] 27) = wz at *
    have RS := hide RS0
    have HB := hide hb0
    replace A0 := hide ((unhide A0).later hb0)
    clear hb0 RS0
    go_wp2_with fail
    refine (unhide CG _ (unhide A0)).mono ?_
    rintro e w1 ⟨rfl, hb⟩
    replace A0 := hide ((unhide A0).later hb)
    replace RS := hide ((unhide RS).later hb)
    replace HB := hide (below_on (unhide HB) hb)
    have szw1 := hb.size
    clear hb
    obtain ⟨bz, r0, r1⟩ := (unhide RS).c
    have rf := (unhide RS).f
    go_wp2
    refine bodyPost_ret (v := .tuple #[.agg #[.bool false, .slice none 0 0], .bool false]) (by simp [results, Try.results12, go_sem, r0, r1]) rfl ?_
    exact retB_no ((metB_but (w5 := w1) (v := ⟨false, none, 0, 0⟩) (G := w.heap.size)).below (unhide HB) (Nat.le_refl _) (unhide HB).size) rfl
  rw [hg] at CG
  have h18 := gD_len hg
  rw [dM_len, hl] at h18
  have MV := hide (fun wx (k : MAr wx a n c rs) => gD_mat k hg)
  have BB := hide (gD_mat (unhide A0) hg).2
  have BV_ : Hid (Bd (barVal (mD (dM rs)) n) 25) := hide (bar_bd (by omega) (unhide BB))
  clear hg hl
  go_enter Try.func12, Try.ntmps12
  go_upto_region 1 with fail
  have hb0 : Below w.heap.size w (w.alloc (.cells #[.bool false, .slice none 0 0] 27)) := (Below.refl _ _).alloc (Nat.le_refl _) _
  have RS0 : Rs7 (w.alloc (.cells #[.bool false, .slice none 0 0] 27)) w.heap.size := ⟨⟨⟨false, none, 0, 0⟩, by simp [go_sem], by simp [go_sem]⟩, fun o => by simp [go_sem]⟩
  have sz0 : (w.alloc (.cells #[.bool false, .slice none 0 0] 27)).heap.size = w.heap.size + 1 := by simp
  generalize w.alloc (.cells #[.bool false, .slice none 0 0] 27) = wz at *
  have RS := hide RS0
  have HB := hide hb0
  replace A0 := hide ((unhide A0).later hb0)
  clear hb0 RS0
  go_wp2_with fail
  refine (unhide CG _ (unhide A0)).mono ?_
  rintro e w1 ⟨rfl, hb⟩
  replace A0 := hide ((unhide A0).later hb)
  replace RS := hide ((unhide RS).later hb)
  replace HB := hide (below_on (unhide HB) hb)
  have szw1 := hb.size
  clear hb
  go_wp2_with fail
  refine (detS_v a n c (mD (dM rs)) _ (unhide MV _ (unhide A0)).1 (by omega) (by omega) (fun i j _ _ => unhide BB i j)).mono ?_
  rintro e w4 ⟨x, lx, rfl, hb, ox, ax, nx⟩
  replace RS := hide ((unhide RS).later hb)
  replace HB := hide (below_on (unhide HB) hb)
  have szw4 := hb.size
  have OD := hide (outN_ow ox ax nx)
  clear ox ax nx
  clear hb
  have xl : x.n ≤ 40 := (unhide OD).is.len ((unhide BV_).mono (by omega))
  go_wp2_with fail
  refine (fitS_in x.g x.a x.n x.c _ xl).mono ?_
  rintro e w5 ⟨rfl, hb⟩
  replace RS := hide ((unhide RS).later hb)
  replace OD := hide ((unhide OD).later hb)
  replace HB := hide (below_on (unhide HB) hb)
  have szw5 := hb.size
  clear hb
  obtain ⟨bz, r0, r1⟩ := (unhide RS).c
  have rf := (unhide RS).f
  go_wp2
  refine bodyPost_ret (v := .tuple #[.agg #[.bool x.g, .slice x.a x.n x.c], .bool true]) (by simp [results, Try.results12, go_sem, r0, r1]) rfl ?_
  have bt := metB_but (w5 := w5) (v := x) (G := w.heap.size)
  exact retB_yes (((unhide OD).blk bt r0 (notI_b _)).wide (Nat.le_refl _) (by have := bt.size; omega)) (by omega) (Nat.le_refl _) (bt.below (unhide HB) (Nat.le_refl _) (unhide HB).size) ((unhide BV_).mono (by omega)) rfl
end Go.Proofs.Ytaaajmdneaaeeaa
namespace Go.Proofs.Ytaaajmdneaaeeaa
open Go.RowKit
set_option linter.unusedVariables false
set_option maxRecDepth 100000
set_option linter.unusedSimpArgs false

set_option maxRecDepth 100000 in
set_option maxHeartbeats 16000000 in
theorem lawDet7_walk (a0 : Option Addr) (n0 c0 : Nat) (xs0 : List RB) (w : World) (h0 : MSl w a0 xs0) (hn0 : xs0.length = n0) (hm0 : n0 ≤ maxLen) (ml0 : MLn xs0) :
    Calls Try.prog 4 #[.slice a0 n0 c0] w fun e w' => e = .returned (.bool true) ∧ Below w.heap.size w w' := by
  obtain ⟨U, HU⟩ : ∃ U : BD → Bool → Prop, Hid (U = (fun d ok => Ans (gD (dM xs0)) (barVal (mD (dM xs0)) n0) d.g d.xs ok)) := ⟨_, hide rfl⟩
  have US : Hid (∀ d ok d' ok', U d ok → U d' ok' → d = d' ∧ ok = ok') := hide (by rw [unhide HU]; exact fun d ok d' ok' h k => ans_bd h k)
  have UL : Hid (∀ d ok, U d ok → d.xs.length ≤ 40) := hide (by rw [unhide HU]; exact fun d ok h => ans_len h)
  have CS : Hid (∀ (a0 : Option Addr) (c0 : Nat) (ys0 : List RB) (w : World), MAr w a0 n0 c0 ys0 → dM ys0 = dM xs0 → Calls Try.prog 12 #[.slice a0 n0 c0] w (RetB w U)) := hide (by rw [unhide HU]; exact fun a0 c0 ys0 w h0 e0 => by rw [← e0]; exact detOfS_v a0 n0 c0 ys0 w h0)
  have CI : Hid (∀ (a0 : Option Addr) (c0 : Nat) (ys0 : List RB) (w : World), MAr w a0 n0 c0 ys0 → dM ys0 = dM xs0 → Calls Try.prog 11 #[.slice a0 n0 c0] w (RetB w U)) := hide (by rw [unhide HU]; exact fun a0 c0 ys0 w h0 e0 => by rw [← e0]; exact detOfI_v a0 n0 c0 ys0 w h0)
  clear HU
  have HS0 := hide h0
  have HN0 := hide hn0
  clear h0 hn0
  have ML0 := hide ml0
  clear ml0
  have HB := hide (Below.refl w.heap.size w)
  go_enter Try.func4, Try.ntmps4
  have SQ0 := hide (fun wx (k : MSl wx a0 xs0) => szM a0 n0 c0 xs0 1048576 wx k (unhide HN0) hm0 (unhide ML0) (by omega) (by omega))
  go_wp2_with fail
  refine (unhide SQ0 _ (unhide HS0)).mono ?_
  rintro e wsz ⟨r, rfl, hb, hr⟩
  replace HB := hide (below_on (unhide HB) hb)
  have HR := hide hr
  have s_wsz0 := hb.size
  clear hb hr SQ0
  by_cases hneg : r < 0
  · go_wp2
    go_ret
    exact ⟨rfl, unhide HB⟩
  have SZ0 : Hid (szM1 xs0 ≤ 1048576) := hide (by rcases unhide HR with e | ⟨e1, e2⟩; omega; omega)
  have hs0 : n0 ≤ 1048576 := by have h1 := unhide SZ0; have h2 := unhide HN0; have h3 := szM1_len xs0; omega
  clear HR
  go_wp2_with fail
  refine (toM_own a0 n0 c0 xs0 _ ((unhide HS0).later (unhide HB)) (unhide HN0) hs0 (unhide SZ0)).mono ?_
  rintro e ws0 ⟨gs0, yss0, rfl, hb, es0, os0⟩
  replace HB := hide (below_on (unhide HB) hb)
  have s_ws0 := hb.size
  have Es0 := hide es0
  have Os0 := hide os0
  clear es0 os0
  clear hb
  go_wp2_with fail
  refine (unhide CS _ _ _ _ (unhide Os0).arg (unhide Es0)).mono ?_
  rintro e wv ⟨vr, dr, okr, rfl, hb, hown, hu⟩
  clear Os0
  clear Es0
  have UR := hide hu
  have V0 := hide (VarB.start 27 hown)
  have s_wv := hb.size
  replace HB := hide ((below_on (unhide HB) hb).alloc (below_on (unhide HB) hb).size (.cells #[.bool vr.g, .slice vr.a vr.n vr.c] 27))
  clear hb hown hu
  have r0 : vr.n ≤ 40 := by rw [← ((unhide V0).own.own (vr, dr) (by simp)).len]; exact unhide UL _ _ (unhide UR)
  have rm : vr.n ≤ maxLen := by unfold maxLen; omega
  have zv : (wv.alloc (.cells #[.bool vr.g, .slice vr.a vr.n vr.c] 27)).heap.size = wv.heap.size + 1 := by simp
  go_wp2_with fail
  refine (toM_own a0 n0 c0 xs0 _ ((unhide HS0).later (unhide HB)) (unhide HN0) hs0 (unhide SZ0)).mono ?_
  rintro e wx0 ⟨gx0, ysx0, rfl, hb, ex0, ox0⟩
  replace V0 := hide ((unhide V0).later hb)
  replace HB := hide (below_on (unhide HB) hb)
  have s_wx0 := hb.size
  have Ex0 := hide ex0
  have Ox0 := hide ox0
  clear ex0 ox0
  clear hb
  rw [zv] at s_wx0
  go_wp2_with fail
  refine (unhide CI _ _ _ _ (unhide Ox0).arg (unhide Ex0)).mono ?_
  rintro e wg ⟨vg, dg, okg, rfl, hb, hown, hu⟩
  obtain ⟨e1, e2⟩ := unhide US _ _ _ _ (unhide UR) hu
  subst e1 e2
  replace V0 := hide (((unhide V0).later hb).later ((Below.refl _ _).alloc (Nat.le_refl _) (.cells #[.bool vg.g, .slice vg.a vg.n vg.c] 27)))
  replace Ox0 := hide (((unhide Ox0).later hb).later ((Below.refl _ _).alloc (Nat.le_refl _) (.cells #[.bool vg.g, .slice vg.a vg.n vg.c] 27)))
  have VG := hide (VarB.start 27 hown)
  have s_wg := hb.size
  replace HB := hide ((below_on (unhide HB) hb).alloc (below_on (unhide HB) hb).size (.cells #[.bool vg.g, .slice vg.a vg.n vg.c] 27))
  clear hb hown hu
  have en : vg.n = vr.n := by rw [← ((unhide VG).own.own (vg, dr) (by simp)).len, ← ((unhide V0).own.own (vr, dr) (by simp)).len]
  have q0 : vg.n ≤ 40 := by omega
  have qm : vg.n ≤ maxLen := by omega
  have ql : vg.n ≤ 1048576 := by omega
  have enh := hide en
  clear en
  have zg : (wg.alloc (.cells #[.bool vg.g, .slice vg.a vg.n vg.c] 27)).heap.size = wg.heap.size + 1 := by simp
  have p0 := (unhide VG).c0
  have p1 := (unhide VG).c1
  have p2 := (unhide V0).c0
  have p3 := (unhide V0).c1
  go_wp2_with fail
  refine (eqB_at vg vr dr _ (unhide VG).own.sl.head (unhide V0).own.sl.head qm).mono ?_
  rintro e wq1 ⟨rfl, hb⟩
  replace V0 := hide ((unhide V0).later hb)
  replace Ox0 := hide ((unhide Ox0).later hb)
  replace VG := hide ((unhide VG).later hb)
  replace HB := hide (below_on (unhide HB) hb)
  have s_wq1 := hb.size
  clear hb
  clear p0 p1 p2 p3
  rw [zg] at s_wq1
  go_wp2_with fail
  refine (toM_own a0 n0 c0 xs0 _ ((unhide HS0).later (unhide HB)) (unhide HN0) hs0 (unhide SZ0)).mono ?_
  rintro e wy0 ⟨gy0, ysy0, rfl, hb, ey0, oy0⟩
  replace V0 := hide ((unhide V0).later hb)
  replace Ox0 := hide ((unhide Ox0).later hb)
  replace VG := hide ((unhide VG).later hb)
  replace HB := hide (below_on (unhide HB) hb)
  have s_wy0 := hb.size
  have Ey0 := hide ey0
  have Oy0 := hide oy0
  clear ey0 oy0
  clear hb
  go_wp2_with fail
  refine (eqM _ _ n0 _ _ ysx0 ysy0 _ (unhide Ox0).arg.sl (unhide Oy0).arg.sl (by rw [unhide Ex0, unhide Ey0]) (unhide Ox0).arg.len hm0 (unhide Ox0).mln).mono ?_
  rintro e we0 ⟨rfl, hb⟩
  replace V0 := hide ((unhide V0).later hb)
  replace Ox0 := hide ((unhide Ox0).later hb)
  replace VG := hide ((unhide VG).later hb)
  replace Oy0 := hide ((unhide Oy0).later hb)
  replace HB := hide (below_on (unhide HB) hb)
  have s_we0 := hb.size
  clear hb
  clear Oy0
  clear Ey0
  go_wp2_with fail
  refine (markM_own _ n0 _ ysx0 _ _ _ _ (unhide Ox0) (by omega) (by have h1 := unhide SZ0; have h2 := szM1_same (unhide Ox0).arg.sl (unhide HS0) (unhide Ex0); omega)).mono ?_
  rintro e wm0 ⟨km0, rfl, km00, km10, hbt⟩
  clear Ox0
  replace V0 := hide ((unhide V0).but hbt (by omega) (by omega))
  replace VG := hide ((unhide VG).but hbt (by omega) (by omega))
  replace HB := hide (hbt.below (unhide HB) (by omega) (unhide HB).size)
  have s_wm0 := hbt.size
  clear hbt
  have hk0 : decide (km0 < 0) = false := decide_eq_false (by omega)
  have p0 := (unhide VG).c0
  have p1 := (unhide VG).c1
  have p2 := (unhide V0).c0
  have p3 := (unhide V0).c1
  go_wp2_with fail
  refine (eqB_at vg vr dr _ (unhide VG).own.sl.head (unhide V0).own.sl.head qm).mono ?_
  rintro e wq2 ⟨rfl, hb⟩
  replace V0 := hide ((unhide V0).later hb)
  replace VG := hide ((unhide VG).later hb)
  replace HB := hide (below_on (unhide HB) hb)
  have s_wq2 := hb.size
  clear hb
  clear p0 p1 p2 p3
  clear hk0
  have p0 := (unhide VG).c0
  have p1 := (unhide VG).c1
  go_wp2_with fail
  refine (markB_at vg dr [] [] 1 _ _ _ (unhide VG).own ql (by omega) (by omega)).mono ?_
  rintro e wn ⟨rfl, hbt, hmk⟩
  replace V0 := hide ((unhide V0).but hbt (by omega) (by omega))
  replace HB := hide (hbt.below (unhide HB) (by omega) (unhide HB).size)
  have s_wn := hbt.size
  replace VG := hide ((unhide VG).mark (d' := ⟨dr.g, marks 1 vg.n⟩) hbt (by omega) hmk)
  clear p0 p1 hbt hmk
  have p0 := (unhide VG).c0
  have p1 := (unhide VG).c1
  go_wp2_with fail
  refine (heldB_at vg 1 _ ((unhide VG).own.sl (vg, ⟨dr.g, marks 1 vg.n⟩) (by simp)).sl ql (by omega) (by omega)).mono ?_
  rintro e wh1 ⟨rfl, hb⟩
  replace V0 := hide ((unhide V0).later hb)
  replace VG := hide ((unhide VG).later hb)
  replace HB := hide (below_on (unhide HB) hb)
  have s_wh1 := hb.size
  clear hb
  clear p0 p1
  have hr0 : ¬ ((1 : Int) + (vg.n : Int) < 0) := by omega
  go_wp2_with fail
  refine (toM_own a0 n0 c0 xs0 _ ((unhide HS0).later (unhide HB)) (unhide HN0) hs0 (unhide SZ0)).mono ?_
  rintro e wz0 ⟨gz0, ysz0, rfl, hb, ez0, oz0⟩
  replace V0 := hide ((unhide V0).later hb)
  replace VG := hide ((unhide VG).later hb)
  replace HB := hide (below_on (unhide HB) hb)
  have s_wz0 := hb.size
  have Ez0 := hide ez0
  have Oz0 := hide oz0
  clear ez0 oz0
  clear hb
  go_wp2_with fail
  refine (unhide CI _ _ _ _ (unhide Oz0).arg (unhide Ez0)).mono ?_
  rintro e wk ⟨vh, dh, okh, rfl, hb, hown, hu⟩
  obtain ⟨e1, e2⟩ := unhide US _ _ _ _ (unhide UR) hu
  subst e1 e2
  clear Oz0
  clear Ez0
  replace V0 := hide (((unhide V0).later hb).later ((Below.refl _ _).alloc (Nat.le_refl _) (.cells #[.bool vh.g, .slice vh.a vh.n vh.c] 27)))
  replace VG := hide (((unhide VG).later hb).later ((Below.refl _ _).alloc (Nat.le_refl _) (.cells #[.bool vh.g, .slice vh.a vh.n vh.c] 27)))
  have VH := hide (VarB.start 27 hown)
  replace HB := hide ((below_on (unhide HB) hb).alloc (below_on (unhide HB) hb).size (.cells #[.bool vh.g, .slice vh.a vh.n vh.c] 27))
  clear hb hown hu
  have hmh : vh.n ≤ maxLen := by rw [← ((unhide VH).own.own (vh, dr) (by simp)).len, ((unhide V0).own.own (vr, dr) (by simp)).len]; exact rm
  have p0 := (unhide VH).c0
  have p1 := (unhide VH).c1
  have p2 := (unhide V0).c0
  have p3 := (unhide V0).c1
  go_wp2_with fail
  refine (eqB_at vh vr dr _ (unhide VH).own.sl.head (unhide V0).own.sl.head hmh).mono ?_
  rintro e wq3 ⟨rfl, hb⟩
  replace V0 := hide ((unhide V0).later hb)
  replace VG := hide ((unhide VG).later hb)
  replace VH := hide ((unhide VH).later hb)
  replace HB := hide (below_on (unhide HB) hb)
  have s_wq3 := hb.size
  clear hb
  clear p0 p1 p2 p3
  clear VH
  have p0 := (unhide VG).c0
  have p1 := (unhide VG).c1
  go_wp2_with fail
  refine (heldB_at vg 1 _ ((unhide VG).own.sl (vg, ⟨dr.g, marks 1 vg.n⟩) (by simp)).sl ql (by omega) (by omega)).mono ?_
  rintro e wh2 ⟨rfl, hb⟩
  replace V0 := hide ((unhide V0).later hb)
  replace VG := hide ((unhide VG).later hb)
  replace HB := hide (below_on (unhide HB) hb)
  have s_wh2 := hb.size
  clear hb
  clear p0 p1
  go_wp2
  go_ret
  exact ⟨rfl, unhide HB⟩
end Go.Proofs.Ytaaajmdneaaeeaa
namespace Go.Proofs.Ytaaajmdneaaeeaa
open Go.ChangeShapes Go.WideShapes Go.ChangeAt Go.RowKit Go.Joins
set_option linter.unusedVariables false
set_option maxRecDepth 100000
set_option linter.unusedSimpArgs false

theorem addr_add (b off k : Nat) : (⟨b, off, none⟩ : Addr).add k = ⟨b, off + k, none⟩ := by
  unfold Addr.add
  split
  · rename_i h; subst h; rfl
  · rfl
end Go.Proofs.Ytaaajmdneaaeeaa
namespace Go.Proofs.Ytaaajmdneaaeeaa
open Go.ChangeShapes Go.WideShapes Go.ChangeAt Go.RowKit Go.Joins
set_option linter.unusedVariables false
set_option maxRecDepth 100000
set_option linter.unusedSimpArgs false

theorem open_bigc {H : Type} {enc : TypeId × Value → H} {W : World} {m : Nat} {c0 c1 : Value} {x : DataW H × List MemPlace}
    (hf : DataW.trod enc Try.prog W 0 (fun _ => true) true m 88 [c0, c1] = some x) :
    ∃ p : BV × BD, (c0 = .bool p.1.g ∧ c1 = .slice p.1.a p.1.n p.1.c) ∧ AllSl W [(p.1, p.2)] ∧ p.1.n ≤ maxLen := by
  obtain ⟨z0, z1, n1, _, _, p0, p1⟩ := trod_struct2 Try.underlying88 hf
  have c_b : Try.prog.cellsOf 4 = 1 := by kernel_rfl
  have c_s : Try.prog.cellsOf 25 = 1 := by kernel_rfl
  obtain ⟨g, a, n', c, xs, rfl, rfl, s1, s2, s3, _⟩ := open_two (c0 := c0) (c1 := c1) (by simpa [c_b] using p0) (by simpa [c_s] using p1)
  exact ⟨(⟨g, a, n', c⟩, ⟨g, xs⟩), ⟨rfl, rfl⟩, AllSl.cons ⟨rfl, s1, s2⟩ (AllSl.nil _), s3⟩
end Go.Proofs.Ytaaajmdneaaeeaa
namespace Go.Proofs.Ytaaajmdneaaeeaa
open Go.ChangeShapes Go.WideShapes Go.ChangeAt Go.RowKit Go.Joins
set_option linter.unusedVariables false
set_option maxRecDepth 100000
set_option linter.unusedSimpArgs false

theorem open_PBc {H : Type} {enc : TypeId × Value → H} {W : World} {f0 : Nat} {v : Value} {x : DataW H × List MemPlace}
    (hf : DataW.trod enc Try.prog W 0 (fun _ => true) true f0 65 [v] = some x) :
    ∃ (a : Option Addr) (n c : Nat) (l : List (BV × BD)), v = .slice a n c ∧ PSlB W a l ∧ l.length = n ∧ n ≤ maxLen ∧ ∀ p ∈ l, p.1.n ≤ maxLen := by
  rcases Go.Deep.open_slice Try.underlying65 hf with ⟨hcs, _⟩ | ⟨a', len, cap, m, n', D, Pl, hcs, _, hl, hm, hmm, _, hx⟩
  · simp only [List.cons.injEq, and_true] at hcs
    obtain rfl := hcs
    exact ⟨none, 0, 0, [], rfl, ⟨.inl rfl, fun p hp => by cases hp⟩, rfl, Nat.zero_le _, fun p hp => by cases hp⟩
  · simp only [List.cons.injEq, and_true] at hcs
    obtain rfl := hcs
    obtain ⟨n, hnn⟩ : ∃ z, z = len := ⟨_, rfl⟩
    subst hnn
    simp only [if_true] at hmm
    subst hmm
    have each : ∀ i, i < n → ∃ p : BV × BD, (W.cell? ((a'.add (i * 2)).add 0) = some (.bool p.1.g) ∧ W.cell? ((a'.add (i * 2)).add 1) = some (.slice p.1.a p.1.n p.1.c)) ∧ AllSl W [(p.1, p.2)] ∧ p.1.n ≤ maxLen := by
      intro i hi
      obtain ⟨cs, h1, h2⟩ := hx i (by omega)
      rw [Try.cells88] at h1
      obtain ⟨_, h3, h4⟩ := World.cells?_some h1
      match cs, h3 with
      | [c0, c1], _ =>
        obtain ⟨p, ⟨rfl, rfl⟩, hp⟩ := open_bigc h2
        exact ⟨p, ⟨h4 0 (by omega), h4 1 (by omega)⟩, hp⟩
    have inh : Inhabited (BV × BD) := ⟨(⟨false, none, 0, 0⟩, ⟨false, []⟩)⟩
    obtain ⟨f, hf⟩ := Go.Deep.choose_lt each
    refine ⟨some a', n, m, (List.range n).map f, rfl, ⟨?_, ?_⟩, by simp, Nat.le_trans hl hm, ?_⟩
    · by_cases h0 : n = 0
      · subst h0; exact .inl rfl
      · obtain ⟨b, off, spot⟩ := a'
        have hc := (hf 0 (by omega)).1.1
        have hspot : spot = none := by simpa [Addr.add] using World.cell?_spot hc
        subst hspot
        refine .inr ⟨b, off, rfl, ?_, fun i hi => ?_⟩
        · have := World.block_lt_of_cell? _ _ hc
          rw [addr_add, addr_add] at this
          exact this
        · have hi' : i < n := by simpa using hi
          have h1 := (hf i hi').1
          rw [addr_add, addr_add, addr_add] at h1
          simpa using h1
    · intro p hp
      obtain ⟨i, hi, rfl⟩ := List.mem_map.1 hp
      exact (hf i (List.mem_range.1 hi)).2.1
    · intro p hp
      obtain ⟨i, hi, rfl⟩ := List.mem_map.1 hp
      exact (hf i (List.mem_range.1 hi)).2.2
theorem open_MM {H : Type} {enc : TypeId × Value → H} {W : World} {r : Reach} {b0 : Nat} {v : Value} {d : DataW H} {p : List MemPlace}
    (hv : Value.okWide Try.prog W r b0 38 v) (h : DataW.Trod enc Try.prog W 0 (fun _ => true) true 38 v d p) :
    ∃ (a : Option Addr) (n c : Nat) (rs : List RB), v = .slice a n c ∧ MSl W a rs ∧ rs.length = n ∧ n ≤ maxLen ∧ MLn rs := by
  obtain ⟨a, n, c, rfl⟩ := okWide_slice Try.underlying38 hv
  obtain ⟨fuel, hf⟩ := h
  rcases Go.Deep.open_slice Try.underlying38 hf with ⟨hcs, _⟩ | ⟨a', len, cap, m, n', D, Pl, hcs, _, hl, hm, hmm, _, hx⟩
  · simp only [Value.cells, List.cons.injEq, Value.slice.injEq, and_true] at hcs
    obtain ⟨rfl, rfl, rfl⟩ := hcs
    exact ⟨none, 0, 0, [], rfl, ⟨.inl rfl, fun p hp => by cases hp⟩, rfl, Nat.zero_le _, fun p hp => by cases hp⟩
  · simp only [Value.cells, List.cons.injEq, Value.slice.injEq, and_true] at hcs
    obtain ⟨rfl, rfl, rfl⟩ := hcs
    simp only [if_true] at hmm
    subst hmm
    have one : Try.prog.cellsOf 65 = 1 := by kernel_rfl
    have each : ∀ i, i < n → ∃ q : RB, W.cell? ((a'.add (i * 1)).add 0) = some (.slice q.a q.n q.c) ∧ PSlB W q.a q.l ∧ q.l.length = q.n ∧ q.n ≤ maxLen ∧ ∀ p ∈ q.l, p.1.n ≤ maxLen := by
      intro i hi
      obtain ⟨cs, h1, h2⟩ := hx i (by omega)
      rw [one] at h1
      obtain ⟨_, h3, h4⟩ := World.cells?_some h1
      match cs, h3 with
      | [c0], _ =>
        obtain ⟨a2, n2, c2, l2, rfl, g1, g2, g3, g4⟩ := open_PBc h2
        exact ⟨⟨a2, n2, c2, l2⟩, h4 0 (by omega), g1, g2, g3, g4⟩
    have inh : Inhabited RB := ⟨⟨none, 0, 0, []⟩⟩
    obtain ⟨f, hf⟩ := Go.Deep.choose_lt each
    refine ⟨some a', n, m, (List.range n).map f, rfl, ⟨?_, ?_⟩, by simp, Nat.le_trans hl hm, ?_⟩
    · by_cases h0 : n = 0
      · subst h0; exact .inl rfl
      · obtain ⟨b, off, spot⟩ := a'
        have hc := (hf 0 (by omega)).1
        have hspot : spot = none := by simpa [Addr.add] using World.cell?_spot hc
        subst hspot
        refine .inr ⟨b, off, rfl, ?_, fun i hi => ?_⟩
        · have := World.block_lt_of_cell? _ _ hc
          rw [addr_add, addr_add] at this
          exact this
        · have hi' : i < n := by simpa using hi
          have h1 := (hf i hi').1
          rw [addr_add, addr_add] at h1
          simpa using h1
    · intro q hq
      obtain ⟨i, hi, rfl⟩ := List.mem_map.1 hq
      exact ⟨(hf i (List.mem_range.1 hi)).2.1, (hf i (List.mem_range.1 hi)).2.2.1⟩
    · intro q hq
      obtain ⟨i, hi, rfl⟩ := List.mem_map.1 hq
      exact (hf i (List.mem_range.1 hi)).2.2.2
end Go.Proofs.Ytaaajmdneaaeeaa
namespace Go.Proofs.Ytaaajmdneaaeeaa
open Go.ChangeShapes Go.WideShapes Go.ChangeAt Go.RowKit Go.Joins
set_option linter.unusedVariables false
set_option maxRecDepth 100000
set_option linter.unusedSimpArgs false

set_option maxRecDepth 100000 in
theorem det7_holds_lifted (os : Os) (started : os.Started) (H : Type) (enc : TypeId × Value → H) :
    ReturnsInHanded {} Try.checked os 4 .any (Rows.fnExactDetOfSpec.pre6 enc Try.prog Try.f4 Rows.fnExactDetOfRow.domain false) (Rows.fnExactDetOfSpec.post enc Try.prog Try.f4 false true false false) := by
  refine returnsInHanded_of_change (C := Try.checked) own started (by kernel_rfl) Try.func4
    (ChangeSpec.witness6 (enc := enc) (C := Try.checked) false ⟨#[], #[.slice none 0 0], []⟩ 8 (by kernel_rfl) (by kernel_rfl) (by kernel_rfl) (by kernel_rfl)) ?_
  intro W base args ds gs before hval0 hW hcnd _
  have hval : ∀ (j : Nat) t v, Try.f4.params[j]? = some t → args[j]? = some v → Value.okWide Try.prog W .any base t v := hval0
  have hW' := hW
  obtain ⟨p, q, hA0, hV, rfl, hfz, hnd⟩ := hW
  have hA : DataW.TrodAll enc Try.prog W 0 (fun _ => true) true Try.f4.params.toList args.toList ds p := hA0
  rw [Try.params4] at hA hval
  obtain ⟨v0, vs0, d0, ds0, p0, q0, hargs, rfl, rfl, h0, r0⟩ := trodAll_cons hA
  obtain ⟨rfl, rfl, rfl⟩ := trodAll_nil r0
  obtain rfl : args = #[v0] := by cases args; simp_all
  obtain ⟨rfl, rfl⟩ := trodVars_none hV
  have lt0 : ∀ x ∈ p0, x.block < W.heap.size := by obtain ⟨m, hm⟩ := h0; exact DataW.trod_lt m _ _ _ hm
  obtain ⟨a0, n0, c0, xs0, rfl, sl0, hn0, hm0, ml0⟩ := open_MM (hval 0 38 v0 rfl rfl) h0
  clear hA0 hval0
  refine (lawDet7_walk a0 n0 c0 xs0 W sl0 hn0 hm0 ml0).mono fun e W' ⟨he, bel⟩ => ?_
  subst he
  exact ⟨_, rfl, _, _, _, [], _, [], hW', trodAll_mk1 (shut_bool Try.underlying4 _), (trodAll_cons_mk (Below.trod laidOut (by kernel_rfl) (of_decide_eq_true (by kernel_rfl)) h0 bel lt0) trodAll_mk0), rfl, bel.frame _, fun h => by cases h⟩

theorem det7_holds_c0 : (Rows.fnExactDetOfRow.wf (OpenSpec.ofChange Rows.fnExactDetOfSpec)) = true := by kernel_rfl
theorem det7_holds_c1 : (laidOutB Try.pinned.checked.prog) = true := by kernel_rfl
theorem det7_holds_c2 : (mapsRowed Try.pinned.checked.prog) = true := by kernel_rfl
theorem det7_holds_c3 : (Try.f4.params.all (Try.pinned.checked.prog.readableRec ·)) = true := by kernel_rfl
theorem det7_holds_c4 : (namedTie Try.pinned.checked.prog Rows.fnExactDetOfRow.named Rows.fnExactDetOfSpec.vars) = true := by kernel_rfl
theorem det7_holds_c5 : (Rows.fnExactDetOfRow.stops == []) = true := by kernel_rfl
theorem det7_holds_c6 : (Try.pinned.checked.prog.stops == []) = true := by kernel_rfl
theorem det7_holds_c7 : (Rows.fnExactDetOfRow.knobs == []) = true := by kernel_rfl
theorem det7_holds_c8 : (Try.pinned.checked.prog.stopKnobs == []) = true := by kernel_rfl
theorem det7_holds_c9 : (Rows.fnExactDetOfRow.inPlace == Try.pinned.checked.prog.inPlace 4) = true := by kernel_rfl
theorem det7_holds_c10 : (Rows.fnExactDetOfRow.unfollowed == Try.pinned.checked.prog.unfollowed 4) = true := by kernel_rfl
theorem det7_holds_c11 : (Rows.fnExactDetOfRow.recurses == Try.pinned.checked.prog.recurses 4) = true := by kernel_rfl
theorem det7_holds_c12 : (Rows.fnExactDetOfRow.named == Try.pinned.checked.prog.varsNamed 4) = true := by kernel_rfl
theorem det7_holds_c13 : (Rows.fnExactDetOfRow.maps == (Try.f4.params.toList ++ Rows.fnExactDetOfSpec.plain.varTypes Try.pinned.checked.prog).any (Try.pinned.checked.prog.mapsRec ·)) = true := by kernel_rfl
theorem det7_holds_c14 : (Rows.fnExactDetOfRow.ifaces == (Try.f4.params.toList ++ Rows.fnExactDetOfSpec.plain.varTypes Try.pinned.checked.prog).any (Try.pinned.checked.prog.ifacesRec ·)) = true := by kernel_rfl
theorem det7_holds_c15 : (Rows.fnExactDetOfRow.mapsOut == Try.pinned.checked.prog.mapsAmong Try.f4.resultTypes.toList) = true := by kernel_rfl
theorem det7_holds_c16 : (Rows.fnExactDetOfRow.loops == (Try.f4.params.toList ++ Rows.fnExactDetOfSpec.plain.varTypes Try.pinned.checked.prog).any (Try.pinned.checked.prog.loopsFrom ·)) = true := by kernel_rfl
theorem det7_holds_c17 : (Rows.fnExactDetOfRow.wideKeys == (Try.f4.params.toList ++ Rows.fnExactDetOfSpec.plain.varTypes Try.pinned.checked.prog ++ Try.f4.resultTypes.toList).any (Try.pinned.checked.prog.wideKeysFrom ·)) = true := by kernel_rfl
theorem det7_holds_c18 : (Rows.fnExactDetOfSpec.vars.all (Try.pinned.checked.prog.varReadable ·)) = true := by kernel_rfl
theorem det7_holds_c19 : (Try.f4.resultTypes.all (fun t => Try.pinned.checked.prog.readableRec t && decide (t < Try.pinned.checked.prog.types.size))) = true := by kernel_rfl
theorem det7_holds_c20 : (Rows.fnExactDetOfRow.ifacesOut == Try.f4.resultTypes.toList.any (Try.pinned.checked.prog.ifacesRec ·)) = true := by kernel_rfl
theorem det7_holds_c21 : (Rows.fnExactDetOfRow.loopsOut == Try.f4.resultTypes.toList.any (Try.pinned.checked.prog.loopsFrom ·)) = true := by kernel_rfl
theorem det7_holds_c22 : (Rows.fnExactDetOfRow.plainKeys == Try.pinned.checked.prog.plainKeys) = true := by kernel_rfl
theorem det7_holds_c23 : (Rows.fnExactDetOfRow.shortTexts.isNone) = true := by kernel_rfl
theorem det7_holds_c24 : (Try.pinned.checked.prog.stopsHeard) = true := by kernel_rfl
theorem det7_holds_c25 : (Try.pinned.checked.prog.mayEnter) = true := io_enter
theorem det7_holds_c26 : (Rows.fnExactDetOfRow.lifted == Try.pinned.checked.prog.liftsFinal) = true := by rw [io_lifts]; kernel_rfl
theorem det7_holds_c27 : (Try.pinned.checked.prog.make == some Rows.fnExactDetOfRow.make) = true := by rw [io_make]; kernel_rfl
theorem det7_holds_c28 : (Rows.fnExactDetOfRow.kinds == (if Rows.fnExactDetOfRow.domain.isEmpty then [] else Try.f4.params.toList.map fun t => match Try.pinned.checked.prog.underlying t with | some (.int k) => some k | _ => none)) = true := by kernel_rfl
theorem det7_holds_c29 : (Rows.fnExactDetOfRow.pinned == Rows.fnExactDetOfRow.pinnedBy) = true := by kernel_rfl
theorem det7_holds_c30 : (Rows.fnExactDetOfRow.veiled == (Try.f4.params.toList ++ Rows.fnExactDetOfSpec.plain.varTypes Try.pinned.checked.prog ++ Try.f4.resultTypes.toList).any (Try.pinned.checked.prog.veiledRec ·)) = true := by kernel_rfl
theorem det7_holds_c31 : (Rows.fnExactDetOfRow.veiledFits Try.pinned.checked.prog Try.f4.params.toList (Try.f4.params.toList ++ Rows.fnExactDetOfSpec.plain.varTypes Try.pinned.checked.prog ++ Try.f4.resultTypes.toList)) = true := by kernel_rfl
theorem det7_holds_and {a b : Bool} (h : a = true) (k : b = true) : (a && b) = true := by rw [h, k]; rfl
theorem det7_holds_closed : joinedFacts Try.pinned.checked.prog 4 Try.f4 Rows.fnExactDetOfSpec Rows.fnExactDetOfRow = true := (det7_holds_and (det7_holds_and (det7_holds_and (det7_holds_and (det7_holds_and (det7_holds_and (det7_holds_and (det7_holds_and (det7_holds_and (det7_holds_and (det7_holds_and (det7_holds_and (det7_holds_and (det7_holds_and (det7_holds_and (det7_holds_and (det7_holds_and (det7_holds_and (det7_holds_and (det7_holds_and (det7_holds_and (det7_holds_and (det7_holds_and (det7_holds_and (det7_holds_and (det7_holds_and (det7_holds_and (det7_holds_and (det7_holds_and (det7_holds_and (det7_holds_and det7_holds_c0 det7_holds_c1) det7_holds_c2) det7_holds_c3) det7_holds_c4) det7_holds_c5) det7_holds_c6) det7_holds_c7) det7_holds_c8) det7_holds_c9) det7_holds_c10) det7_holds_c11) det7_holds_c12) det7_holds_c13) det7_holds_c14) det7_holds_c15) det7_holds_c16) det7_holds_c17) det7_holds_c18) det7_holds_c19) det7_holds_c20) det7_holds_c21) det7_holds_c22) det7_holds_c23) det7_holds_c24) det7_holds_c25) det7_holds_c26) det7_holds_c27) det7_holds_c28) det7_holds_c29) det7_holds_c30) det7_holds_c31)
theorem det7_holds_named : Try.pinned.checked.prog.funcNamed Rows.fnExactDetOfRow.func = some 4 := by kernel_rfl
theorem det7_holds_inst : Try.f4.isInstance Try.pinned.checked.prog Rows.fnExactDetOfRow.origin Rows.fnExactDetOfRow.targs := of_decide_eq_true (by kernel_rfl)
theorem det7_holds_wrap : Try.f4.isWrapper Try.pinned.checked.prog Rows.fnExactDetOfRow.wrapper Rows.fnExactDetOfRow.mainSum := by unfold Func.isWrapper; first | (rw [if_pos (by decide +kernel)]; kernel_rfl) | (rw [if_neg (by decide +kernel)]; exact ⟨rfl, rfl⟩)
theorem det7_holds : Rows.FnExactDetOfSaid :=
  OpenClaim.holds_of_wide 4 Try.f4 rfl rfl rfl rfl rfl rfl rfl ⟨rfl, rfl, rfl, rfl, rfl⟩ rfl rfl rfl rfl rfl det7_holds_named Try.func4 det7_holds_closed det7_holds_inst det7_holds_wrap
    (fun os started H enc _ => det7_holds_lifted os started H enc)
#print axioms det7_holds
end Go.Proofs.Ytaaajmdneaaeeaa
