/- DetByParts of both sides. No condition beyond those typed. Written by mkparts11.py. -/
import Derived.Test.YtaaajmdneaaeeaaFlatQ
import Derived.Test.YtaaajmdneaaeeaaLow
import Derived.Test.YtaaajmdneaaeeaaPackD7
import Derived.Lib.BitFns
namespace Go.Proofs.Ytaaajmdneaaeeaa
open Go.RowKit
set_option linter.unusedVariables false
set_option maxRecDepth 100000
set_option linter.unusedSimpArgs false

/-- The cells of some values in a row. -/
def PAtQ (w : World) (a : Option Addr) (l : List (QV × QD)) : Prop := l = [] ∨ ∃ b off, a = some ⟨b, off, none⟩ ∧ b < w.heap.size ∧ ∀ i (h : i < l.length), w.cell? ⟨b, off + i * 4, none⟩ = some (.bool l[i].1.num.g) ∧ w.cell? ⟨b, off + i * 4 + 1, none⟩ = some (.slice l[i].1.num.a l[i].1.num.n l[i].1.num.c) ∧ w.cell? ⟨b, off + i * 4 + 2, none⟩ = some (.bool l[i].1.den.g) ∧ w.cell? ⟨b, off + i * 4 + 3, none⟩ = some (.slice l[i].1.den.a l[i].1.den.n l[i].1.den.c)
theorem PAtQ.later {w w' : World} {a : Option Addr} {l : List (QV × QD)} (h : PAtQ w a l) (hb : Below w.heap.size w w') : PAtQ w' a l := by
  rcases h with h | ⟨b, off, rfl, h1, h2⟩
  · exact .inl h
  · exact .inr ⟨b, off, rfl, Nat.lt_of_lt_of_le h1 hb.size, fun i hi => ⟨cell_later hb ((h2 i hi).1), cell_later hb ((h2 i hi).2.1), cell_later hb ((h2 i hi).2.2.1), cell_later hb ((h2 i hi).2.2.2)⟩⟩
structure PSlQ (w : World) (a : Option Addr) (l : List (QV × QD)) : Prop where
  at_ : PAtQ w a l
  rd : ∀ p ∈ l, AllSl w [(p.1.num, p.2.num), (p.1.den, p.2.den)]
theorem PSlQ.later {w w' : World} {a : Option Addr} {l : List (QV × QD)} (h : PSlQ w a l) (hb : Below w.heap.size w w') : PSlQ w' a l := ⟨h.at_.later hb, fun p hp => (h.rd p hp).later hb⟩
/-- .. as an argument. -/
structure PArQ (w : World) (a : Option Addr) (n c : Nat) (l : List (QV × QD)) : Prop where
  at_ : PAtQ w a l
  rd : ∀ p ∈ l, AllAr w [(p.1.num, p.2.num), (p.1.den, p.2.den)]
  len : l.length = n
  cap : n ≤ c
  top : c ≤ maxLen
theorem PArQ.later {w w' : World} {a : Option Addr} {n c : Nat} {l : List (QV × QD)} (h : PArQ w a n c l) (hb : Below w.heap.size w w') : PArQ w' a n c l := ⟨h.at_.later hb, fun p hp => (h.rd p hp).later hb, h.len, h.cap, h.top⟩
theorem PArQ.sl {w : World} {a : Option Addr} {n c : Nat} {l : List (QV × QD)} (h : PArQ w a n c l) : PSlQ w a l := ⟨h.at_, fun p hp => (h.rd p hp).sl⟩
end Go.Proofs.Ytaaajmdneaaeeaa
namespace Go.Proofs.Ytaaajmdneaaeeaa
open Go.RowKit
set_option linter.unusedVariables false
set_option maxRecDepth 100000
set_option linter.unusedSimpArgs false

/-- The mark that stands for a sign. -/
def sg (k : Int) : Bool := (k % 3 == 0)
theorem mid_ne {α : Type} {pre post : List α} {y y' : α} {j : Nat} (h : j ≠ pre.length) : (pre ++ y :: post)[j]? = (pre ++ y' :: post)[j]? := by
  by_cases c : j < pre.length
  · rw [List.getElem?_append_left c, List.getElem?_append_left c]
  · rw [List.getElem?_append_right (by omega), List.getElem?_append_right (by omega)]
    obtain ⟨m, hm⟩ : ∃ m, j - pre.length = m + 1 := ⟨j - pre.length - 1, by omega⟩
    rw [hm, List.getElem?_cons_succ, List.getElem?_cons_succ]
theorem mid_eq {α : Type} {pre post : List α} {y : α} : (pre ++ y :: post)[pre.length]? = some y := by
  rw [List.getElem?_append_right (Nat.le_refl _), Nat.sub_self]; rfl
theorem AllOwn.resign {lo hi : Nat} {w w' : World} {pre post : List (BV × BD)} {b : BV} {d : BD} (g : Bool) (h : AllOwn lo hi w (pre ++ (b, d) :: post)) (hb : ∀ k, lo ≤ k → k < w.heap.size → w'.heap[k]? = w.heap[k]?) : AllOwn lo hi w' (pre ++ (⟨g, b.a, b.n, b.c⟩, ⟨g, d.xs⟩) :: post) := by
  have mv : ∀ (a : Option Addr) (zs : List Int), Own2 lo hi w a zs → Own2 lo hi w' a zs := fun a zs ho => by
    rcases ho with e | ⟨b', cur, e, h1, h2, hg, hc⟩
    · exact .inl e
    · exact .inr ⟨b', cur, e, h1, h2, by rw [hb b' h1 (Array.getElem?_eq_some_iff.1 hg).1]; exact hg, hc⟩
  refine ⟨fun p hp => ?_, ?_⟩
  · rcases List.mem_append.1 hp with hp | hp
    · have ho := h.own p (List.mem_append_left _ hp)
      exact ⟨ho.sg, mv _ _ ho.own, ho.len⟩
    · rcases List.mem_cons.1 hp with rfl | hp
      · have ho := h.own (b, d) (List.mem_append_right _ List.mem_cons_self)
        exact ⟨rfl, mv _ _ ho.own, ho.len⟩
      · have ho := h.own p (List.mem_append_right _ (List.mem_cons_of_mem _ hp))
        exact ⟨ho.sg, mv _ _ ho.own, ho.len⟩
  · obtain ⟨p1, p2, p3⟩ := List.pairwise_append.1 h.ap
    obtain ⟨p4, p5⟩ := List.pairwise_cons.1 p2
    refine List.pairwise_append.2 ⟨p1, List.pairwise_cons.2 ⟨fun q hq => p4 q hq, p5⟩, fun p hp q hq => ?_⟩
    rcases List.mem_cons.1 hq with rfl | hq
    · exact p3 p hp (b, d) List.mem_cons_self
    · exact p3 p hp q (List.mem_cons_of_mem _ hq)
theorem But.wide {lo hi lo' hi' : Nat} {w w' : World} (h : But lo hi w w') (h1 : lo' ≤ lo) (h2 : hi ≤ hi') : But lo' hi' w w' := ⟨h.os, h.tape, h.output, h.size, fun k hk hd => h.block k hk (by omega)⟩
theorem setCell_other {w : World} {G o k : Nat} {v : Value} (h : k ≠ G) : (w.setCell ⟨G, o, none⟩ v).heap[k]? = w.heap[k]? := heap_setCell_other w ⟨G, o, none⟩ k v h
theorem PSlQ.data {w : World} {a : Option Addr} {l : List (QV × QD)} (h : PSlQ w a l) : ∀ p ∈ l, p.2.num.xs.length = p.1.num.n ∧ p.2.den.xs.length = p.1.den.n := fun p hp => ⟨(h.rd p hp).head.len, (h.rd p hp).tail.head.len⟩
end Go.Proofs.Ytaaajmdneaaeeaa
namespace Go.Proofs.Ytaaajmdneaaeeaa
open Go.RowKit
set_option linter.unusedVariables false
set_option maxRecDepth 100000
set_option linter.unusedSimpArgs false

/-- The cells of some numbers from block G's start on. -/
def RowB (w : World) (G : Nat) (l : List (BV × BD)) : Prop := ∃ cur, w.heap[G]? = some (.cells cur 27 (0, 0)) ∧ ∀ j p, l[j]? = some p → cur[j * 2]? = some (.bool p.1.g) ∧ cur[j * 2 + 1]? = some (.slice p.1.a p.1.n p.1.c)
theorem RowB.lt {w : World} {G : Nat} {l : List (BV × BD)} (h : RowB w G l) : G < w.heap.size := by
  obtain ⟨cur, hg, _⟩ := h
  exact (Array.getElem?_eq_some_iff.1 hg).1
theorem RowB.cellsAt {w : World} {G : Nat} {l : List (BV × BD)} (h : RowB w G l) {i : Nat} {y : BV × BD} (hy : l[i]? = some y) : w.cell? ⟨G, i * 2, none⟩ = some (.bool y.1.g) ∧ w.cell? ⟨G, i * 2 + 1, none⟩ = some (.slice y.1.a y.1.n y.1.c) := by
  obtain ⟨cur, hg, hc⟩ := h
  have h1 := hc i y hy
  refine ⟨?_, ?_⟩ <;> rw [cell_of_row w G _ cur 27 (0, 0) hg]
  · exact h1.1
  · exact h1.2
theorem RowB.frozen {w : World} {G : Nat} {l : List (BV × BD)} (h : RowB w G l) (o : Nat) : w.frozen? ⟨G, o, none⟩ = false := by
  obtain ⟨cur, hg, hc⟩ := h
  exact frozen_of_row w G o cur 27 hg
theorem RowB.but {w w' : World} {G lo hi : Nat} {l : List (BV × BD)} (h : RowB w G l) (hb : But lo hi w w') (hG : G < lo ∨ hi ≤ G) : RowB w' G l := by
  obtain ⟨cur, hg, hc⟩ := h
  exact ⟨cur, by rw [hb.block G (Array.getElem?_eq_some_iff.1 hg).1 hG]; exact hg, hc⟩
theorem RowB.later {w w' : World} {G : Nat} {l : List (BV × BD)} (h : RowB w G l) (hb : Below w.heap.size w w') : RowB w' G l := by
  obtain ⟨cur, hg, hc⟩ := h
  exact ⟨cur, by rw [hb.block G (Array.getElem?_eq_some_iff.1 hg).1]; exact hg, hc⟩
theorem RowB.g0 {w : World} {G i : Nat} {pre post : List (BV × BD)} {y : BV × BD} (g : Bool) (h : RowB w G (pre ++ y :: post)) (hi : pre.length = i) : RowB (w.setCell ⟨G, i * 2, none⟩ (.bool g)) G (pre ++ ((⟨g, y.1.a, y.1.n, y.1.c⟩ : BV), (⟨g, y.2.xs⟩ : BD)) :: post) := by
  obtain ⟨cur, hg, hc⟩ := h
  subst hi
  refine ⟨cur.setIfInBounds (pre.length * 2) (.bool g), heap_setCell_same w G (pre.length * 2) cur 27 (.bool g) hg, fun j p hp => ?_⟩
  by_cases e : j = pre.length
  · subst e
    rw [mid_eq] at hp
    obtain rfl := Option.some.inj hp
    have h1 := hc pre.length y mid_eq
    have hs : pre.length * 2 < cur.size := (Array.getElem?_eq_some_iff.1 (h1.1)).1
    refine ⟨?_, ?_⟩
    · simp [hs]
    · rw [Array.getElem?_setIfInBounds_ne (by omega)]; exact h1.2
  · rw [mid_ne e (y' := y)] at hp
    have h1 := hc j p hp
    refine ⟨?_, ?_⟩
    · rw [Array.getElem?_setIfInBounds_ne (by omega)]; exact h1.1
    · rw [Array.getElem?_setIfInBounds_ne (by omega)]; exact h1.2
theorem RowB.data {w : World} {G : Nat} {pre post : List (BV × BD)} {v : BV} {d d' : BD} (h : RowB w G (pre ++ (v, d) :: post)) : RowB w G (pre ++ (v, d') :: post) := by
  obtain ⟨cur, hg, hc⟩ := h
  refine ⟨cur, hg, fun j p hp => ?_⟩
  by_cases e : j = pre.length
  · subst e
    rw [mid_eq] at hp
    obtain rfl := Option.some.inj hp
    exact hc pre.length (v, d) mid_eq
  · rw [mid_ne e (y' := (v, d))] at hp
    exact hc j p hp
theorem zipB_mid (pre post : List (BV × BD)) (y : BV × BD) : zipPB (pre ++ y :: post) = zipPB pre ++ (y.1, y.2) :: zipPB post := by simp [zipPB]

theorem markPB0 (a : Option Addr) (c : Nat) (k : Int) (w : World) : Calls Try.prog 57 #[.slice a 0 c, .int .i64 k] w fun e w' => e = .returned (.int .i64 k) ∧ w' = w := by
  go_enter Try.func57, Try.ntmps57
  go_wp2
  refine wp_loop_rounds 1 ?_
  rw [rounds_succ]
  go_wp2
  go_ret
  exact ⟨rfl, rfl⟩
end Go.Proofs.Ytaaajmdneaaeeaa
namespace Go.Proofs.Ytaaajmdneaaeeaa
open Go.RowKit
set_option linter.unusedVariables false
set_option maxRecDepth 100000
set_option linter.unusedSimpArgs false

/-- A slice of numbers that is the call's own: its row and its numbers in blocks from B to below E. -/
structure PRoB (B E : Nat) (w : World) (a : Option Addr) (n c : Nat) (l : List (BV × BD)) : Prop where
  len : l.length = n
  sz : n + lenPB l ≤ 3200000
  ml : ∀ p ∈ l, p.1.n ≤ 1048576
  row : n = 0 ∨ ∃ G lo hi, a = some ⟨G, 0, none⟩ ∧ B ≤ G ∧ G < lo ∧ lo ≤ hi ∧ hi ≤ E ∧ RowB w G l ∧ AllOwn lo hi w (zipPB l)
theorem PRoB.later {B E : Nat} {w w' : World} {a : Option Addr} {n c : Nat} {l : List (BV × BD)} (h : PRoB B E w a n c l) (hb : Below w.heap.size w w') : PRoB B E w' a n c l := by
  refine ⟨h.len, h.sz, h.ml, ?_⟩
  rcases h.row with e | ⟨G, lo, hi, e, h1, h2, h3, h4, h5, h6⟩
  · exact .inl e
  · exact .inr ⟨G, lo, hi, e, h1, h2, h3, h4, h5.later hb, h6.later hb⟩
theorem PRoB.sl {B E : Nat} {w : World} {a : Option Addr} {n c : Nat} {l : List (BV × BD)} (h : PRoB B E w a n c l) : PSlB w a l := by
  rcases h.row with e | ⟨G, lo, hi, e, h1, h2, h3, h4, h5, h6⟩
  · have hl : l = [] := List.length_eq_zero_iff.1 (by rw [h.len]; exact e)
    subst hl
    exact ⟨.inl rfl, fun p hp => by cases hp⟩
  · subst e
    refine ⟨.inr ⟨G, 0, rfl, h5.lt, fun i hi => ?_⟩, fun p hp x hx => h6.sl x (zipPB_mem hp hx)⟩
    have hc := h5.cellsAt (List.getElem?_eq_getElem hi)
    simpa using hc
theorem PRoB.lens {B E : Nat} {w : World} {a : Option Addr} {n c : Nat} {l : List (BV × BD)} (h : PRoB B E w a n c l) : ∀ p ∈ l, p.1.n ≤ maxLen := fun p hp => by
  have := h.ml p hp
  unfold maxLen
  omega
theorem PRoB.max {B E : Nat} {w : World} {a : Option Addr} {n c : Nat} {l : List (BV × BD)} (h : PRoB B E w a n c l) : n ≤ maxLen := by
  have := h.sz
  unfold maxLen
  omega
theorem POwB.ro {lo hi : Nat} {w : World} {G n c : Nat} {l : List (BV × BD)} (h : POwB lo hi w G n c l) (hG : G < lo) (hl : lo ≤ hi) (sz : n + lenPB l ≤ 3200000) (ml : ∀ p ∈ l, p.1.n ≤ 1048576) : PRoB G hi w (some ⟨G, 0, none⟩) n c l := by
  refine ⟨h.len, sz, ml, .inr ⟨G, lo, hi, rfl, Nat.le_refl _, hG, hl, Nat.le_refl _, ?_, h.own⟩⟩
  obtain ⟨M, hr, hM⟩ := h.row
  rcases hr.2 with ⟨h', _⟩ | ⟨g', cap, cur, hv, _, hg, _, _, _, htake⟩
  · simp at h'
  simp only [Value.slice.injEq, Option.some.injEq, Addr.mk.injEq, and_true, true_and] at hv
  obtain ⟨rfl, rfl⟩ := hv
  refine ⟨cur, hg, fun j p hp => ?_⟩
  have hj : j < l.length := (List.getElem?_eq_some_iff.1 hp).1
  have hc := hM j hj
  have e : l[j] = p := by rw [List.getElem?_eq_getElem hj] at hp; exact Option.some.inj hp
  rw [e] at hc
  have hlen := h.len
  have up : ∀ t v, t < n * 2 → M[t]? = some v → cur[t]? = some v := fun t v ht hv => by
    rw [← htake, List.getElem?_take, if_pos ht] at hv
    simpa using hv
  exact ⟨up _ _ (by omega) hc.1, up _ _ (by omega) hc.2⟩
theorem PSlB.dataB {w : World} {a : Option Addr} {l : List (BV × BD)} (h : PSlB w a l) : ∀ p ∈ l, p.2.xs.length = p.1.n := fun p hp => (h.rd p hp).head.len
theorem lenPB_snd {w w' : World} {a a' : Option Addr} {l l' : List (BV × BD)} (h : PSlB w a l) (h' : PSlB w' a' l') (e : l.map Prod.snd = l'.map Prod.snd) : lenPB l = lenPB l' := by
  have key : ∀ k : List (BV × BD), (∀ p ∈ k, p.2.xs.length = p.1.n) → lenPB k = ((k.map Prod.snd).map fun d => d.xs.length).sum := fun k hk => by
    induction k with
    | nil => rfl
    | cons p k ih =>
      have h1 := hk p List.mem_cons_self
      have h2 := ih (fun q hq => hk q (List.mem_cons_of_mem _ hq))
      show lenB p + lenPB k = _
      rw [h2]
      show p.1.n + _ = p.2.xs.length + _
      rw [h1]
      rfl
  rw [key l h.dataB, key l' h'.dataB, e]
theorem ml_sndB {w w' : World} {a a' : Option Addr} {l l' : List (BV × BD)} (h : PSlB w a l) (h' : PSlB w' a' l') (e : l.map Prod.snd = l'.map Prod.snd) (ml : ∀ p ∈ l', p.1.n ≤ 1048576) : ∀ p ∈ l, p.1.n ≤ 1048576 := fun p hp => by
  have h1 : p.2 ∈ l'.map Prod.snd := by rw [← e]; exact List.mem_map.2 ⟨p, hp, rfl⟩
  obtain ⟨q, hq, e2⟩ := List.mem_map.1 h1
  have h2 := h.dataB p hp
  have h3 := h'.dataB q hq
  have h4 := ml q hq
  rw [e2] at h3
  omega
end Go.Proofs.Ytaaajmdneaaeeaa
namespace Go.Proofs.Ytaaajmdneaaeeaa
open Go.RowKit
set_option linter.unusedVariables false
set_option maxRecDepth 100000
set_option linter.unusedSimpArgs false

set_option maxHeartbeats 4000000 in
theorem markPBx (G n c : Nat) (l : List (BV × BD)) (k : Int) (lo hi : Nat) (w : World) (hr : RowB w G l) (ho : AllOwn lo hi w (zipPB l)) (hn : l.length = n) (ml : ∀ p ∈ l, p.1.n ≤ 1048576) (hG : G < lo) (hH : lo ≤ hi) (k0 : 0 ≤ k) (k1 : k + (n : Int) + (lenPB l : Int) ≤ 3900000) :
    Calls Try.prog 57 #[.slice (some ⟨G, 0, none⟩) n c, .int .i64 k] w fun e w' => e = .returned (.int .i64 (k + (n : Int) + (lenPB l : Int))) ∧ But G hi w w' := by
  have HR := hide hr
  have HO := hide ho
  have HN := hide hn
  have ML := hide ml
  clear hr ho hn ml
  have hn1 : n ≤ 3900000 := by omega
  go_enter Try.func57, Try.ntmps57
  go_wp2
  go_loopw [1, 5] (fun kv iv wr => ∃ (i : Nat) (m a b : List (BV × BD)) (q : Int), i ≤ n ∧ iv = .int .i64 i ∧ kv = .int .i64 q ∧ 0 ≤ q ∧ m.length = i ∧ a.length = i ∧ Hid (l = a ++ b) ∧ Hid (q = k + (i : Int) + (lenPB a : Int)) ∧ Hid (RowB wr G (m ++ b)) ∧ Hid (AllOwn lo hi wr (zipPB (m ++ b))) ∧ Hid (But G hi w wr)) (fun _ iv _ => n - (intOf iv).toNat)
  case atStart => exact ⟨0, [], [], l, k, Nat.zero_le _, rfl, rfl, k0, rfl, rfl, hide rfl, hide (by simp [lenPB]), HR, HO, hide (But.refl _ _ _)⟩
  case round =>
    clear HR HO
    obtain ⟨i, m, a, b, q, hi', rfl, rfl, q0, pl, ha, EL, EQ, HR, HO, HB⟩ := hrel
    by_cases hlt : i < n
    · have hlt' : (i : Int) < (n : Int) := by omega
      obtain ⟨y, b', rfl⟩ : ∃ y b', b = y :: b' := by
        cases b with
        | nil => have h1 := unhide HN; rw [unhide EL, List.append_nil] at h1; omega
        | cons y b' => exact ⟨y, b', rfl⟩
      have LB : Hid ((y.1.n : Int) + (q + 1) ≤ 3900000) := hide (by
        have h1 := unhide EQ
        have h2 : lenPB l = lenPB a + (lenB y + lenPB b') := by rw [unhide EL, lenPB_append]; rfl
        have h3 : lenB y = y.1.n := rfl
        omega)
      have l1 : (y.1.n : Int) + (q + 1) ≤ 3900000 := unhide LB
      have m1 : y.1.n ≤ 1048576 := (unhide ML) y (by rw [unhide EL]; simp)
      obtain ⟨c0, c1⟩ := (unhide HR).cellsAt (i := i) (y := y) (by rw [← pl]; exact mid_eq)
      have fz := (unhide HR).frozen
      have gG : G < wr.heap.size := (unhide HR).lt
      have HR1 := hide ((unhide HR).g0 (sg q) pl)
      have HO1 := hide (AllOwn.resign (sg q) (by have h := unhide HO; rw [zipB_mid] at h; exact h) (w' := wr.setCell ⟨G, i * 2, none⟩ (.bool (sg q))) (fun k h1 _ => setCell_other (by omega)))
      have HB1 := hide ((unhide HB).set (p := ⟨G, i * 2, none⟩) (Nat.le_refl _) (by show G < hi; omega) (.bool (sg q)))
      go_wp2_with fail
      refine (mark_at ⟨sg q, y.1.a, y.1.n, y.1.c⟩ ⟨sg q, y.2.xs⟩ (zipPB m) (zipPB b') (q + 1) lo hi _ (unhide HO1) m1 (by omega) (by omega)).mono ?_
      rintro e w2 ⟨rfl, hbt, ho2⟩
      have HR2 : Hid (RowB w2 G ((m ++ [((⟨sg q, y.1.a, y.1.n, y.1.c⟩ : BV), (⟨sg q, marks (q + 1) y.1.n⟩ : BD))]) ++ b')) := hide (by rw [List.append_assoc]; exact ((unhide HR1).but hbt (.inl hG)).data)
      have HO2 : Hid (AllOwn lo hi w2 (zipPB ((m ++ [((⟨sg q, y.1.a, y.1.n, y.1.c⟩ : BV), (⟨sg q, marks (q + 1) y.1.n⟩ : BD))]) ++ b'))) := hide (by rw [List.append_assoc, List.singleton_append, zipB_mid]; exact ho2)
      have HB2 := hide ((unhide HB1).trans (hbt.wide (by omega) (Nat.le_refl _)))
      have EQ2 : Hid (q + 1 + (y.1.n : Int) = k + ((i + 1 : Nat) : Int) + (lenPB (a ++ [y]) : Int)) := hide (by
        have h1 := unhide EQ
        have h2 : lenPB (a ++ [y]) = lenPB a + (lenB y + 0) := by rw [lenPB_append]; rfl
        have h3 : lenB y = y.1.n := rfl
        omega)
      clear hbt ho2 c0 c1 fz HR HO HB HR1 HO1 HB1
      go_wp2
      go_roundw
      case rel => exact ⟨i + 1, _, a ++ [y], b', q + 1 + (y.1.n : Int), by omega, by go_num, rfl, by omega, by simp [pl], by simp [ha], hide (by rw [unhide EL, List.append_assoc]; rfl), EQ2, HR2, HO2, HB2⟩
      case measure => simp [intOf]; omega
    · obtain rfl : i = n := by omega
      have hb : b = [] := by
        have h1 := unhide HN
        rw [unhide EL, List.length_append, ha] at h1
        exact List.length_eq_zero_iff.1 (by omega)
      have EF : Hid (q = k + (i : Int) + (lenPB l : Int)) := hide (by have h := unhide EQ; rw [unhide EL, hb, List.append_nil]; exact h)
      go_wp2
      go_ret
      exact ⟨by rw [← unhide EF]; rfl, unhide HB⟩
/-- A row of numbers: where its slice lies, and its numbers. -/
structure RB where
  a : Option Addr
  n : Nat
  c : Nat
  l : List (BV × BD)
def MAt (w : World) (a : Option Addr) (rs : List RB) : Prop := rs = [] ∨ ∃ b off, a = some ⟨b, off, none⟩ ∧ b < w.heap.size ∧ ∀ i (h : i < rs.length), w.cell? ⟨b, off + i, none⟩ = some (.slice rs[i].a rs[i].n rs[i].c)
theorem MAt.later {w w' : World} {a : Option Addr} {rs : List RB} (h : MAt w a rs) (hb : Below w.heap.size w w') : MAt w' a rs := by
  rcases h with h | ⟨b, off, rfl, h1, h2⟩
  · exact .inl h
  · exact .inr ⟨b, off, rfl, Nat.lt_of_lt_of_le h1 hb.size, fun i hi => cell_later hb (h2 i hi)⟩
structure MSl (w : World) (a : Option Addr) (rs : List RB) : Prop where
  at_ : MAt w a rs
  rd : ∀ r ∈ rs, PSlB w r.a r.l ∧ r.l.length = r.n
theorem MSl.later {w w' : World} {a : Option Addr} {rs : List RB} (h : MSl w a rs) (hb : Below w.heap.size w w') : MSl w' a rs := ⟨h.at_.later hb, fun r hr => ⟨(h.rd r hr).1.later hb, (h.rd r hr).2⟩⟩
structure MAr (w : World) (a : Option Addr) (n c : Nat) (rs : List RB) : Prop where
  at_ : MAt w a rs
  rd : ∀ r ∈ rs, PArB w r.a r.n r.c r.l
  len : rs.length = n
  cap : n ≤ c
  top : c ≤ maxLen
theorem MAr.later {w w' : World} {a : Option Addr} {n c : Nat} {rs : List RB} (h : MAr w a n c rs) (hb : Below w.heap.size w w') : MAr w' a n c rs := ⟨h.at_.later hb, fun r hr => (h.rd r hr).later hb, h.len, h.cap, h.top⟩
theorem MAr.sl {w : World} {a : Option Addr} {n c : Nat} {rs : List RB} (h : MAr w a n c rs) : MSl w a rs := ⟨h.at_, fun r hr => ⟨(h.rd r hr).sl, (h.rd r hr).len⟩⟩
def dM (rs : List RB) : List (List BD) := rs.map (fun r => r.l.map Prod.snd)
def MLn (rs : List RB) : Prop := ∀ r ∈ rs, r.n ≤ maxLen ∧ ∀ p ∈ r.l, p.1.n ≤ maxLen
def szM1 : List RB → Nat
  | [] => 0
  | r :: rs => 1 + r.n + lenPB r.l + szM1 rs
theorem szM1_append (l l' : List RB) : szM1 (l ++ l') = szM1 l + szM1 l' := by
  induction l with
  | nil => simp [szM1]
  | cons r l ih => simp only [List.cons_append, szM1, ih]; omega
theorem szM1_len (l : List RB) : l.length ≤ szM1 l := by
  induction l with
  | nil => simp
  | cons r l ih => simp only [szM1, List.length_cons]; omega
theorem szM1_mem {l : List RB} {r : RB} (h : r ∈ l) : 1 + r.n + lenPB r.l ≤ szM1 l := by
  induction l with
  | nil => cases h
  | cons q l ih =>
    unfold szM1
    rcases List.mem_cons.1 h with rfl | h
    · omega
    · have := ih h; omega
theorem take_succM {l : List RB} {i : Nat} (h : i < l.length) : l.take (i + 1) = l.take i ++ [l[i]] := (List.take_append_getElem h).symm
set_option maxHeartbeats 2000000 in
theorem szM (a : Option Addr) (n c : Nat) (rs : List RB) (left : Int) (w : World) (h : MSl w a rs) (hn : rs.length = n) (hm : n ≤ maxLen) (ml : MLn rs) (h0 : 0 ≤ left) (h1 : left ≤ 1048576) :
    Calls Try.prog 22 #[.slice a n c, .int .i64 left] w fun e w' => ∃ r : Int, e = .returned (.int .i64 r) ∧ Below w.heap.size w w' ∧ (r = -1 ∨ (0 ≤ r ∧ r = left - (szM1 rs : Int))) := by
  have HS := hide h
  have HN := hide hn
  have ML := hide ml
  clear h hn ml
  unfold maxLen at hm
  by_cases c0 : left - (n : Int) < 0
  · go_enter Try.func22, Try.ntmps22
    go_wp2
    go_ret
    exact ⟨_, rfl, Below.refl _ _, .inl rfl⟩
  · go_enter Try.func22, Try.ntmps22
    go_wp2
    go_loopw [1, 5] (fun lv iv wr => ∃ (i : Nat) (r : Int), i ≤ n ∧ iv = .int .i64 i ∧ lv = .int .i64 r ∧ 0 ≤ r ∧ r ≤ 1048576 ∧ Hid (r = left - (n : Int) + (i : Int) - (szM1 (rs.take i) : Int)) ∧ Hid (Below w.heap.size w wr)) (fun _ iv _ => n - (intOf iv).toNat)
    case atStart => exact ⟨0, _, Nat.zero_le _, rfl, rfl, by omega, by omega, hide (by simp [szM1]), hide (Below.refl _ _)⟩
    case round =>
      obtain ⟨i, r, hi, rfl, rfl, r0, r1, ER, HB⟩ := hrel
      by_cases hlt : i < n
      · have hlt' : (i : Int) < (n : Int) := by omega
        rcases (unhide HS).at_ with e | ⟨b, off, rfl, hb, hc⟩
        · exact absurd (unhide HN) (by rw [e]; simp; omega)
        have e0 := hc i (by rw [unhide HN]; exact hlt)
        obtain ⟨y, hy⟩ : ∃ y, y = rs[i]'(by rw [unhide HN]; exact hlt) := ⟨_, rfl⟩
        rw [← hy] at e0
        have MY : Hid (y ∈ rs) := hide (by rw [hy]; exact List.getElem_mem _)
        have TK : Hid (rs.take (i + 1) = rs.take i ++ [y]) := hide (by have h := take_succM (l := rs) (i := i) (by rw [unhide HN]; exact hlt); rw [← hy] at h; exact h)
        clear hy
        have E0 : wr.cell? ⟨b, off + i, none⟩ = some (.slice y.a y.n y.c) := ((unhide HB).cell (p := ⟨b, off + i, none⟩) hb).trans e0
        clear e0 hc
        have hy2 := (unhide HS).rd y (unhide MY)
        have my := (unhide ML) y (unhide MY)
        have CS := hide (szPB y.a y.n y.c y.l r wr (hy2.1.later (unhide HB)) hy2.2 my.1 my.2 r0 r1)
        have TL : Hid ((szM1 (rs.take (i + 1)) : Int) = (szM1 (rs.take i) : Int) + 1 + (y.n : Int) + (lenPB y.l : Int)) := hide (by rw [unhide TK, szM1_append]; show ((_ + (1 + y.n + lenPB y.l + 0) : Nat) : Int) = _; omega)
        clear hy2 my
        go_wp2_with fail
        refine (unhide CS).mono ?_
        rintro e w1 ⟨q, rfl, hb1, hq⟩
        have HB1 := hide (below_on (unhide HB) hb1)
        have HQ := hide hq
        clear hb1 hq E0
        by_cases hneg : q < 0
        · go_wp2
          go_ret
          exact ⟨_, rfl, unhide HB1, .inl rfl⟩
        · have q1 : q ≤ 1048576 := by rcases unhide HQ with e | ⟨_, e⟩ <;> omega
          go_wp2
          go_roundw
          case rel => exact ⟨i + 1, q, by omega, by go_num, rfl, by omega, by omega, hide (by have h1 := unhide ER; have h2 := unhide TL; rcases unhide HQ with e | ⟨_, e⟩ <;> omega), HB1⟩
          case measure => simp [intOf]; omega
      · obtain rfl : i = n := by omega
        have EL : Hid (r = left - (szM1 rs : Int)) := hide (by have := unhide ER; rw [← unhide HN, List.take_length, unhide HN] at this; omega)
        go_wp2
        go_ret
        exact ⟨_, rfl, unhide HB, .inr ⟨r0, unhide EL⟩⟩
theorem get_dM {l l' : List RB} (h : dM l = dM l') {i : Nat} (hi : i < l.length) (hi' : i < l'.length) : l[i].l.map Prod.snd = l'[i].l.map Prod.snd := by
  have := congrArg (fun x => x[i]?) h
  simpa [dM, hi, hi'] using this
set_option maxHeartbeats 2000000 in
theorem eqM (a a' : Option Addr) (n c c' : Nat) (l l' : List RB) (w : World) (h : MSl w a l) (h' : MSl w a' l') (he : dM l = dM l') (hn : l.length = n) (hm : n ≤ maxLen) (ml : MLn l) :
    Calls Try.prog 25 #[.slice a n c, .slice a' n c'] w fun e w' => e = .returned (.bool true) ∧ Below w.heap.size w w' := by
  have hn' : l'.length = n := by have := congrArg List.length he; simp [dM] at this; omega
  have HS := hide h
  have HS' := hide h'
  have HN := hide hn
  have HN' := hide hn'
  have HE := hide he
  have ML := hide ml
  clear h hn ml he hn' h'
  unfold maxLen at hm
  go_enter Try.func25, Try.ntmps25
  go_wp2
  go_loopw [5] (fun iv wr => ∃ (i : Nat), i ≤ n ∧ iv = .int .i64 i ∧ Hid (Below w.heap.size w wr)) (fun iv _ => n - (intOf iv).toNat)
  case atStart => exact ⟨0, Nat.zero_le _, rfl, hide (Below.refl _ _)⟩
  case round =>
    obtain ⟨i, hi, rfl, HB⟩ := hrel
    by_cases hlt : i < n
    · have hlt' : (i : Int) < (n : Int) := by omega
      rcases (unhide HS).at_ with e | ⟨b, off, rfl, hb, hc⟩
      · exact absurd (unhide HN) (by rw [e]; simp; omega)
      rcases (unhide HS').at_ with e | ⟨b', off', rfl, hb', hc'⟩
      · exact absurd (unhide HN') (by rw [e]; simp; omega)
      have E0 : wr.cell? ⟨b, off + i, none⟩ = _ := ((unhide HB).cell (p := ⟨b, off + i, none⟩) hb).trans (hc i (by rw [unhide HN]; exact hlt))
      have F0 : wr.cell? ⟨b', off' + i, none⟩ = _ := ((unhide HB).cell (p := ⟨b', off' + i, none⟩) hb').trans (hc' i (by rw [unhide HN']; exact hlt))
      have ED := hide (get_dM (unhide HE) (i := i) (by rw [unhide HN]; exact hlt) (by rw [unhide HN']; exact hlt))
      have MY := hide (List.getElem_mem (l := l) (n := i) (by rw [unhide HN]; exact hlt))
      have MY' := hide (List.getElem_mem (l := l') (n := i) (by rw [unhide HN']; exact hlt))
      generalize l[i]'(by rw [unhide HN]; exact hlt) = y at E0 ED MY
      generalize l'[i]'(by rw [unhide HN']; exact hlt) = y' at F0 ED MY'
      clear hc hc'
      have hy := (unhide HS).rd y (unhide MY)
      have hy' := (unhide HS').rd y' (unhide MY')
      have my := (unhide ML) y (unhide MY)
      have en : y'.n = y.n := by rw [← hy.2, ← hy'.2]; have := congrArg List.length (unhide ED); simpa using this.symm
      rw [en] at F0
      have CE := hide (eqPB y.a y'.a y.n y.c y'.c y.l y'.l wr.drew (hy.1.later (unhide HB).drew) (hy'.1.later (unhide HB).drew) hy.2 (unhide ED) my.1 my.2)
      clear hy hy' my en
      go_upto_region 6 with fail
      go_region_held3 (fun w' => w'.cell? ⟨b, off + i, none⟩ = some (.slice y.a y.n y.c) ∧ w'.cell? ⟨b', off' + i, none⟩ = some (.slice y'.a y.n y'.c))
        (with_reducible (first | exact ⟨E0, F0⟩ | exact ⟨cd_other E0, cd_other F0⟩ | fail))
        (first
        | (go_at_call 56; refine (unhide CE).mono ?_; rintro e w1 ⟨rfl, hb1⟩; have hbx := below_of_drew hb1; have HB1 := hide (below_on (unhide HB) hbx); replace E0 := cell_later hbx E0; replace F0 := cell_later hbx F0; clear hb1 hbx))
      clear E0 F0
      go_wp2
      go_roundw
      case rel => exact ⟨i + 1, by omega, by go_num, HB1⟩
      case measure => simp [intOf]; omega
    · obtain rfl : i = n := by omega
      go_wp2
      go_ret
      exact ⟨rfl, unhide HB⟩
theorem szM1_same {w w' : World} {a a' : Option Addr} {l l' : List RB} (h : MSl w a l) (h' : MSl w' a' l') (e : dM l = dM l') : szM1 l = szM1 l' := by
  have key : ∀ (l l' : List RB), (∀ r ∈ l, PSlB w r.a r.l ∧ r.l.length = r.n) → (∀ r ∈ l', PSlB w' r.a r.l ∧ r.l.length = r.n) → dM l = dM l' → szM1 l = szM1 l' := by
    intro l
    induction l with
    | nil => intro l' _ _ e; cases l' with
      | nil => rfl
      | cons r l' => simp [dM] at e
    | cons r l ih => intro l' h1 h2 e; cases l' with
      | nil => simp [dM] at e
      | cons r' l' =>
        simp only [dM, List.map_cons, List.cons.injEq] at e
        have i1 := ih l' (fun q hq => h1 q (List.mem_cons_of_mem _ hq)) (fun q hq => h2 q (List.mem_cons_of_mem _ hq)) e.2
        have a1 := h1 r List.mem_cons_self
        have a2 := h2 r' List.mem_cons_self
        have a3 := lenPB_snd a1.1 a2.1 e.1
        have a4 := congrArg List.length e.1
        simp only [List.length_map] at a4
        simp only [szM1]
        omega
  exact key l l' h.rd h'.rd e
/-- A matrix in memory of the law's own: its list of rows at block g, its rows one behind another. -/
structure OwM (lo hi : Nat) (w : World) (g n : Nat) (rs : List RB) : Prop where
  len : rs.length = n
  n1 : n ≤ 1048576
  glo : lo ≤ g
  out : ∃ cur, w.heap[g]? = some (.cells cur 33 (0, 0)) ∧ ∀ i (h : i < rs.length), cur[i]? = some (.slice rs[i].a rs[i].n rs[i].c)
  rows : ∃ e : Nat → Nat, g < e 0 ∧ e n ≤ hi ∧ (∀ i, i < n → e i ≤ e (i + 1)) ∧ ∀ i (h : i < rs.length), PRoB (e i) (e (i + 1)) w rs[i].a rs[i].n rs[i].c rs[i].l ∧ PArB w rs[i].a rs[i].n rs[i].c rs[i].l
theorem PRoB.but7 {B E lo hi : Nat} {w w' : World} {a : Option Addr} {n c : Nat} {l : List (BV × BD)} (h : PRoB B E w a n c l) (hb : But lo hi w w') (hd : E ≤ lo ∨ hi ≤ B) : PRoB B E w' a n c l := by
  refine ⟨h.len, h.sz, h.ml, ?_⟩
  rcases h.row with e | ⟨G, lo', hi', e, h1, h2, h3, h4, h5, h6⟩
  · exact .inl e
  · exact .inr ⟨G, lo', hi', e, h1, h2, h3, h4, h5.but hb (by omega), h6.but hb (by omega)⟩
theorem OwM.later {lo hi : Nat} {w w' : World} {g n : Nat} {rs : List RB} (h : OwM lo hi w g n rs) (hb : Below w.heap.size w w') : OwM lo hi w' g n rs := by
  obtain ⟨cur, h1, h2⟩ := h.out
  obtain ⟨e, k1, k2, k3, k4⟩ := h.rows
  exact ⟨h.len, h.n1, h.glo, ⟨cur, by rw [hb.block g (Array.getElem?_eq_some_iff.1 h1).1]; exact h1, h2⟩, e, k1, k2, k3, fun i hi => ⟨(k4 i hi).1.later hb, (k4 i hi).2.later hb⟩⟩
theorem OwM.arg {lo hi : Nat} {w : World} {g n : Nat} {rs : List RB} (h : OwM lo hi w g n rs) : MAr w (some ⟨g, 0, none⟩) n n rs := by
  obtain ⟨cur, h1, h2⟩ := h.out
  obtain ⟨e, k1, k2, k3, k4⟩ := h.rows
  refine ⟨.inr ⟨g, 0, rfl, (Array.getElem?_eq_some_iff.1 h1).1, fun i hi => ?_⟩, fun r hr => ?_, h.len, Nat.le_refl _, by have := h.n1; unfold maxLen; omega⟩
  · rw [Nat.zero_add, cell_of_row w g _ cur _ (0, 0) h1]; exact h2 i hi
  · obtain ⟨i, hi, rfl⟩ := List.mem_iff_getElem.1 hr
    exact (k4 i hi).2
theorem OwM.mln {lo hi : Nat} {w : World} {g n : Nat} {rs : List RB} (h : OwM lo hi w g n rs) : MLn rs := fun r hr => by
  obtain ⟨e, k1, k2, k3, k4⟩ := h.rows
  obtain ⟨i, hi, rfl⟩ := List.mem_iff_getElem.1 hr
  exact ⟨(k4 i hi).1.max, (k4 i hi).1.lens⟩
theorem e_mono {e : Nat → Nat} {n : Nat} (h : ∀ i, i < n → e i ≤ e (i + 1)) : ∀ {i j : Nat}, i ≤ j → j ≤ n → e i ≤ e j := by
  intro i j hij
  induction j with
  | zero => intro _; obtain rfl : i = 0 := by omega
            exact Nat.le_refl _
  | succ j ih =>
    intro hj
    by_cases c : i = j + 1
    · rw [c]; exact Nat.le_refl _
    · exact Nat.le_trans (ih (by omega) (by omega)) (h j (by omega))
set_option maxHeartbeats 4000000 in
theorem markM_own (g n c : Nat) (rs : List RB) (k : Int) (lo hi : Nat) (w : World) (h : OwM lo hi w g n rs) (k0 : 0 ≤ k) (k1 : k + (szM1 rs : Int) ≤ 3000000) :
    Calls Try.prog 26 #[.slice (some ⟨g, 0, none⟩) n c, .int .i64 k] w fun e w' => ∃ q : Int, e = .returned (.int .i64 q) ∧ 0 ≤ q ∧ q ≤ 3900000 ∧ But lo hi w w' := by
  obtain ⟨cur, h1, h2⟩ := h.out
  obtain ⟨e, g1, g2, g3, g4⟩ := h.rows
  have hlen := h.len
  have n1 := h.n1
  have glo := h.glo
  have HC := hide h2
  have HG := hide h1
  have E3 := hide g3
  have HR := hide (fun i hi => (g4 i hi).1)
  have HL := hide hlen
  have SQ : Hid (∀ i (hi : i < rs.length), (szM1 (rs.take i) : Int) + 1 + (rs[i].n : Int) + (lenPB rs[i].l : Int) ≤ (szM1 rs : Int) ∧ (szM1 (rs.take (i + 1)) : Int) = (szM1 (rs.take i) : Int) + 1 + (rs[i].n : Int) + (lenPB rs[i].l : Int)) := hide (fun i hi => by
    have e1 : szM1 (rs.take (i + 1)) = szM1 (rs.take i) + (1 + rs[i].n + lenPB rs[i].l + 0) := by rw [take_succM hi, szM1_append]; rfl
    have e2 : szM1 rs = szM1 (rs.take (i + 1)) + szM1 (rs.drop (i + 1)) := by rw [← szM1_append, List.take_append_drop]
    constructor <;> omega)
  clear h h1 h2 g3 g4 hlen
  go_enter Try.func26, Try.ntmps26
  go_wp2
  go_loopw [1, 5] (fun kv iv wr => ∃ (i : Nat) (q : Int), i ≤ n ∧ iv = .int .i64 i ∧ kv = .int .i64 q ∧ 0 ≤ q ∧ Hid (q ≤ k + (szM1 (rs.take i) : Int)) ∧ Hid (∀ t (ht : t < rs.length), i ≤ t → PRoB (e t) (e (t + 1)) wr rs[t].a rs[t].n rs[t].c rs[t].l) ∧ Hid (wr.heap[g]? = w.heap[g]?) ∧ Hid (But lo hi w wr)) (fun _ iv _ => n - (intOf iv).toNat)
  case atStart => exact ⟨0, k, Nat.zero_le _, rfl, rfl, k0, hide (by simp [szM1]), hide (fun t ht _ => (unhide HR) t ht), hide rfl, hide (But.refl _ _ _)⟩
  case round =>
    clear HR
    obtain ⟨i, q, hi', rfl, rfl, q0, QB, HR, GE, HT⟩ := hrel
    by_cases hlt : i < n
    · have hlt' : (i : Int) < (n : Int) := by omega
      have hil : i < rs.length := by rw [unhide HL]; exact hlt
      have E0 : wr.cell? ⟨g, i, none⟩ = some (.slice rs[i].a rs[i].n rs[i].c) := by
        rw [cell_of_row wr g _ cur _ (0, 0) ((unhide GE).trans (unhide HG))]
        exact (unhide HC) i hil
      have hro := (unhide HR) i hil (Nat.le_refl _)
      have hq := (unhide SQ) i hil
      have b1 := e_mono (unhide E3) (i := 0) (j := i) (Nat.zero_le _) (by omega)
      have b2 := e_mono (unhide E3) (i := i + 1) (j := n) (by omega) (Nat.le_refl _)
      have b3 := (unhide E3) i hlt
      have qb := unhide QB
      have CM : Hid (Calls Try.prog 57 #[.slice rs[i].a rs[i].n rs[i].c, .int .i64 q] wr fun x w' => ∃ z : Int, x = .returned (.int .i64 z) ∧ 0 ≤ z ∧ z ≤ q + (rs[i].n : Int) + (lenPB rs[i].l : Int) ∧ But (e i) (e (i + 1)) wr w') := hide (by
        rcases hro.row with e0 | ⟨G, lo2, hi2, ea, p1, p2, p3, p4, p5, p6⟩
        · have hl : rs[i].l = [] := List.length_eq_zero_iff.1 (by rw [hro.len]; exact e0)
          rw [e0, hl]
          refine (markPB0 rs[i].a rs[i].c q wr).mono ?_
          rintro x w' ⟨rfl, rfl⟩
          exact ⟨q, rfl, q0, by simp [lenPB], But.refl _ _ _⟩
        · rw [ea]
          refine (markPBx G rs[i].n rs[i].c rs[i].l q lo2 hi2 wr p5 p6 hro.len hro.ml p2 p3 q0 (by omega)).mono ?_
          rintro x w' ⟨rfl, hb⟩
          exact ⟨_, rfl, by omega, Int.le_refl _, hb.wide p1 p4⟩)
      have HQ := hide hq
      obtain ⟨ra, hra⟩ : ∃ x, x = rs[i] := ⟨_, rfl⟩
      rw [← hra] at CM E0 HQ
      clear hro hq qb hra
      go_wp2_with fail
      refine (unhide CM).mono ?_
      rintro x w1 ⟨z, rfl, z0, z1, bt⟩
      have HR1 : Hid (∀ t (ht : t < rs.length), i + 1 ≤ t → PRoB (e t) (e (t + 1)) w1 rs[t].a rs[t].n rs[t].c rs[t].l) := hide (fun t ht hti => ((unhide HR) t ht (by omega)).but7 bt (.inr (e_mono (unhide E3) hti (by rw [← unhide HL]; omega))))
      have hgl := (Array.getElem?_eq_some_iff.1 (unhide HG)).1
      have GE1 : Hid (w1.heap[g]? = w.heap[g]?) := hide ((bt.block g (by have := (unhide HT).size; omega) (by omega)).trans (unhide GE))
      have HT1 := hide ((unhide HT).trans (bt.wide (by omega) (by omega)))
      have ZB : Hid (z ≤ k + (szM1 (rs.take (i + 1)) : Int)) := hide (by have h1 := unhide HQ; have h2 := unhide QB; omega)
      clear bt z1 E0
      go_wp2
      go_roundw
      case rel => exact ⟨i + 1, z, by omega, by go_num, rfl, z0, ZB, HR1, GE1, HT1⟩
      case measure => simp [intOf]; omega
    · obtain rfl : i = n := by omega
      have ZB : Hid (q ≤ 3900000) := hide (by have h := unhide QB; rw [← unhide HL, List.take_length] at h; omega)
      go_wp2
      go_ret
      exact ⟨q, rfl, q0, unhide ZB, unhide HT⟩
set_option maxHeartbeats 4000000 in
theorem toM_own (a : Option Addr) (n c : Nat) (rs : List RB) (w : World) (h : MSl w a rs) (hn : rs.length = n) (h1 : n ≤ 1048576) (sz : szM1 rs ≤ 1048576) :
    Calls Try.prog 23 #[.slice a n c] w fun e w' => ∃ (g : Nat) (ys : List RB), e = .returned (.slice (some ⟨g, 0, none⟩) n n) ∧ Below w.heap.size w w' ∧ dM ys = dM rs ∧ OwM w.heap.size w'.heap.size w' g n ys := by
  have HS := hide h
  have HN := hide hn
  have SZ := hide sz
  clear h hn sz
  obtain ⟨i0, hi0, hz0, hz1, hz2⟩ := info_parts Try.info33
  have I0 := hide (And.intro hi0 (And.intro hz0 (And.intro hz1 hz2)))
  clear hi0 hz0 hz1 hz2
  go_enter Try.func23, Try.ntmps23
  go_wp2_with (at_make; refine wpList_make_full _ rfl _ _ 23 rfl w.heap.size 33 i0 (.slice none 0 0) 1 Try.underlying23 (unhide I0).1 (unhide I0).2.1 (unhide I0).2.2.1 .i64 .i64 _ _ n rfl rfl rfl rfl ?c1 ?c2 ?c3 ?_)
  case c1 => rw [(unhide I0).2.2.2]; omega
  case c2 => unfold maxLen; omega
  case c3 => exact Nat.le_refl _
  intro w0 hown hgrow
  have hb0 : Below w.heap.size w w0 := (Below.refl _ _).grown hgrow (Nat.le_refl _) (fun k e => by cases e)
  have z0 := (madeO_of hown).lt
  have P0 : Hid (∃ M, w0.ownsRow w.heap.size 33 1 (.slice (some ⟨w.heap.size, 0, none⟩) n n) n M) := hide ⟨_, hown⟩
  have HB0 := hide hb0
  clear hown hgrow hb0
  go_wp2
  go_loopw [4] (fun iv wr => ∃ (k : Nat) (us : List RB) (e : Nat → Nat), k ≤ n ∧ iv = .int .i64 k ∧ us.length = k ∧ Hid (dM us = dM (rs.take k)) ∧ Hid (∃ M, wr.ownsRow w.heap.size 33 1 (.slice (some ⟨w.heap.size, 0, none⟩) n n) n M ∧ ∀ i (h : i < us.length), M[i]? = some (.slice us[i].a us[i].n us[i].c)) ∧ Hid (w.heap.size < e 0 ∧ e k ≤ wr.heap.size ∧ (∀ i, i < k → e i ≤ e (i + 1)) ∧ ∀ i (h : i < us.length), PRoB (e i) (e (i + 1)) wr us[i].a us[i].n us[i].c us[i].l ∧ PArB wr us[i].a us[i].n us[i].c us[i].l) ∧ Hid (Below w.heap.size w wr)) (fun iv _ => n - (intOf iv).toNat)
  case atStart =>
    obtain ⟨M, hM⟩ := unhide P0
    exact ⟨0, [], fun _ => w0.heap.size, Nat.zero_le _, rfl, rfl, hide (by simp [dM]), hide ⟨M, hM, fun i hi => absurd hi (by simp)⟩, hide ⟨z0, Nat.le_refl _, fun i hi => by omega, fun i hi => absurd hi (by simp)⟩, HB0⟩
  case round =>
    clear P0 HB0 z0
    obtain ⟨k, us, e, hk, rfl, hu, ED, EM, RW, HB⟩ := hrel
    by_cases hlt : k < n
    · have hlt' : (k : Int) < (n : Int) := by omega
      rcases (unhide HS).at_ with e0 | ⟨b, off, rfl, hb, hc⟩
      · exact absurd (unhide HN) (by rw [e0]; simp; omega)
      have E0 : wr.cell? ⟨b, off + k, none⟩ = _ := ((unhide HB).cell (p := ⟨b, off + k, none⟩) hb).trans (hc k (by rw [unhide HN]; exact hlt))
      have MY := hide (List.getElem_mem (l := rs) (n := k) (by rw [unhide HN]; exact hlt))
      have TK := hide (take_succM (l := rs) (i := k) (by rw [unhide HN]; exact hlt))
      generalize rs[k]'(by rw [unhide HN]; exact hlt) = y at E0 MY TK
      clear hc
      have hy := (unhide HS).rd y (unhide MY)
      have szy := szM1_mem (unhide MY)
      have sz1 := unhide SZ
      have mly : ∀ p ∈ y.l, p.1.n ≤ 1048576 := fun p hp => by have := lenPB_mem hp; have e1 : lenB p = p.1.n := rfl; omega
      have CT := hide (toPB y.a y.n y.c y.l wr (hy.1.later (unhide HB)) hy.2 (by omega) mly)
      have HY := hide hy
      have MLY := hide mly
      have SY := hide (show y.n + lenPB y.l ≤ 3200000 by omega)
      have ny : y.n ≤ 1048576 := by omega
      clear hy mly szy sz1
      go_wp2_with fail
      refine (unhide CT).mono ?_
      rintro x w2 ⟨l', rfl, hb2, zlt, hmap, hpo⟩
      have z2 := hb2.size
      have szw := (unhide HB).size
      have HB1 := hide (below_on (unhide HB) hb2)
      obtain ⟨M, hM, hL⟩ := unhide EM
      replace hM := owns_later7 hM hb2
      obtain ⟨e1, e2, e3, e4⟩ := unhide RW
      have PSL : PSlB w2 (some ⟨wr.heap.size, 0, none⟩) l' := hpo.arg.sl
      have e5 : lenPB l' = lenPB y.l := lenPB_snd PSL (unhide HY).1 hmap
      have PR := hpo.ro (by omega) (by omega) (by have := unhide SY; omega) (ml_sndB PSL (unhide HY).1 hmap (unhide MLY))
      have old0 : ∃ x, w2.cell? ⟨w.heap.size, k, none⟩ = some x := by
        have hl := hM.1
        rw [hM.cellAt _ (by omega)]
        exact ⟨_, List.getElem?_eq_getElem (by omega)⟩
      obtain ⟨x0, o0⟩ := old0
      have fr : ∀ o, w2.frozen? ⟨w.heap.size, o, none⟩ = false := fun o => hM.frozenAt o
      have HM := hide hM
      have HL := hide hL
      have PR1 := hide PR
      have PA1 := hide hpo.arg
      have EE := hide (And.intro e1 (And.intro e2 (And.intro e3 (fun i (hi : i < us.length) => (And.intro ((e4 i hi).1.later hb2) ((e4 i hi).2.later hb2))))))
      have DM : Hid (dM (us ++ [⟨some ⟨wr.heap.size, 0, none⟩, y.n, y.n, l'⟩]) = dM (rs.take (k + 1))) := hide (by
        rw [unhide TK]
        have h := unhide ED
        unfold dM at h ⊢
        rw [List.map_append, List.map_append, h]
        simp [hmap])
      clear hM hL hb2 EM RW E0 PR hpo PSL e1 e2 e3 e4 e5 hmap
      go_wp2
      go_roundw
      case rel =>
        have bt : But w.heap.size (w.heap.size + 1) w2 (w2.setCell ⟨w.heap.size, k, none⟩ (.slice (some ⟨wr.heap.size, 0, none⟩) y.n y.n)) := (But.refl _ _ _).set (p := ⟨w.heap.size, k, none⟩) (Nat.le_refl _) (Nat.lt_succ_self _) _
        obtain ⟨e1, e2, e3, e4⟩ := unhide EE
        have arb : ∀ {B E : Nat} {a : Option Addr} {n c : Nat} {l : List (BV × BD)}, PRoB B E w2 a n c l → PArB w2 a n c l → w.heap.size < B → PRoB B E (w2.setCell ⟨w.heap.size, k, none⟩ (.slice (some ⟨wr.heap.size, 0, none⟩) y.n y.n)) a n c l ∧ PArB (w2.setCell ⟨w.heap.size, k, none⟩ (.slice (some ⟨wr.heap.size, 0, none⟩) y.n y.n)) a n c l := fun {B E a n c l} hp ha hB => by
          have hp2 := hp.but7 bt (.inr (by omega))
          refine ⟨hp2, hp2.sl.at_, fun p hpl => ?_, ha.len, ha.cap, ha.top⟩
          have r1 := hp2.sl.rd p hpl
          have r2 := ha.rd p hpl
          intro x hx
          exact ⟨(r1 x hx).sg, ⟨(r1 x hx).sl, (r2 x hx).ar.len, (r2 x hx).ar.cap, (r2 x hx).ar.top, (r2 x hx).ar.addr⟩⟩
        refine ⟨k + 1, us ++ [⟨some ⟨wr.heap.size, 0, none⟩, y.n, y.n, l'⟩], fun t => if t ≤ k then e t else w2.heap.size, by omega, by go_num, by simp [hu], DM, hide ⟨_, (World.ownsRow.stored (unhide HM) k (.slice (some ⟨wr.heap.size, 0, none⟩) y.n y.n)).1, fun i hi => ?_⟩, hide ⟨?_, ?_, ?_, fun i hi => ?_⟩, hide (bt.below (unhide HB1) (Nat.le_refl _) (unhide HB1).size)⟩
        · have hml : M.length = n * 1 := (unhide HM).1
          by_cases c : i = k
          · subst c
            rw [List.getElem?_set_self (by omega)]
            simp [hu]
          · have hi2 : i < us.length := by simp at hi; omega
            rw [List.getElem?_set_ne (by omega), (unhide HL) i hi2, List.getElem_append_left hi2]
        · show w.heap.size < if 0 ≤ k then e 0 else _
          rw [if_pos (Nat.zero_le _)]; exact e1
        · show (if k + 1 ≤ k then _ else w2.heap.size) ≤ _
          rw [if_neg (by omega)]; exact bt.size
        · intro i hi
          show (if i ≤ k then e i else w2.heap.size) ≤ (if i + 1 ≤ k then e (i + 1) else w2.heap.size)
          rw [if_pos (by omega)]
          by_cases c : i + 1 ≤ k
          · rw [if_pos c]; exact e3 i (by omega)
          · rw [if_neg c]
            obtain rfl : i = k := by omega
            omega
        · show PRoB (if i ≤ k then e i else w2.heap.size) (if i + 1 ≤ k then e (i + 1) else w2.heap.size) _ _ _ _ _ ∧ _
          by_cases c : i = k
          · subst c
            rw [if_pos (Nat.le_refl _), if_neg (by omega)]
            have hx : (us ++ [(⟨some ⟨wr.heap.size, 0, none⟩, y.n, y.n, l'⟩ : RB)])[i]'hi = ⟨some ⟨wr.heap.size, 0, none⟩, y.n, y.n, l'⟩ := by simp [← hu]
            rw [hx]
            have ekl : w.heap.size < e i := Nat.lt_of_lt_of_le e1 (e_mono e3 (Nat.zero_le _) (Nat.le_refl _))
            have p0 := unhide PR1
            have p1 : PRoB (e i) w2.heap.size w2 (some ⟨wr.heap.size, 0, none⟩) y.n y.n l' := ⟨p0.len, p0.sz, p0.ml, by
              rcases p0.row with z | ⟨G, lo, hi, ea, q1, q2, q3, q4, q5, q6⟩
              · exact .inl z
              · exact .inr ⟨G, lo, hi, ea, by omega, q2, q3, q4, q5, q6⟩⟩
            exact arb p1 (unhide PA1) ekl
          · have hi2 : i < us.length := by simp at hi; omega
            rw [if_pos (by omega), if_pos (by omega), List.getElem_append_left hi2]
            exact arb (e4 i hi2).1 (e4 i hi2).2 (Nat.lt_of_lt_of_le e1 (e_mono e3 (Nat.zero_le _) (by omega)))
      case measure => simp [intOf]; omega
    · obtain rfl : k = n := by omega
      have EL : Hid (dM us = dM rs) := hide (by have := unhide ED; rw [← unhide HN, List.take_length] at this; exact this)
      go_wp2
      go_ret
      obtain ⟨M, hM, hL⟩ := unhide EM
      obtain ⟨e1, e2, e3, e4⟩ := unhide RW
      refine ⟨w.heap.size, us, rfl, unhide HB, unhide EL, ⟨hu, h1, Nat.le_refl _, ?_, e, e1, e2, e3, e4⟩⟩
      rcases hM.2 with ⟨h', _⟩ | ⟨g', cap, cur, hv, _, hg, _, _, _, htake⟩
      · simp at h'
      simp only [Value.slice.injEq, Option.some.injEq, Addr.mk.injEq, and_true, true_and] at hv
      obtain ⟨rfl, rfl⟩ := hv
      refine ⟨cur, hg, fun i hi => ?_⟩
      have h5 := hL i hi
      rw [← htake, List.getElem?_take, if_pos (by omega)] at h5
      simpa using h5
end Go.Proofs.Ytaaajmdneaaeeaa
namespace Go.Proofs.Ytaaajmdneaaeeaa
open Go.RowKit
set_option linter.unusedVariables false
set_option maxRecDepth 100000
set_option linter.unusedSimpArgs false

def bad7 (d : BD) : Bool := !(goodB d.g d.xs && decide (d.xs.length ≤ 3))
set_option maxHeartbeats 1000000 in
theorem isBadI (b : BV) (d : BD) (w : World) (h : ArB w b d) :
    Calls Try.prog 70 #[.agg #[.bool b.g, .slice b.a b.n b.c]] w fun e w' => e = .returned (.bool (bad7 d)) ∧ Below w.heap.size w w' := by
  have hl := h.ar.len
  have hmx : b.n ≤ maxLen := Nat.le_trans h.ar.cap h.ar.top
  have HM := hide hmx
  unfold maxLen at hmx
  by_cases h3 : 3 < b.n
  · have d3 : decide ((3 : Int) < (b.n : Int)) = true := decide_eq_true (by omega)
    have EV : Hid (bad7 d = true) := hide (by unfold bad7; rw [decide_eq_false (show ¬ d.xs.length ≤ 3 by omega)]; simp)
    have HL := hide hl
    clear hl h
    go_enter Try.func70, Try.ntmps70
    go_wp2
    go_ret
    exact ⟨by rw [unhide EV]; rfl, (Below.refl _ _).alloc (Nat.le_refl _) _⟩
  · have d3 : decide ((3 : Int) < (b.n : Int)) = false := decide_eq_false (by omega)
    have EV : Hid (bad7 d = !(goodB d.g d.xs)) := hide (by unfold bad7; rw [decide_eq_true (show d.xs.length ≤ 3 by omega)]; simp)
    have hsg := h.sg
    have CG : Hid (∀ w1, Below w.heap.size w w1 → Calls Try.prog 87 #[.agg #[.bool b.g, .slice b.a b.n b.c]] w1 fun e w' => e = .returned (.bool (goodB d.g d.xs)) ∧ Below w1.heap.size w1 w') := hide (fun w1 hb => by rw [← hsg]; exact goodI_any b.g b.a b.n b.c d.xs w1 (h.ar.sl.later (Nat.le_refl _) hb) hl (unhide HM))
    generalize goodB d.g d.xs = z at CG EV
    clear hl h hsg
    have hb0 : Below w.heap.size w (w.alloc (.cells #[.bool b.g, .slice b.a b.n b.c] 27)) := (Below.refl _ _).alloc (Nat.le_refl _) _
    have HB0 := hide hb0
    clear hb0
    go_enter Try.func70, Try.ntmps70
    go_wp2_with fail
    refine (unhide CG _ (unhide HB0)).mono ?_
    rintro e w1 ⟨rfl, hb⟩
    have HB1 := hide (below_on (unhide HB0) hb)
    clear hb
    go_wp2
    go_ret
    exact ⟨by rw [unhide EV]; rfl, unhide HB1⟩
set_option maxHeartbeats 2000000 in
theorem indexB7 (a : Option Addr) (n c : Nat) (l : List (BV × BD)) (w : World) (h : PArB w a n c l) :
    Calls Try.prog 104 #[.slice a n c, .func (Fn.func 70) #[] #[]] w fun e w' => ∃ r : Int, e = .returned (.int .i64 r) ∧ Below w.heap.size w w' ∧ decide (0 ≤ r) = (l.map Prod.snd).any bad7 ∧ -1 ≤ r ∧ r ≤ 9223372036854775807 := by
  have HS := hide h
  have HN := hide h.len
  have hm : n ≤ maxLen := Nat.le_trans h.cap h.top
  clear h
  unfold maxLen at hm
  go_enter Try.func104, Try.ntmps104
  go_wp2
  go_loopw [8] (fun iv wr => ∃ (i : Nat), i ≤ n ∧ iv = .int .i64 i ∧ Hid (((l.take i).map Prod.snd).any bad7 = false) ∧ Hid (Below w.heap.size w wr)) (fun iv _ => n - (intOf iv).toNat)
  case atStart => exact ⟨0, Nat.zero_le _, rfl, hide (by simp), hide (Below.refl _ _)⟩
  case round =>
    obtain ⟨i, hi, rfl, EA, HB⟩ := hrel
    by_cases hlt : i < n
    · have hlt' : (i : Int) < (n : Int) := by omega
      rcases (unhide HS).at_ with e | ⟨b, off, rfl, hb, hc⟩
      · exact absurd (unhide HN) (by rw [e]; simp; omega)
      have e0 := hc i (by rw [unhide HN]; exact hlt)
      have TK0 := take_succB (l := l) (i := i) (by rw [unhide HN]; exact hlt)
      have MY0 := List.getElem_mem (l := l) (n := i) (by rw [unhide HN]; exact hlt)
      generalize l[i]'(by rw [unhide HN]; exact hlt) = y at e0 TK0 MY0
      have E0 : wr.cell? ⟨b, off + i * 2, none⟩ = some (.bool y.1.g) := ((unhide HB).cell (p := ⟨b, off + i * 2, none⟩) hb).trans e0.1
      have E1 : wr.cell? ⟨b, off + i * 2 + 1, none⟩ = some (.slice y.1.a y.1.n y.1.c) := ((unhide HB).cell (p := ⟨b, off + i * 2 + 1, none⟩) hb).trans e0.2
      have MY := hide MY0
      have TK : Hid ((l.take (i + 1)).map Prod.snd = (l.take i).map Prod.snd ++ [y.2]) := hide (by rw [TK0, List.map_append]; rfl)
      have CC := hide (isBadI y.1 y.2 wr ((((unhide HS).rd y MY0).head).later (unhide HB)))
      clear e0 hc TK0 MY0
      cases hp : bad7 y.2
      · rw [hp] at CC
        go_wp2_with fail
        refine (unhide CC).mono ?_
        rintro e w1 ⟨rfl, hb1⟩
        have HB1 := hide (below_on (unhide HB) hb1)
        clear hb1 E0 E1 CC
        go_wp2
        go_roundw
        case rel => exact ⟨i + 1, by omega, by go_num, hide (by rw [unhide TK, List.any_append, unhide EA]; simp only [List.any_cons, List.any_nil]; rw [hp]; rfl), HB1⟩
        case measure => simp [intOf]; omega
      · rw [hp] at CC
        have AN := hide (show (l.map Prod.snd).any bad7 = true from List.any_eq_true.2 ⟨y.2, List.mem_map.2 ⟨y, unhide MY, rfl⟩, hp⟩)
        go_wp2_with fail
        refine (unhide CC).mono ?_
        rintro e w1 ⟨rfl, hb1⟩
        have HB1 := hide (below_on (unhide HB) hb1)
        clear hb1 E0 E1 CC
        go_wp2
        go_ret
        exact ⟨_, rfl, unhide HB1, by rw [unhide AN]; exact decide_eq_true (by omega), by omega, by omega⟩
    · obtain rfl : i = n := by omega
      have EL := hide (show (l.map Prod.snd).any bad7 = false from by have := unhide EA; rw [← unhide HN, List.take_length] at this; exact this)
      go_wp2
      go_ret
      exact ⟨_, rfl, unhide HB, by rw [unhide EL]; rfl, by omega, by omega⟩
theorem containsB7 (a : Option Addr) (n c : Nat) (l : List (BV × BD)) (w : World) (h : PArB w a n c l) :
    Calls Try.prog 69 #[.slice a n c, .func (Fn.func 70) #[] #[]] w fun e w' => e = .returned (.bool ((l.map Prod.snd).any bad7)) ∧ Below w.heap.size w w' := by
  have HS := hide h
  clear h
  go_enter Try.func69, Try.ntmps69
  go_wp2_with fail
  refine (indexB7 a n c l _ (unhide HS)).mono ?_
  rintro e w1 ⟨r, rfl, hb1, hr, r0, r1⟩
  have HB1 := hide hb1
  have HR := hide hr
  clear hb1 hr
  go_wp2
  go_ret
  exact ⟨by rw [← unhide HR]; rfl, unhide HB1⟩
/-- A row of a matrix of N rows is as said. -/
def rowOk (N : Nat) (d : List BD) : Bool := decide (d.length = N) && !(d.any bad7)
/-- A matrix is as said. -/
def gD (ds : List (List BD)) : Bool := (decide (1 ≤ ds.length) && decide (ds.length ≤ 8)) && ds.all (rowOk ds.length)
/-- Its numbers. -/
def mD (ds : List (List BD)) (i j : Nat) : Int := match (ds.getD i [])[j]? with
  | some d => sv d.g d.xs
  | none => 0
theorem dM_len (rs : List RB) : (dM rs).length = rs.length := by simp [dM]
theorem gD_len {ds : List (List BD)} (h : gD ds = true) : 1 ≤ ds.length ∧ ds.length ≤ 8 := by
  unfold gD at h
  rw [Bool.and_eq_true, Bool.and_eq_true] at h
  exact ⟨of_decide_eq_true h.1.1, of_decide_eq_true h.1.2⟩
theorem gD_mat {w : World} {a : Option Addr} {n c : Nat} {rs : List RB} (h : MAr w a n c rs) (hg : gD (dM rs) = true) : MatV w a n (mD (dM rs)) ∧ ∀ i j, Bd (mD (dM rs) i j) 3 := by
  have hl : (dM rs).length = n := by rw [dM_len]; exact h.len
  have h18 := gD_len hg
  have hall : ∀ i (hi : i < rs.length), rs[i].l.length = n ∧ ∀ p ∈ rs[i].l, goodB p.2.g p.2.xs = true ∧ p.2.xs.length ≤ 3 := fun i hi => by
    unfold gD at hg
    rw [Bool.and_eq_true] at hg
    have h1 := List.all_eq_true.1 hg.2 (rs[i].l.map Prod.snd) (List.mem_map.2 ⟨rs[i], List.getElem_mem hi, rfl⟩)
    unfold rowOk at h1
    rw [Bool.and_eq_true] at h1
    refine ⟨by have := of_decide_eq_true h1.1; simpa [hl] using this, fun p hp => ?_⟩
    have h2 : (rs[i].l.map Prod.snd).any bad7 = false := by simpa using h1.2
    have h3 := List.any_eq_false.1 h2 p.2 (List.mem_map.2 ⟨p, hp, rfl⟩)
    unfold bad7 at h3
    simpa using h3
  have val : ∀ i j (hi : i < rs.length) (hj : j < rs[i].l.length), mD (dM rs) i j = sv rs[i].l[j].2.g rs[i].l[j].2.xs := fun i j hi hj => by
    unfold mD dM
    simp [hi, hj]
  constructor
  · rcases h.at_ with e | ⟨b, off, rfl, hb, hc⟩
    · rw [← h.len, e] at hl; simp at hl; rw [dM_len, e] at h18; simp at h18
    refine ⟨b, off, rfl, hb, fun i hi => ?_⟩
    have hil : i < rs.length := by rw [h.len]; exact hi
    have hr := h.rd rs[i] (List.getElem_mem hil)
    have hn : rs[i].n = n := by rw [← hr.len]; exact (hall i hil).1
    have hc0 := hc i hil
    rw [hn] at hc0
    rcases hr.at_ with e | ⟨b2, off2, ea, hb2, hc2⟩
    · have := (hall i hil).1; rw [e] at this; simp at this; omega
    rw [ea] at hc0
    refine ⟨b2, off2, rs[i].c, hc0, by have := hr.cap; omega, hr.top, hb2, fun j hj => ?_⟩
    have hjl : j < rs[i].l.length := by rw [(hall i hil).1]; exact hj
    have hcell := hc2 j hjl
    refine ⟨rs[i].l[j].1, hcell.1, hcell.2, ?_⟩
    rw [val i j hil hjl]
    exact (isB_of_good ((hr.rd rs[i].l[j] (List.getElem_mem hjl)).head) ((hall i hil).2 _ (List.getElem_mem hjl)).1).1
  · intro i j
    by_cases hi : i < rs.length
    · by_cases hj : j < rs[i].l.length
      · rw [val i j hi hj]
        obtain ⟨g1, g2⟩ := (hall i hi).2 rs[i].l[j] (List.getElem_mem hj)
        obtain ⟨o1, o2, _, _⟩ := good_parts g1
        have v0 := val_nonneg o1
        have hn : Nm rs[i].l[j].2.xs (sv rs[i].l[j].2.g rs[i].l[j].2.xs).natAbs := ⟨o1, o2, by unfold sv; split <;> omega⟩
        exact hn.bd g2
      · have : mD (dM rs) i j = 0 := by unfold mD dM; simp [hi, hj]
        rw [this]; exact (Bd.small (by decide)).mono (by omega)
    · have : mD (dM rs) i j = 0 := by unfold mD dM; simp [hi]
      rw [this]; exact (Bd.small (by decide)).mono (by omega)
set_option maxHeartbeats 2000000 in
theorem goodMI (a : Option Addr) (n c : Nat) (rs : List RB) (w : World) (h : MAr w a n c rs) :
    Calls Try.prog 40 #[.slice a n c] w fun e w' => e = .returned (.bool (gD (dM rs))) ∧ Below w.heap.size w w' := by
  have hl := h.len
  have hm : n ≤ maxLen := Nat.le_trans h.cap h.top
  have HS := hide h
  clear h
  unfold maxLen at hm
  have HL := hide hl
  by_cases h0 : n = 0
  · have d0 : ((n : Int) == 0) = true := by simp [h0]
    have EV : Hid (gD (dM rs) = false) := hide (by unfold gD; rw [dM_len, decide_eq_false (show ¬ 1 ≤ rs.length by omega)]; rfl)
    have H0 := hide h0
    clear h0 hl
    go_enter Try.func40, Try.ntmps40
    go_wp2
    go_ret
    exact ⟨by rw [unhide EV]; rfl, Below.refl _ _⟩
  have d0 : ((n : Int) == 0) = false := by simp; omega
  by_cases h8 : 8 < n
  · have d8 : decide ((8 : Int) < (n : Int)) = true := decide_eq_true (by omega)
    have EV : Hid (gD (dM rs) = false) := hide (by unfold gD; rw [dM_len, decide_eq_false (show ¬ rs.length ≤ 8 by omega)]; simp)
    clear hl
    go_enter Try.func40, Try.ntmps40
    go_wp2
    go_ret
    exact ⟨by rw [unhide EV]; rfl, Below.refl _ _⟩
  have d8 : decide ((8 : Int) < (n : Int)) = false := decide_eq_false (by omega)
  clear hl
  go_enter Try.func40, Try.ntmps40
  go_wp2
  go_loopw [15] (fun iv wr => ∃ (i : Nat), i ≤ n ∧ iv = .int .i64 i ∧ Hid ((dM (rs.take i)).all (rowOk n) = true) ∧ Hid (Below w.heap.size w wr)) (fun iv _ => n - (intOf iv).toNat)
  case atStart => exact ⟨0, Nat.zero_le _, rfl, hide (by simp [dM]), hide (Below.refl _ _)⟩
  case round =>
    obtain ⟨i, hi, rfl, EA, HB⟩ := hrel
    by_cases hlt : i < n
    · have hlt' : (i : Int) < (n : Int) := by omega
      rcases (unhide HS).at_ with e | ⟨b, off, rfl, hb, hc⟩
      · exact absurd (unhide HL) (by rw [e]; simp; omega)
      have E0 : wr.cell? ⟨b, off + i, none⟩ = _ := ((unhide HB).cell (p := ⟨b, off + i, none⟩) hb).trans (hc i (by rw [unhide HL]; exact hlt))
      have MY0 := List.getElem_mem (l := rs) (n := i) (by rw [unhide HL]; exact hlt)
      have TK0 := take_succM (l := rs) (i := i) (by rw [unhide HL]; exact hlt)
      generalize rs[i]'(by rw [unhide HL]; exact hlt) = y at E0 MY0 TK0
      have hy := (unhide HS).rd y MY0
      have yl : (y.l.map Prod.snd).length = y.n := by rw [List.length_map]; exact hy.len
      have hym : y.n ≤ maxLen := Nat.le_trans hy.cap hy.top
      unfold maxLen at hym
      have TK : Hid (dM (rs.take (i + 1)) = dM (rs.take i) ++ [y.l.map Prod.snd]) := hide (by rw [TK0]; simp [dM])
      have BADR : Hid (rowOk n (y.l.map Prod.snd) = false → gD (dM rs) = false) := hide (fun hb => by
        unfold gD
        have : (dM rs).all (rowOk (dM rs).length) = false := by
          rw [List.all_eq_false]
          exact ⟨_, List.mem_map.2 ⟨y, MY0, rfl⟩, by rw [dM_len, unhide HL, hb]; simp⟩
        rw [this]; simp)
      have YL := hide yl
      clear hc MY0 TK0 yl
      by_cases hne : y.n = n
      · have dn : ((y.n : Int) != (n : Int)) = false := by simp [hne]
        have CC := hide (containsB7 y.a y.n y.c y.l wr (hy.later (unhide HB)))
        cases hp : (y.l.map Prod.snd).any bad7
        · rw [hp] at CC
          have ROK : Hid (rowOk n (y.l.map Prod.snd) = true) := hide (by unfold rowOk; rw [unhide YL, hp, decide_eq_true hne]; rfl)
          have HNE := hide hne
          clear hne hp hy
          go_wp2_with fail
          refine (unhide CC).mono ?_
          rintro e w1 ⟨rfl, hb1⟩
          have HB1 := hide (below_on (unhide HB) hb1)
          clear hb1 E0 CC
          go_wp2
          go_roundw
          case rel => exact ⟨i + 1, by omega, by go_num, hide (by rw [unhide TK, List.all_append, unhide EA]; simp only [List.all_cons, List.all_nil]; rw [unhide ROK]; rfl), HB1⟩
          case measure => simp [intOf]; omega
        · rw [hp] at CC
          have EV : Hid (gD (dM rs) = false) := hide ((unhide BADR) (by unfold rowOk; rw [hp]; simp))
          have HNE := hide hne
          clear hne hp hy
          go_wp2_with fail
          refine (unhide CC).mono ?_
          rintro e w1 ⟨rfl, hb1⟩
          have HB1 := hide (below_on (unhide HB) hb1)
          clear hb1 E0 CC
          go_wp2
          go_ret
          exact ⟨by rw [unhide EV]; rfl, unhide HB1⟩
      · have dn : ((y.n : Int) != (n : Int)) = true := by simp; omega
        have EV : Hid (gD (dM rs) = false) := hide ((unhide BADR) (by unfold rowOk; rw [unhide YL, decide_eq_false hne]; rfl))
        clear hy
        go_wp2
        go_ret
        exact ⟨by rw [unhide EV]; rfl, unhide HB⟩
    · obtain rfl : i = n := by omega
      have EV : Hid (gD (dM rs) = true) := hide (by
        have h := unhide EA
        rw [← unhide HL, List.take_length] at h
        unfold gD
        rw [dM_len, decide_eq_true (show 1 ≤ rs.length by rw [unhide HL]; omega), decide_eq_true (show rs.length ≤ 8 by rw [unhide HL]; omega), h]; rfl)
      go_wp2
      go_ret
      exact ⟨by rw [unhide EV]; rfl, unhide HB⟩
theorem ok_bad (d : BD) : (!(goodB d.g d.xs) || decide (3 < d.xs.length)) = bad7 d := by
  unfold bad7
  by_cases h : d.xs.length ≤ 3
  · rw [decide_eq_true h, decide_eq_false (show ¬ 3 < d.xs.length by omega)]; simp
  · rw [decide_eq_false h, decide_eq_true (show 3 < d.xs.length by omega)]; simp
set_option maxHeartbeats 4000000 in
theorem goodMS (a : Option Addr) (n c : Nat) (rs : List RB) (w : World) (h : MAr w a n c rs) :
    Calls Try.prog 42 #[.slice a n c] w fun e w' => e = .returned (.bool (gD (dM rs))) ∧ Below w.heap.size w w' := by
  have hl := h.len
  have hm : n ≤ maxLen := Nat.le_trans h.cap h.top
  have HS := hide h
  clear h
  unfold maxLen at hm
  have HL := hide hl
  clear hl
  go_enter Try.func42, Try.ntmps42
  go_wp2
  go_loopw [9] (fun iv wr => ∃ (i : Nat), i ≤ n ∧ iv = .int .i64 i ∧ Hid ((dM (rs.take i)).all (rowOk n) = true) ∧ Hid (Below w.heap.size w wr)) (fun iv _ => n - (intOf iv).toNat)
  case atStart => exact ⟨0, Nat.zero_le _, rfl, hide (by simp [dM]), hide (Below.refl _ _)⟩
  case round =>
    obtain ⟨i, hi, rfl, EA, HB⟩ := hrel
    by_cases hlt : i < n
    · have hlt' : (i : Int) < (n : Int) := by omega
      rcases (unhide HS).at_ with e | ⟨b, off, rfl, hb, hc⟩
      · exact absurd (unhide HL) (by rw [e]; simp; omega)
      have E0 : wr.cell? ⟨b, off + i, none⟩ = _ := ((unhide HB).cell (p := ⟨b, off + i, none⟩) hb).trans (hc i (by rw [unhide HL]; exact hlt))
      have MY0 := List.getElem_mem (l := rs) (n := i) (by rw [unhide HL]; exact hlt)
      have TK0 := take_succM (l := rs) (i := i) (by rw [unhide HL]; exact hlt)
      generalize rs[i]'(by rw [unhide HL]; exact hlt) = y at E0 MY0 TK0
      have hy := (unhide HS).rd y MY0
      have yl : (y.l.map Prod.snd).length = y.n := by rw [List.length_map]; exact hy.len
      have hym : y.n ≤ maxLen := Nat.le_trans hy.cap hy.top
      unfold maxLen at hym
      have TK : Hid (dM (rs.take (i + 1)) = dM (rs.take i) ++ [y.l.map Prod.snd]) := hide (by rw [TK0]; simp [dM])
      have BADR : Hid (rowOk n (y.l.map Prod.snd) = false → gD (dM rs) = false) := hide (fun hb => by
        unfold gD
        have : (dM rs).all (rowOk (dM rs).length) = false := by
          rw [List.all_eq_false]
          exact ⟨_, List.mem_map.2 ⟨y, MY0, rfl⟩, by rw [dM_len, unhide HL, hb]; simp⟩
        rw [this]; simp)
      have YL := hide yl
      have YN := hide hy.len
      have HY := hide hy
      clear hc MY0 TK0 yl hy
      go_upto_region 4 with fail
      clear E0
      go_wp2
      obtain ⟨wp, hwp⟩ : ∃ x, x = wr := ⟨_, rfl⟩
      subst hwp
      go_loopw [15] (fun jv wr => ∃ (j : Nat), j ≤ y.n ∧ jv = .int .i64 j ∧ Hid (((y.l.take j).map Prod.snd).any bad7 = false) ∧ Hid (Below w.heap.size w wr)) (fun jv _ => y.n - (intOf jv).toNat)
      case atStart => exact ⟨0, Nat.zero_le _, rfl, hide (by simp), HB⟩
      case round =>
        clear HB
        obtain ⟨j, hj, rfl, EJ, HB⟩ := hrel
        by_cases hjt : j < y.n
        · have hjt' : (j : Int) < (y.n : Int) := by omega
          rcases (unhide HY).at_ with e | ⟨b2, off2, ea, hb2, hc2⟩
          · exact absurd (unhide YN) (by rw [e]; simp; omega)
          have e0 := hc2 j (by rw [unhide YN]; exact hjt)
          have TK1 := take_succB (l := y.l) (i := j) (by rw [unhide YN]; exact hjt)
          have MY1 := List.getElem_mem (l := y.l) (n := j) (by rw [unhide YN]; exact hjt)
          generalize y.l[j]'(by rw [unhide YN]; exact hjt) = z at e0 TK1 MY1
          have F0 : wr.cell? ⟨b2, off2 + j * 2, none⟩ = some (.bool z.1.g) := ((unhide HB).cell (p := ⟨b2, off2 + j * 2, none⟩) hb2).trans e0.1
          have F1 : wr.cell? ⟨b2, off2 + j * 2 + 1, none⟩ = some (.slice z.1.a z.1.n z.1.c) := ((unhide HB).cell (p := ⟨b2, off2 + j * 2 + 1, none⟩) hb2).trans e0.2
          have TKJ : Hid ((y.l.take (j + 1)).map Prod.snd = (y.l.take j).map Prod.snd ++ [z.2]) := hide (by rw [TK1, List.map_append]; rfl)
          have hz := ((unhide HY).rd z MY1).head
          have zl : z.2.xs.length = z.1.n := hz.ar.len
          have zm : z.1.n ≤ maxLen := Nat.le_trans hz.ar.cap hz.ar.top
          have BZ : Hid (bad7 z.2 = true → gD (dM rs) = false) := hide (fun hb => (unhide BADR) (by
            unfold rowOk
            rw [show (y.l.map Prod.snd).any bad7 = true from List.any_eq_true.2 ⟨z.2, List.mem_map.2 ⟨z, MY1, rfl⟩, hb⟩]; simp))
          have CG : Hid (∀ w1, Below w.heap.size w w1 → Calls Try.prog 77 #[.agg #[.bool z.1.g, .slice z.1.a z.1.n z.1.c]] w1 fun e w' => e = .returned (.bool (goodB z.2.g z.2.xs)) ∧ Below w1.heap.size w1 w') := hide (fun w1 hb => by rw [← hz.sg]; exact goodS_any z.1.g z.1.a z.1.n z.1.c z.2.xs w1 (hz.ar.sl.later (Nat.le_refl _) hb) zl zm)
          have OB := ok_bad z.2
          rw [zl] at OB
          have hbx : Below w.heap.size w (wr.alloc (.cells #[.bool z.1.g, .slice z.1.a z.1.n z.1.c] 27)) := (unhide HB).alloc (unhide HB).size _
          have HBX := hide hbx
          unfold maxLen at zm
          obtain ⟨ya, yn, yc, yll⟩ := y
          simp only at ea
          subst ea
          clear e0 hc2 TK1 MY1 hz zl hbx
          cases hg : goodB z.2.g z.2.xs
          · rw [hg] at CG OB
            have EV : Hid (gD (dM rs) = false) := hide ((unhide BZ) (by rw [← OB]; rfl))
            clear OB hg
            go_wp2_with fail
            refine (unhide CG _ (unhide HBX)).mono ?_
            rintro e w1 ⟨rfl, hb1⟩
            have HB1 := hide (below_on (unhide HBX) hb1)
            have G0 : w1.cell? ⟨wr.heap.size, 0, none⟩ = some (.bool z.1.g) := cell_later hb1 (by simp [go_sem])
            have G1 : w1.cell? ⟨wr.heap.size, 1, none⟩ = some (.slice z.1.a z.1.n z.1.c) := cell_later hb1 (by simp [go_sem])
            clear hb1 F0 F1 CG
            go_wp2
            go_ret
            exact ⟨by rw [unhide EV]; rfl, unhide HB1⟩
          · rw [hg] at CG OB
            by_cases h3 : 3 < z.1.n
            · have d3 : decide ((3 : Int) < (z.1.n : Int)) = true := decide_eq_true (by omega)
              have EV : Hid (gD (dM rs) = false) := hide ((unhide BZ) (by rw [← OB, decide_eq_true h3]; rfl))
              clear OB hg
              go_wp2_with fail
              refine (unhide CG _ (unhide HBX)).mono ?_
              rintro e w1 ⟨rfl, hb1⟩
              have HB1 := hide (below_on (unhide HBX) hb1)
              have G0 : w1.cell? ⟨wr.heap.size, 0, none⟩ = some (.bool z.1.g) := cell_later hb1 (by simp [go_sem])
              have G1 : w1.cell? ⟨wr.heap.size, 1, none⟩ = some (.slice z.1.a z.1.n z.1.c) := cell_later hb1 (by simp [go_sem])
              clear hb1 F0 F1 CG
              go_wp2
              go_ret
              exact ⟨by rw [unhide EV]; rfl, unhide HB1⟩
            · have d3 : decide ((3 : Int) < (z.1.n : Int)) = false := decide_eq_false (by omega)
              have GZ : Hid (bad7 z.2 = false) := hide (by rw [← OB, decide_eq_false h3]; rfl)
              clear OB hg
              go_wp2_with fail
              refine (unhide CG _ (unhide HBX)).mono ?_
              rintro e w1 ⟨rfl, hb1⟩
              have HB1 := hide (below_on (unhide HBX) hb1)
              have G0 : w1.cell? ⟨wr.heap.size, 0, none⟩ = some (.bool z.1.g) := cell_later hb1 (by simp [go_sem])
              have G1 : w1.cell? ⟨wr.heap.size, 1, none⟩ = some (.slice z.1.a z.1.n z.1.c) := cell_later hb1 (by simp [go_sem])
              clear hb1 F0 F1 CG
              go_wp2
              go_roundw
              case rel => exact ⟨j + 1, by omega, by go_num, hide (by rw [unhide TKJ, List.any_append, unhide EJ]; simp only [List.any_cons, List.any_nil]; rw [unhide GZ]; rfl), HB1⟩
              case measure => simp [intOf]; omega
        · obtain rfl : j = y.n := by omega
          have EL : Hid ((y.l.map Prod.snd).any bad7 = false) := hide (by have h := unhide EJ; rw [← unhide YN, List.take_length] at h; exact h)
          by_cases hne : y.n = n
          · have dn : ((y.n : Int) != (n : Int)) = false := by simp [hne]
            have ROK : Hid (rowOk n (y.l.map Prod.snd) = true) := hide (by unfold rowOk; rw [unhide YL, unhide EL, decide_eq_true hne]; rfl)
            have HNE := hide hne
            clear hne
            go_wp2
            go_roundw
            case rel => exact ⟨i + 1, by omega, by go_num, hide (by rw [unhide TK, List.all_append, unhide EA]; simp only [List.all_cons, List.all_nil]; rw [unhide ROK]; rfl), HB⟩
            case measure => simp [intOf]; omega
          · have dn : ((y.n : Int) != (n : Int)) = true := by simp; omega
            have EV : Hid (gD (dM rs) = false) := hide ((unhide BADR) (by unfold rowOk; rw [unhide YL, decide_eq_false hne]; rfl))
            go_wp2
            go_ret
            exact ⟨by rw [unhide EV]; rfl, unhide HB⟩
    · obtain rfl : i = n := by omega
      have EV : Hid (gD (dM rs) = (decide ((1 : Int) ≤ (i : Int)) && decide ((i : Int) ≤ 8))) := hide (by
        have h := unhide EA
        rw [← unhide HL, List.take_length] at h
        unfold gD
        rw [dM_len, unhide HL]
        rw [unhide HL] at h
        rw [h, Bool.and_true]
        congr 1
        · exact decide_eq_decide.2 (by omega)
        · exact decide_eq_decide.2 (by omega))
      have CC := hide (fun w1 => l1In_any (i : Int) 1 8 w1)
      rw [← unhide EV] at CC
      go_wp2_with fail
      refine (unhide CC _).mono ?_
      rintro e w1 ⟨rfl, rfl⟩
      go_wp2
      go_ret
      exact ⟨rfl, unhide HB⟩
end Go.Proofs.Ytaaajmdneaaeeaa
namespace Go.Proofs.Ytaaajmdneaaeeaa
open Go.RowKit
set_option linter.unusedVariables false
set_option maxRecDepth 100000
set_option linter.unusedSimpArgs false

/-- The columns of a set. -/
def colsOf (s n : Nat) : List Nat := (List.range n).filter (fun j => s.testBit j)
set_option maxHeartbeats 4000000 in
theorem ones64 (x : Nat) (w : World) (h : x < 256) :
    Calls Try.prog 114 #[.int .u64 x] w fun e w' => e = .returned (.int .i64 ((colsOf x 8).length : Nat)) ∧ w' = w := by
  go_enter Try.func114, Try.ntmps114
  go_wp2
  go_ret
  refine ⟨?_, rfl⟩
  refine congrArg (fun z => Ending.returned (.int .i64 z)) ?_
  clear w
  revert x
  decide +kernel
theorem and_bit : ∀ s : Nat, s < 256 → ∀ j, j < 8 → (bits BinOp.and IntKind.i64 (s : Int) (wrap64 (2 ^ j)) == 0) = !(s.testBit j) := by decide +kernel
theorem andNot_bit : ∀ s : Nat, s < 256 → ∀ j, j < 8 → s.testBit j = true → bits BinOp.andNot IntKind.i64 (s : Int) (wrap64 (2 ^ j)) = ((s - 2 ^ j : Nat) : Int) := by decide +kernel
theorem cols_erase : ∀ s : Nat, s < 256 → ∀ j, j < 8 → s.testBit j = true → colsOf (s - 2 ^ j) 8 = (colsOf s 8).eraseIdx (colsOf s j).length ∧ (colsOf s 8)[(colsOf s j).length]? = some j ∧ 2 ^ j ≤ s := by decide +kernel
theorem pop_full : ∀ n, n ≤ 8 → ∀ s, s < 2 ^ n → colsOf s 8 = colsOf s n := by
  intro n hn s hs
  have : n = 0 ∨ n = 1 ∨ n = 2 ∨ n = 3 ∨ n = 4 ∨ n = 5 ∨ n = 6 ∨ n = 7 ∨ n = 8 := by omega
  rcases this with rfl | rfl | rfl | rfl | rfl | rfl | rfl | rfl | rfl <;> (revert s; decide +kernel)
theorem pop_pos : ∀ s, s < 256 → 0 < s → 1 ≤ (colsOf s 8).length := by decide +kernel
theorem cols_all : ∀ n, n ≤ 8 → colsOf (2 ^ n - 1) n = List.range n := by decide +kernel
end Go.Proofs.Ytaaajmdneaaeeaa
namespace Go.Proofs.Ytaaajmdneaaeeaa
open Go.RowKit
set_option linter.unusedVariables false
set_option maxRecDepth 100000
set_option linter.unusedSimpArgs false

/-- The determinant of the last rows in a set of as many columns. -/
def dS (M : Nat → Nat → Int) (n s : Nat) : Int := det ((List.range n).drop (n - (colsOf s 8).length)) ((colsOf s 8).map (col M))
/-- The sum of the parts of the first t columns of a set, by the row r. -/
def pS (M : Nat → Nat → Int) (n s r t : Nat) : Int := sumTo t (fun i => alt i * ((((colsOf s 8).map (col M)).getD i (fun _ => 0)) r) * det ((List.range n).drop (r + 1)) (((colsOf s 8).map (col M)).eraseIdx i))
theorem drop_range {n r : Nat} (h : r < n) : (List.range n).drop r = r :: (List.range n).drop (r + 1) := by
  rw [List.drop_eq_getElem_cons (by simpa using h)]
  simp
theorem cols_len (s n : Nat) (hs : s < 2 ^ n) (hn : n ≤ 8) : (colsOf s 8).length ≤ n := by
  rw [pop_full n hn s hs]
  exact Nat.le_trans (List.length_filter_le _ _) (by simp)
theorem dS_pS {M : Nat → Nat → Int} {n s : Nat} (hn : n ≤ 8) (hs : s < 2 ^ n) (h0 : 0 < s) : dS M n s = pS M n s (n - (colsOf s 8).length) (colsOf s 8).length := by
  have h1 := pop_pos s (Nat.lt_of_lt_of_le hs (by have : 2 ^ n ≤ 2 ^ 8 := Nat.pow_le_pow_right (by omega) hn; omega)) h0
  have h2 := cols_len s n hs hn
  unfold dS pS
  rw [drop_range (show n - (colsOf s 8).length < n by omega), det_cons, List.length_map]
theorem cols_succ (s j : Nat) : colsOf s (j + 1) = if s.testBit j = true then colsOf s j ++ [j] else colsOf s j := by
  unfold colsOf
  rw [List.range_succ, List.filter_append]
  by_cases h : s.testBit j = true
  · rw [if_pos h]; simp [h]
  · rw [if_neg h]; simp [h]
theorem pS_next {M : Nat → Nat → Int} {n s j : Nat} (hn : n ≤ 8) (hs : s < 2 ^ n) (hj : j < n) (hb : s.testBit j = true) :
    pS M n s (n - (colsOf s 8).length) (colsOf s (j + 1)).length = pS M n s (n - (colsOf s 8).length) (colsOf s j).length + alt (colsOf s j).length * (M (n - (colsOf s 8).length) j * dS M n (s - 2 ^ j)) := by
  have hs8 : s < 256 := Nat.lt_of_lt_of_le hs (by have : 2 ^ n ≤ 2 ^ 8 := Nat.pow_le_pow_right (by omega) hn; omega)
  obtain ⟨e1, e2, e3⟩ := cols_erase s hs8 j (by omega) hb
  have hl : (colsOf s j).length < (colsOf s 8).length := by
    by_cases c : (colsOf s j).length < (colsOf s 8).length
    · exact c
    · rw [List.getElem?_eq_none (by omega)] at e2; cases e2
  have hle := cols_len s n hs hn
  rw [cols_succ s j, if_pos hb, List.length_append, List.length_singleton]
  unfold pS
  simp only [sumTo]
  congr 1
  have g1 : ((colsOf s 8).map (col M)).getD (colsOf s j).length (fun _ => 0) = col M j := by
    rw [List.getD_eq_getElem?_getD, List.getElem?_map, e2]; rfl
  have g2 : ((colsOf s 8).map (col M)).eraseIdx (colsOf s j).length = (colsOf (s - 2 ^ j) 8).map (col M) := by rw [map_erase, ← e1]
  have g3 : (colsOf (s - 2 ^ j) 8).length = (colsOf s 8).length - 1 := by rw [e1, List.length_eraseIdx_of_lt hl]
  rw [g1, g2]
  unfold dS
  rw [g3, show n - ((colsOf s 8).length - 1) = n - (colsOf s 8).length + 1 by omega, Int.mul_assoc]
  rfl
theorem dS_abs {M : Nat → Nat → Int} {n s : Nat} (hn : n ≤ 8) (hs : s < 2 ^ n) (bd : ∀ i j, Bd (M i j) 3) : Bd (dS M n s) 25 := by
  have hle := cols_len s n hs hn
  have hlen : ((List.range n).drop (n - (colsOf s 8).length)).length = (colsOf s 8).length := by simp; omega
  have h := det_abs (B := 65536 ^ 3) ((List.range n).drop (n - (colsOf s 8).length)) ((colsOf s 8).map (col M)) (by rw [hlen, List.length_map]) (fun r _ c hc => by
    obtain ⟨j, _, rfl⟩ := List.mem_map.1 hc
    exact abs_of_bd (bd r j))
  rw [hlen] at h
  exact bd_of_abs (by omega) h
theorem sum_bd {V X : Int} (k : Nat) (hk : k ≤ 8) (h : V.natAbs ≤ k * 65536 ^ 28) (hx : X.natAbs ≤ 65536 ^ 28) : (V + X).natAbs ≤ (k + 1) * 65536 ^ 28 := by
  have := Int.natAbs_add_le V X
  rw [Nat.succ_mul]
  omega
theorem bd_sum {V : Int} {k : Nat} (hk : k ≤ 8) (h : V.natAbs ≤ k * 65536 ^ 28) : Bd V 30 := ⟨by
  have h1 : k * 65536 ^ 28 ≤ 8 * 65536 ^ 28 := Nat.mul_le_mul_right _ hk
  have h2 : 8 * 65536 ^ 28 < 65536 ^ 30 := by decide +kernel
  omega⟩
/-- The box of the sum. -/
structure Su7 (w : World) (G : Nat) (u : BV) : Prop where
  c0 : w.cell? ⟨G, 0, none⟩ = some (.bool u.g)
  c1 : w.cell? ⟨G, 1, none⟩ = some (.slice u.a u.n u.c)
  f : ∀ o, w.frozen? ⟨G, o, none⟩ = false
theorem Su7.later {w w' : World} {G : Nat} {u : BV} (h : Su7 w G u) (hb : Below w.heap.size w w') : Su7 w' G u := ⟨cell_later hb h.c0, cell_later hb h.c1, fun o => frozen_later hb (World.block_lt_of_cell? _ _ h.c0) (h.f o)⟩
theorem Su7.but {w w' : World} {G F : Nat} {u : BV} (h : Su7 w G u) (hb : But F (F + 1) w w') (hne : G ≠ F) : Su7 w' G u := ⟨hb.cell h.c0 (by omega), hb.cell h.c1 (by omega), fun o => hb.fz7 (h.f o) (World.block_lt_of_cell? _ _ h.c0) (by omega)⟩
/-- A box that a drawn region lays and fills. -/
def FxB (wk wx : World) (G : Nat) (x : BV) (V : Int) : Prop := BxB wk wx G x V ∧ ∀ o, wx.frozen? ⟨G, o, none⟩ = false
theorem fxB_alloc {wk w5 : World} {x : BV} {V : Int} {B : Nat} (t : TypeId) (hk : Below wk.heap.size wk w5) (how : Ow B w5.heap.size w5 x V) (hB : wk.heap.size ≤ B) : FxB wk (w5.alloc (.cells #[.bool x.g, .slice x.a x.n x.c] t)) w5.heap.size x V := ⟨bxB_alloc t hk how hB, fun o => by simp [go_sem]⟩
theorem fxB_set {wk w5 : World} {x : BV} {V : Int} {B G : Nat} {z0 : Value} {z1 : Value} (hk : Below wk.heap.size wk w5) (how : Ow B w5.heap.size w5 x V) (hG : wk.heap.size ≤ G) (hGB : G < B) (e0 : w5.cell? ⟨G, 0, none⟩ = some z0) (e1 : w5.cell? ⟨G, 1, none⟩ = some z1) (gf : ∀ o, w5.frozen? ⟨G, o, none⟩ = false) : FxB wk ((w5.setCell ⟨G, 0, none⟩ (.bool x.g)).setCell ⟨G, 1, none⟩ (.slice x.a x.n x.c)) G x V := ⟨bxB_set hk how hG hGB e0 e1, fun o => by simpa [go_sem] using gf o⟩
set_option maxHeartbeats 8000000 in
theorem sumI_v (Ri o n c F lo : Nat) (M : Nat → Nat → Int) (st : Nat) (w : World) (hn : n ≤ 8) (hs : st < 2 ^ n) (h0 : 0 < st) (hRi : Ri < w.heap.size) (bd : ∀ i j, Bd (M i j) 3)
    (hrow : ∀ j, j < n → ∃ b : BV, w.cell? ⟨Ri, o + j * 2, none⟩ = some (.bool b.g) ∧ w.cell? ⟨Ri, o + j * 2 + 1, none⟩ = some (.slice b.a b.n b.c) ∧ IsB w b (M (n - (colsOf st 8).length) j))
    (hd : ∀ t, t < st → ∃ b : BV, w.cell? ⟨F, t * 2, none⟩ = some (.bool b.g) ∧ w.cell? ⟨F, t * 2 + 1, none⟩ = some (.slice b.a b.n b.c) ∧ IsB w b (dS M n t)) (hF : F < w.heap.size) :
    Calls Try.prog 92 #[.slice (some ⟨Ri, o, none⟩) n c, .int .i64 st, .slice (some ⟨F, 0, none⟩) (2 ^ n) (2 ^ n)] w (OutN w (dS M n st)) := by
  have HW := hide hrow
  have HD := hide hd
  have BD := hide bd
  have p8 : 2 ^ n ≤ 256 := Nat.pow_le_pow_right (n := 2) (by omega) hn
  obtain ⟨s, hse⟩ : ∃ s, s = st := ⟨_, rfl⟩
  subst hse
  have ED := hide (dS_pS (M := M) hn hs h0)
  obtain ⟨NN, hNN⟩ : ∃ x, x = 2 ^ n := ⟨_, rfl⟩
  rw [← hNN] at hs p8 ⊢
  have HN2 := hide hNN
  clear hrow hd bd hNN
  have hb0 : Below w.heap.size w ((w.alloc (.cells #[.bool false, .slice none 0 0] 27)).alloc (.cells #[.bool false, .slice none 0 0] 27)) := ((Below.refl _ _).alloc (by simp) _).alloc (by simp) _
  have R0 : Rs7 ((w.alloc (.cells #[.bool false, .slice none 0 0] 27)).alloc (.cells #[.bool false, .slice none 0 0] 27)) w.heap.size := ⟨⟨⟨false, none, 0, 0⟩, by simp [go_sem], by simp [go_sem]⟩, fun o => by simp [go_sem]⟩
  have R1 : Rs7 ((w.alloc (.cells #[.bool false, .slice none 0 0] 27)).alloc (.cells #[.bool false, .slice none 0 0] 27)) (w.heap.size + 1) := ⟨⟨⟨false, none, 0, 0⟩, by simp [go_sem], by simp [go_sem]⟩, fun o => by simp [go_sem]⟩
  have c0 : ((w.alloc (.cells #[.bool false, .slice none 0 0] 27)).alloc (.cells #[.bool false, .slice none 0 0] 27)).cell? ⟨w.heap.size + 1, 0, none⟩ = some (.bool false) := by simp [go_sem]
  have c1 : ((w.alloc (.cells #[.bool false, .slice none 0 0] 27)).alloc (.cells #[.bool false, .slice none 0 0] 27)).cell? ⟨w.heap.size + 1, 1, none⟩ = some (.slice none 0 0) := by simp [go_sem]
  have HB0 := hide hb0
  have RS0 := hide R0
  have RT0 := hide R1.f
  have C0 := hide (And.intro c0 c1)
  clear hb0 R0 R1 c0 c1
  go_enter Try.func92, Try.ntmps92
  go_wp2
  go_loopw [8, 16] (fun ov jv wr => ∃ (j : Nat) (u : BV), j ≤ n ∧ jv = .int .i64 j ∧ ov = .bool (decide ((colsOf s j).length % 2 = 1)) ∧ Hid (wr.cell? ⟨w.heap.size + 1, 0, none⟩ = some (.bool u.g) ∧ wr.cell? ⟨w.heap.size + 1, 1, none⟩ = some (.slice u.a u.n u.c)) ∧ Hid (∀ o, wr.frozen? ⟨w.heap.size + 1, o, none⟩ = false) ∧ Hid (Ow w.heap.size wr.heap.size wr u (pS M n s (n - (colsOf s 8).length) (colsOf s j).length)) ∧ Hid ((pS M n s (n - (colsOf s 8).length) (colsOf s j).length).natAbs ≤ (colsOf s j).length * 65536 ^ 28) ∧ Hid (Rs7 wr w.heap.size) ∧ Hid (Below w.heap.size w wr)) (fun _ jv _ => n - (intOf jv).toNat)
  case atStart => exact ⟨0, ⟨false, none, 0, 0⟩, Nat.zero_le _, rfl, rfl, C0, RT0, hide (Ow.nought7 _ _ _), hide (by simp [colsOf, pS, sumTo]), RS0, HB0⟩
  case round =>
    clear C0 RT0 RS0 HB0
    obtain ⟨j, u, hj, rfl, rfl, HC, RT, OU, UB, RS, HB⟩ := hrel
    by_cases hlt : j < n
    · have hlt' : (j : Int) < (n : Int) := by omega
      obtain ⟨b, h6, h7, h8⟩ := (unhide HW) j hlt
      have E1 : wr.cell? ⟨Ri, o + j * 2, none⟩ = some (.bool b.g) := ((unhide HB).cell (p := ⟨Ri, o + j * 2, none⟩) hRi).trans h6
      have E2 : wr.cell? ⟨Ri, o + j * 2 + 1, none⟩ = some (.slice b.a b.n b.c) := ((unhide HB).cell (p := ⟨Ri, o + j * 2 + 1, none⟩) hRi).trans h7
      have isb : ∀ (x : BV) (V : Int), IsB w x V → IsB wr x V := fun x V h => by
        obtain ⟨xs, q1, q2⟩ := h
        exact ⟨xs, ⟨q1.sg, ⟨q1.ar.sl.later (Nat.le_refl _) (unhide HB), q1.ar.len, q1.ar.cap, q1.ar.top, q1.ar.addr⟩⟩, q2⟩
      have OB0 := hide (isb _ _ h8)
      have ISB := hide isb
      clear h6 h7 h8 isb
      have ab := and_bit s (by omega) j (by omega)
      have szr := (unhide HB).size
      cases hbit : s.testBit j
      · rw [hbit] at ab
        have EC : Hid (colsOf s (j + 1) = colsOf s j) := hide (by rw [cols_succ, if_neg (by rw [hbit]; simp)])
        clear hbit
        have hb6 : Below wr.heap.size wr (wr.alloc (.cells #[.bool b.g, .slice b.a b.n b.c] 27)) := (Below.refl _ _).alloc (Nat.le_refl _) _
        have HB6 := hide hb6
        clear hb6
        go_wp2
        go_roundw
        case rel => exact ⟨j + 1, u, by omega, by go_num, by rw [unhide EC], hide ⟨cell_later (unhide HB6) (unhide HC).1, cell_later (unhide HB6) (unhide HC).2⟩, hide (fun o => frozen_later (unhide HB6) (World.block_lt_of_cell? _ _ (unhide HC).1) ((unhide RT) o)), hide (by rw [unhide EC]; exact ((unhide OU).later (unhide HB6)).wide (Nat.le_refl _) (unhide HB6).size), hide (by rw [unhide EC]; exact unhide UB), hide ((unhide RS).later (unhide HB6)), hide (below_on (unhide HB) (unhide HB6))⟩
        case measure => simp [intOf]; omega
      · rw [hbit] at ab
        obtain ⟨_, _, e3⟩ := cols_erase s (by omega) j (by omega) hbit
        have an := andNot_bit s (by omega) j (by omega) hbit
        have p2 : 0 < 2 ^ j := Nat.pow_pos (by omega)
        obtain ⟨y, f6, f7, f8⟩ := (unhide HD) (s - 2 ^ j) (by omega)
        have PN := hide (pS_next (M := M) (n := n) (s := s) hn (by rw [← unhide HN2]; exact hs) hlt hbit)
        have ECL : Hid ((colsOf s (j + 1)).length = (colsOf s j).length + 1) := hide (by rw [cols_succ, if_pos hbit]; simp)
        have LE8 : Hid ((colsOf s j).length + 1 ≤ 8) := by
          have h1 := cols_len s n (by rw [← unhide HN2]; exact hs) hn
          obtain ⟨q1, q2, q3⟩ := cols_erase s (by omega) j (by omega) hbit
          have h2 : (colsOf s j).length < (colsOf s 8).length := by
            by_cases c : (colsOf s j).length < (colsOf s 8).length
            · exact c
            · rw [List.getElem?_eq_none (by omega)] at q2; cases q2
          exact hide (by omega)
        obtain ⟨A, hA⟩ : ∃ x, x = M (n - (colsOf s 8).length) j := ⟨_, rfl⟩
        obtain ⟨D, hD⟩ : ∃ x, x = dS M n (s - 2 ^ j) := ⟨_, rfl⟩
        have bA : Bd A 3 := by rw [hA]; exact (unhide BD) _ _
        have bDD : Bd D 25 := by rw [hD]; exact dS_abs hn (by rw [← unhide HN2]; omega) (unhide BD)
        rw [← hA] at OB0
        rw [← hD] at f8
        rw [← hA, ← hD] at PN
        have KB : Hid (Bd A 400000 ∧ Bd D 400000 ∧ Bd (A * D) 400000 ∧ (A * D).natAbs ≤ 65536 ^ 28) := hide ⟨bA.mono (by omega), bDD.mono (by omega), (bA.mul bDD).mono (by omega), Nat.le_of_lt (bA.mul bDD).lt⟩
        have tq : ((s - 2 ^ j : Nat) : Int) < (NN : Int) := by omega
        have tr : (0 : Int) ≤ ((s - 2 ^ j : Nat) : Int) := by omega
        have szF : F < wr.heap.size := by omega
        have e6 : wr.cell? ⟨F, (s - 2 ^ j) * 2, none⟩ = some (.bool y.g) := ((unhide HB).cell (p := ⟨F, (s - 2 ^ j) * 2, none⟩) hF).trans f6
        have e7 : wr.cell? ⟨F, (s - 2 ^ j) * 2 + 1, none⟩ = some (.slice y.a y.n y.c) := ((unhide HB).cell (p := ⟨F, (s - 2 ^ j) * 2 + 1, none⟩) hF).trans f7
        have OY0 := hide ((unhide ISB) _ _ f8)
        have SU : Hid (Su7 wr (w.heap.size + 1) u) := hide ⟨(unhide HC).1, (unhide HC).2, unhide RT⟩
        have sz7 : w.heap.size + 1 < wr.heap.size := World.block_lt_of_cell? _ _ (unhide HC).1
        clear f6 f7 f8 HC RT ISB
        generalize hzz : s - 2 ^ j = tt at *
        clear hbit hA hD bA bDD e3 p2 hzz
        go_upto_region 7 with fail
        have hb : Below wr.heap.size wr (wr.alloc (.cells #[.bool b.g, .slice b.a b.n b.c] 27)) := (Below.refl _ _).alloc (Nat.le_refl _) _
        have k0_0 : (wr.alloc (.cells #[.bool b.g, .slice b.a b.n b.c] 27)).cell? ⟨wr.heap.size, 0, none⟩ = some (.bool b.g) := by simp [go_sem]
        have k0_1 : (wr.alloc (.cells #[.bool b.g, .slice b.a b.n b.c] 27)).cell? ⟨wr.heap.size, 1, none⟩ = some (.slice b.a b.n b.c) := by simp [go_sem]
        have k1_0 := cell_later hb e6
        have k1_1 := cell_later hb e7
        have OB := hide ((unhide OB0).later hb)
        have OY := hide ((unhide OY0).later hb)
        have sza := hb.size
        replace SU := hide ((unhide SU).later hb)
        replace OU := hide ((unhide OU).later hb)
        replace RS := hide ((unhide RS).later hb)
        replace HB := hide (below_on (unhide HB) hb)
        clear hb e6 e7 OB0 OY0 E1 E2
        generalize hwa : wr.alloc (.cells #[.bool b.g, .slice b.a b.n b.c] 27) = wa at *
        have szwa : wr.heap.size < wa.heap.size := by rw [← hwa]; simp
        clear hwa
        go_cut [12] (fun p wx => ∃ (G : Nat) (x : BV), p = .pointer (some ⟨G, 0, none⟩) ∧ Hid (FxB wa wx G x (A * D)))
        case first =>
          go_region_held3 (fun w' => w'.cell? ⟨wr.heap.size, 0, none⟩ = some (.bool b.g) ∧ w'.cell? ⟨wr.heap.size, 1, none⟩ = some (.slice b.a b.n b.c) ∧ w'.cell? ⟨F, tt * 2, none⟩ = some (.bool y.g) ∧ w'.cell? ⟨F, tt * 2 + 1, none⟩ = some (.slice y.a y.n y.c)) (with_reducible (first | exact ⟨k0_0, k0_1, k1_0, k1_1⟩ | exact ⟨cd_other k0_0, cd_other k0_1, cd_other k1_0, cd_other k1_1⟩ | exact ⟨ca_other k0_0, ca_other k0_1, ca_other k1_0, ca_other k1_1⟩ | exact ⟨cd_other (ca_other k0_0), cd_other (ca_other k0_1), cd_other (ca_other k1_0), cd_other (ca_other k1_1)⟩ | exact ⟨cs_other (cs_other (k0_0) (by omega)) (by omega), cs_other (cs_other (k0_1) (by omega)) (by omega), cs_other (cs_other (k1_0) (by omega)) (by omega), cs_other (cs_other (k1_1) (by omega)) (by omega)⟩ | fail))
            (first
            | (go_at_call 108; refine (mulI_v b y A D _ ?_ ?_ (unhide KB).1 (unhide KB).2.1).mono ?_; (first | exact (unhide OB).later (Below.refl _ _).drew | exact (unhide OB).later ((Below.refl _ _).alloc (Nat.le_refl _) _).drew); (first | exact (unhide OY).later (Below.refl _ _).drew | exact (unhide OY).later ((Below.refl _ _).alloc (Nat.le_refl _) _).drew); rintro e w11 ⟨x1, lx1, rfl, hb, ox1, ax1, nx1⟩; have hbx : Below wa.heap.size wa w11 := (by first | exact below_of_drew hb | exact bad hb); have szw11 := hbx.size; replace k0_0 := cell_later hbx k0_0; replace k0_1 := cell_later hbx k0_1; replace k1_0 := cell_later hbx k1_0; replace k1_1 := cell_later hbx k1_1; replace OB := hide ((unhide OB).later hbx); replace OY := hide ((unhide OY).later hbx); have Px1 := hide (outN_ow ox1 ax1 nx1); (try (replace gf := fun o => frozen_later hbx (World.block_lt_of_cell? _ _ g0) (gf o); replace g0 := cell_later hbx g0; replace g1 := cell_later hbx g1)); (try (refine cutP (p := w11.cell? ⟨wa.heap.size, 0, none⟩ = some (.bool false) ∧ w11.cell? ⟨wa.heap.size, 1, none⟩ = some (.slice none 0 0) ∧ ∀ o, w11.frozen? ⟨wa.heap.size, o, none⟩ = false) ?_ (fun dd => ?_); (focus (refine ⟨cell_later hb ?_, cell_later hb ?_, fun o => frozen_later hb ?_ ?_⟩ <;> (simp [go_sem]; done))); obtain ⟨g0, g1, gf⟩ := dd)); have zz := hb.size; (try simp at zz); have HBr := hide hbx; clear hbx hb ox1 ax1 nx1))
          all_goals go_wp2_with fail
          all_goals go_meet
          all_goals first
            | (refine ⟨_, x1, rfl, hide (fxB_alloc 27 (unhide HBr) (unhide Px1) ?_)⟩; first | omega | (simp; done) | (simp; omega))
            | (refine ⟨_, x1, rfl, hide (fxB_set (unhide HBr) (unhide Px1) ?_ ?_ g0 g1 gf)⟩ <;> first | omega | (simp; done) | (simp; omega))
        case rest =>
          obtain ⟨Gp, xGp, rfl, HGp⟩ := hcut
          have hb := (unhide HGp).1.bel
          have loGp := (unhide HGp).1.lo
          have hiGp := (unhide HGp).1.hi
          clear k0_0 k0_1 k1_0 k1_1
          replace OB := hide ((unhide OB).later hb)
          replace OY := hide ((unhide OY).later hb)
          have OGp := hide ((unhide HGp).1.ow)
          replace HB := hide (below_on (unhide HB) hb)
          have HBc := hide hb
          clear hb
          have k2_0 := (unhide HGp).1.c0
          have k2_1 := (unhide HGp).1.c1
          have zGp := (unhide HGp).2
          clear HGp
          clear OB OY
          replace SU := hide ((unhide SU).later (unhide HBc))
          replace OU := hide ((unhide OU).later (unhide HBc))
          replace RS := hide ((unhide RS).later (unhide HBc))
          have szc := (unhide HBc).size
          clear HBc
          have UB' := unhide UB
          have U8 := unhide LE8
          have KX := (unhide KB).2.2
          by_cases hpar : (colsOf s j).length % 2 = 1
          · have hal : alt (colsOf s j).length = -1 := by unfold alt; rw [if_neg (by omega)]
            have KS : Hid (Bd (pS M n s (n - (colsOf s 8).length) (colsOf s j).length) 400000 ∧ Bd (-(A * D)) 400000 ∧ (pS M n s (n - (colsOf s 8).length) (colsOf s j).length + -(A * D)).natAbs ≤ ((colsOf s j).length + 1) * 65536 ^ 28) := hide ⟨(bd_sum (by omega) UB').mono (by omega), KX.1.neg, sum_bd _ (by omega) UB' (by rw [Int.natAbs_neg]; exact KX.2)⟩
            clear UB' KX
            have hal' : alt (colsOf s j).length * (A * D) = -(A * D) := by rw [hal, Int.neg_mul, Int.one_mul]
            have HAL := hide hal'
            clear hal hal'
            go_wp2_with fail
            refine (turnI_v xGp (A * D) _ _ _ (unhide OGp)).mono ?_
            rintro e wt ⟨x2, rfl, hb, ot⟩
            have szt := hb.size
            replace SU := hide ((unhide SU).later hb)
            replace OU := hide ((unhide OU).later hb)
            replace RS := hide ((unhide RS).later hb)
            replace HB := hide (below_on (unhide HB) hb)
            replace zGp := fun o => frozen_later hb (World.block_lt_of_cell? _ _ k2_0) (zGp o)
            replace k2_0 := cell_later hb k2_0
            replace k2_1 := cell_later hb k2_1
            replace OGp := hide ot
            clear hb ot
            have bt2 : But Gp (Gp + 1) wt ((wt.setCell ⟨Gp, 0, none⟩ (.bool x2.g)).setCell ⟨Gp, 1, none⟩ (.slice x2.a x2.n x2.c)) := metB_but
            have m0 : ((wt.setCell ⟨Gp, 0, none⟩ (.bool x2.g)).setCell ⟨Gp, 1, none⟩ (.slice x2.a x2.n x2.c)).cell? ⟨Gp, 0, none⟩ = some (.bool x2.g) := by simp [go_sem, k2_0, k2_1]
            have m1 : ((wt.setCell ⟨Gp, 0, none⟩ (.bool x2.g)).setCell ⟨Gp, 1, none⟩ (.slice x2.a x2.n x2.c)).cell? ⟨Gp, 1, none⟩ = some (.slice x2.a x2.n x2.c) := by simp [go_sem, k2_0, k2_1]
            have SU2 := hide ((unhide SU).but bt2 (by omega))
            have OU2 := hide ((unhide OU).blk bt2 k2_0 (notI_b _))
            have RS2 := hide ((unhide RS).but bt2 (by omega))
            have HB2 := hide (bt2.below (unhide HB) (by omega) (by omega))
            have OG2 := hide ((unhide OGp).blk bt2 k2_0 (notI_b _))
            have szs : ((wt.setCell ⟨Gp, 0, none⟩ (.bool x2.g)).setCell ⟨Gp, 1, none⟩ (.slice x2.a x2.n x2.c)).heap.size = wt.heap.size := by simp
            go_upto_region 10 with fail
            clear SU OU RS HB OGp bt2 k2_0 k2_1 zGp
            generalize (wt.setCell ⟨Gp, 0, none⟩ (.bool x2.g)).setCell ⟨Gp, 1, none⟩ (.slice x2.a x2.n x2.c) = wz at *
            have SU := SU2
            have OU := OU2
            have RS := RS2
            have HB := HB2
            have OGp := OG2
            clear SU2 OU2 RS2 HB2 OG2
            have s0 := (unhide SU).c0
            have s1 := (unhide SU).c1
            go_wp2_with fail
            clear s0 s1 m0 m1
            refine (addI_v u x2 _ _ _ (unhide OU).is (unhide OGp).is (unhide KS).1 (unhide KS).2.1).mono ?_
            rintro e we ⟨x, lx, rfl, hb, ox, ax, nx⟩
            have hs5 := hb.size
            have OX := hide (outN_ow ox ax nx)
            replace SU := hide ((unhide SU).later hb)
            replace RS := hide ((unhide RS).later hb)
            replace HB := hide (below_on (unhide HB) hb)
            have f0 := (unhide SU).c0
            have f1 := (unhide SU).c1
            have f2 := (unhide SU).f
            clear hb ox ax nx OU OGp
            go_wp2
            go_roundw
            case rel =>
              have bt : But (w.heap.size + 1) (w.heap.size + 1 + 1) we ((we.setCell ⟨w.heap.size + 1, 0, none⟩ (.bool x.g)).setCell ⟨w.heap.size + 1, 1, none⟩ (.slice x.a x.n x.c)) := metB_but
              exact ⟨j + 1, x, by omega, by go_num, by rw [unhide ECL]; simp; omega, hide ⟨by simp [go_sem, f0, f1], by simp [go_sem, f0, f1]⟩, hide (fun o => by simpa [go_sem] using f2 o), hide (by rw [unhide PN, unhide HAL]; exact ((unhide OX).blk bt f0 (notI_b _)).wide (by omega) bt.size), hide (by rw [unhide PN, unhide HAL, unhide ECL]; exact (unhide KS).2.2), hide ((unhide RS).but bt (by omega)), hide (bt.below (unhide HB) (by omega) (by omega))⟩
            case measure => simp [intOf]; omega
          · have hal : alt (colsOf s j).length = 1 := by unfold alt; rw [if_pos (by omega)]
            have KS : Hid (Bd (pS M n s (n - (colsOf s 8).length) (colsOf s j).length) 400000 ∧ Bd (A * D) 400000 ∧ (pS M n s (n - (colsOf s 8).length) (colsOf s j).length + A * D).natAbs ≤ ((colsOf s j).length + 1) * 65536 ^ 28) := hide ⟨(bd_sum (by omega) UB').mono (by omega), KX.1, sum_bd _ (by omega) UB' KX.2⟩
            clear UB' KX
            have hal' : alt (colsOf s j).length * (A * D) = A * D := by rw [hal, Int.one_mul]
            have HAL := hide hal'
            clear hal hal'
            have s0 := (unhide SU).c0
            have s1 := (unhide SU).c1
            go_wp2_with fail
            clear s0 s1 k2_0 k2_1 zGp
            refine (addI_v u xGp _ _ _ (unhide OU).is (unhide OGp).is (unhide KS).1 (unhide KS).2.1).mono ?_
            rintro e we ⟨x, lx, rfl, hb, ox, ax, nx⟩
            have hs5 := hb.size
            have OX := hide (outN_ow ox ax nx)
            replace SU := hide ((unhide SU).later hb)
            replace RS := hide ((unhide RS).later hb)
            replace HB := hide (below_on (unhide HB) hb)
            have f0 := (unhide SU).c0
            have f1 := (unhide SU).c1
            have f2 := (unhide SU).f
            clear hb ox ax nx OU OGp
            go_wp2
            go_roundw
            case rel =>
              have bt : But (w.heap.size + 1) (w.heap.size + 1 + 1) we ((we.setCell ⟨w.heap.size + 1, 0, none⟩ (.bool x.g)).setCell ⟨w.heap.size + 1, 1, none⟩ (.slice x.a x.n x.c)) := metB_but
              exact ⟨j + 1, x, by omega, by go_num, by rw [unhide ECL]; simp; omega, hide ⟨by simp [go_sem, f0, f1], by simp [go_sem, f0, f1]⟩, hide (fun o => by simpa [go_sem] using f2 o), hide (by rw [unhide PN, unhide HAL]; exact ((unhide OX).blk bt f0 (notI_b _)).wide (by omega) bt.size), hide (by rw [unhide PN, unhide HAL, unhide ECL]; exact (unhide KS).2.2), hide ((unhide RS).but bt (by omega)), hide (bt.below (unhide HB) (by omega) (by omega))⟩
            case measure => simp [intOf]; omega
    · obtain rfl : j = n := by omega
      obtain ⟨bz, r0, r1⟩ := (unhide RS).c
      have rf := (unhide RS).f
      have hc0 := (unhide HC).1
      have hc1 := (unhide HC).2
      have EF : Hid (pS M j s (j - (colsOf s 8).length) (colsOf s j).length = dS M j s) := hide (by rw [unhide ED, pop_full j hn s (by rw [← unhide HN2]; exact hs)])
      go_wp2
      refine bodyPost_ret (v := .agg #[.bool u.g, .slice u.a u.n u.c]) (by simp [results, Try.results92, go_sem, r0, r1]) rfl ?_
      have bt := metB_but (w5 := wr) (v := u) (G := w.heap.size)
      have h := unhide OU
      rw [unhide EF] at h
      exact out_of_ow ((h.blk bt r0 (notI_b _)).wide (Nat.le_refl _) bt.size) (Nat.le_refl _) (Nat.le_refl _) (bt.below (unhide HB) (Nat.le_refl _) (unhide HB).size)
end Go.Proofs.Ytaaajmdneaaeeaa
namespace Go.Proofs.Ytaaajmdneaaeeaa
open Go.RowKit
set_option linter.unusedVariables false
set_option maxRecDepth 100000
set_option linter.unusedSimpArgs false

/-- The determinant by parts. -/
def dP (M : Nat → Nat → Int) (n : Nat) : Int := det (List.range n) ((List.range n).map (col M))
theorem dS_zero (M : Nat → Nat → Int) (n : Nat) : dS M n 0 = 1 := by
  unfold dS
  rw [show colsOf 0 8 = [] by decide +kernel]
  rw [List.drop_eq_nil_of_le (by simp)]
  rfl
theorem dS_full (M : Nat → Nat → Int) (n : Nat) (hn : n ≤ 8) : dS M n (2 ^ n - 1) = dP M n := by
  unfold dS dP
  have h1 : 2 ^ n - 1 < 2 ^ n := by have : 0 < 2 ^ n := Nat.pow_pos (by omega); omega
  rw [pop_full n hn _ h1, cols_all n hn]
  simp
theorem ones_v (x : Nat) (w : World) (h : x < 256) :
    Calls Try.prog 91 #[.int .u64 x] w fun e w' => e = .returned (.int .i64 ((colsOf x 8).length : Nat)) ∧ w' = w := by
  have C := hide (ones64 x w h)
  go_enter Try.func91, Try.ntmps91
  go_wp2_with fail
  refine (unhide C).mono ?_
  rintro e w1 ⟨rfl, rfl⟩
  go_wp2
  go_ret
  exact ⟨rfl, rfl⟩
theorem wrap_pow : ∀ n, n ≤ 8 → wrap64 (2 ^ n) = ((2 ^ n : Nat) : Int) := by decide +kernel
set_option maxHeartbeats 4000000 in
theorem lastB_v (F n : Nat) (b : BV) (w : World) (h0 : 0 < n) (h256 : n ≤ 256) (hF : F < w.heap.size) (h1 : w.cell? ⟨F, (n - 1) * 2, none⟩ = some (.bool b.g)) (h2 : w.cell? ⟨F, (n - 1) * 2 + 1, none⟩ = some (.slice b.a b.n b.c)) :
    Calls Try.prog 93 #[.slice (some ⟨F, 0, none⟩) n n] w fun e w' => e = .returned (.agg #[.bool b.g, .slice b.a b.n b.c]) ∧ Below w.heap.size w w' := by
  have ta : ((n : Int) - 1).toNat = n - 1 := by omega
  have tb : 0 ≤ (n : Int) - 1 := by omega
  have tc : (n : Int) - 1 < (n : Int) := by omega
  go_enter Try.func93, Try.ntmps93
  go_wp2
  refine bodyPost_ret (v := .agg #[.bool b.g, .slice b.a b.n b.c]) (by simp [results, Try.results93, go_sem]) rfl ?_
  refine ⟨rfl, ?_⟩
  exact (Below.refl _ _).alloc (Nat.le_refl _) _
/-- The row of determinants while those of the first sets are known. -/
def rowD (M : Nat → Nat → Int) (n s c : Nat) : Int := if c < s then dS M n c else 0
set_option maxHeartbeats 8000000 in
theorem partsI_v (a : Option Addr) (n c : Nat) (M : Nat → Nat → Int) (w : World) (h : MatV w a n M) (h1 : 1 ≤ n) (hn : n ≤ 8) (bd : ∀ i j, Bd (M i j) 3) :
    Calls Try.prog 52 #[.slice a n c] w (OutN w (dP M n)) := by
  obtain ⟨G, off, rfl, hG, hm⟩ := h
  have HM := hide hm
  have BD := hide bd
  obtain ⟨NN, hNN⟩ : ∃ x, x = 2 ^ n := ⟨_, rfl⟩
  have wp := wrap_pow n hn
  rw [← hNN] at wp
  have N1 : 2 ≤ NN := by rw [hNN]; exact Nat.le_trans (by decide) (Nat.pow_le_pow_right (n := 2) (by omega) h1)
  have N2 : NN ≤ 256 := by rw [hNN]; exact Nat.pow_le_pow_right (n := 2) (by omega) hn
  have HN := hide hNN
  have WP := hide wp
  clear hm bd hNN
  obtain ⟨i1, hi1, hy0, hy1, hy2⟩ := info_parts Try.info27
  have I1 := hide (And.intro hi1 (And.intro hy0 (And.intro hy1 hy2)))
  clear hi1 hy0 hy1 hy2
  have HBa : Hid (Below w.heap.size w (w.alloc (.cells #[.bool false, .slice none 0 0] 27))) := hide ((Below.refl _ _).alloc (Nat.le_refl _) _)
  have RSa : Hid (Rs7 (w.alloc (.cells #[.bool false, .slice none 0 0] 27)) w.heap.size) := hide ⟨⟨⟨false, none, 0, 0⟩, by simp [go_sem], by simp [go_sem]⟩, fun o => by simp [go_sem]⟩
  go_enter Try.func52, Try.ntmps52
  go_wp2_with (at_make; refine wpList_make_full _ rfl _ _ 33 rfl w.heap.size 27 i1 (.agg #[.bool false, .slice none 0 0]) 2 Try.underlying33 (unhide I1).1 (unhide I1).2.1 (unhide I1).2.2.1 .i64 .i64 _ _ NN rfl rfl ?c4 ?c5 ?c1 ?c2 ?c3 ?_)
  case c4 => exact unhide WP
  case c5 => exact unhide WP
  case c1 => rw [(unhide I1).2.2.2]; omega
  case c2 => unfold maxLen; omega
  case c3 => simp
  intro w0 hown hgrow
  have hb0 : Below (w.alloc (.cells #[.bool false, .slice none 0 0] 27)).heap.size (w.alloc (.cells #[.bool false, .slice none 0 0] 27)) w0 := (Below.refl _ _).grown hgrow (Nat.le_refl _) (fun k e => by cases e)
  have RW0 := hide (RowW.made (lo := w.heap.size) (V := rowD M n 0) (made7_of hown) (fun j hj => by unfold rowD; rw [if_neg (by omega)]))
  have RS0 := hide ((unhide RSa).later hb0)
  have HB0 := hide (below_on (unhide HBa) hb0)
  clear hown hgrow hb0 RSa HBa wp
  go_wp2_with fail
  refine (ofI_v 1 _ (by omega) (by omega)).mono ?_
  rintro e w1 ⟨y, ly, rfl, hb1, oy, ay, ny⟩
  have OY := hide (outN_ow oy ay ny)
  have RW1 := hide ((unhide RW0).later hb1)
  have RS1 := hide ((unhide RS0).later hb1)
  have HB1 := hide (below_on (unhide HB0) hb1)
  have sz0 := (unhide HB0).size
  clear hb1 oy ay ny RW0 RS0 HB0
  obtain ⟨bv, m0, m1, _⟩ := (unhide RW1).el 0 (by omega)
  have fz := (unhide RW1).fz
  have bt0 : But (w.heap.size + 1) (w.heap.size + 1 + 1) w1 ((w1.setCell ⟨w.heap.size + 1, 0 * 2, none⟩ (.bool y.g)).setCell ⟨w.heap.size + 1, 0 * 2 + 1, none⟩ (.slice y.a y.n y.c)) := but_row7
  have RW2 := hide ((unhide RW1).set (j := 0) (V' := rowD M n 1) (u := y) (by omega) (by rw [show rowD M n 1 0 = 1 by unfold rowD; rw [if_pos (by omega), dS_zero]]; exact (unhide OY).wide (by omega) (Nat.le_refl _)) (fun c hc hne => by unfold rowD; rw [if_neg (by omega), if_neg (by omega)]))
  have RS2 := hide ((unhide RS1).but bt0 (by omega))
  have HB2 := hide (bt0.below (unhide HB1) (by omega) (Nat.le_trans (by omega) (unhide HB1).size))
  clear bt0 RW1 RS1 HB1
  simp only [Nat.zero_mul, Nat.zero_add] at m0 m1 RW2 RS2 HB2
  go_wp2
  go_loopw [4] (fun iv wr => ∃ i : Nat, 1 ≤ i ∧ i ≤ NN ∧ iv = .int .i64 i ∧ Hid (RowW w.heap.size wr (w.heap.size + 1) NN (rowD M n i)) ∧ Hid (Rs7 wr w.heap.size) ∧ Hid (Below w.heap.size w wr)) (fun iv _ => NN - (intOf iv).toNat)
  case atStart => exact ⟨1, by omega, by omega, rfl, RW2, RS2, HB2⟩
  case round =>
    clear RW2 RS2 HB2
    obtain ⟨i, hi1, hi, rfl, RW, RS, HB⟩ := hrel
    by_cases hlt : i < NN
    · have hlt' : (i : Int) < (NN : Int) := by omega
      have P1 := pop_pos i (by omega) hi1
      have P2 := cols_len i n (by rw [← unhide HN]; exact hlt) hn
      generalize hk : (colsOf i 8).length = k at P1 P2
      have C1 : Hid (∀ w', Calls Try.prog 91 #[.int .u64 (i : Nat)] w' fun e w'' => e = .returned (.int .i64 (k : Nat)) ∧ w'' = w') := hide (fun w' => by rw [← hk]; exact ones_v i w' (by omega))
      have HK := hide hk
      clear hk
      obtain ⟨Ri, o, cr, e0, e1, e2, e3, e4⟩ := (unhide HM) (n - k) (by omega)
      have f0 : wr.cell? ⟨G, off + (n - k), none⟩ = some (.slice (some ⟨Ri, o, none⟩) n cr) := ((unhide HB).cell (p := ⟨G, off + (n - k), none⟩) hG).trans e0
      have E4 := hide e4
      have ta : ((n : Int) - (k : Int)).toNat = n - k := by omega
      have tb : 0 ≤ (n : Int) - (k : Int) := by omega
      have tc : (n : Int) - (k : Int) < (n : Int) := by omega
      clear e0 e1 e2 e4
      go_wp2_with fail
      refine ((unhide C1) _).mono ?_
      rintro e w1 ⟨rfl, rfl⟩
      go_wp2_with fail
      have C2 : Calls Try.prog 92 #[.slice (some ⟨Ri, o, none⟩) n cr, .int .i64 i, .slice (some ⟨w.heap.size + 1, 0, none⟩) NN NN] w1 (OutN w1 (dS M n i)) := by
        have h := sumI_v Ri o n cr (w.heap.size + 1) 0 M i w1 hn (by rw [← unhide HN]; exact hlt) hi1 (Nat.lt_of_lt_of_le e3 (unhide HB).size) (unhide BD) (fun j hj => by
          obtain ⟨b, q1, q2, q3⟩ := (unhide E4) j hj
          refine ⟨b, ((unhide HB).cell (p := ⟨Ri, o + j * 2, none⟩) e3).trans q1, ((unhide HB).cell (p := ⟨Ri, o + j * 2 + 1, none⟩) e3).trans q2, ?_⟩
          rw [unhide HK]
          obtain ⟨xs, r1, r2⟩ := q3
          exact ⟨xs, ⟨r1.sg, ⟨r1.ar.sl.later (Nat.le_refl _) (unhide HB), r1.ar.len, r1.ar.cap, r1.ar.top, r1.ar.addr⟩⟩, r2⟩) (fun t ht => by
          obtain ⟨b, q1, q2, q3⟩ := (unhide RW).el t (by omega)
          rw [show rowD M n i t = dS M n t by unfold rowD; rw [if_pos ht]] at q3
          exact ⟨b, q1, q2, q3.is⟩) (unhide RW).lt
        rw [← unhide HN] at h
        exact h
      refine C2.mono ?_
      clear C2
      rintro e w2 ⟨y2, ly, rfl, hb1, oy, ay, ny⟩
      have OY := hide (outN_ow oy ay ny)
      have RW1 := hide ((unhide RW).later hb1)
      have RS1 := hide ((unhide RS).later hb1)
      have HB1 := hide (below_on (unhide HB) hb1)
      have szz := (unhide HB).size
      clear hb1 oy ay ny RW HB RS f0
      obtain ⟨bv, m0, m1, _⟩ := (unhide RW1).el i hlt
      have fz := (unhide RW1).fz
      go_wp2
      go_roundw
      case rel =>
        have bt : But (w.heap.size + 1) (w.heap.size + 1 + 1) w2 ((w2.setCell ⟨w.heap.size + 1, i * 2, none⟩ (.bool y2.g)).setCell ⟨w.heap.size + 1, i * 2 + 1, none⟩ (.slice y2.a y2.n y2.c)) := but_row7
        exact ⟨i + 1, by omega, by omega, by go_num, hide ((unhide RW1).set (V' := rowD M n (i + 1)) hlt (by rw [show rowD M n (i + 1) i = dS M n i by unfold rowD; rw [if_pos (by omega)]]; exact (unhide OY).wide (by omega) (Nat.le_refl _)) (fun c hc hne => by
          unfold rowD
          by_cases y1 : c < i
          · rw [if_pos y1, if_pos (by omega)]
          · rw [if_neg y1, if_neg (by omega)])), hide ((unhide RS1).but bt (by omega)), hide (bt.below (unhide HB1) (by omega) (Nat.le_trans (by omega) (unhide HB1).size))⟩
      case measure => simp [intOf]; omega
    · obtain rfl : i = NN := by omega
      obtain ⟨b, q1, q2, q3⟩ := (unhide RW).el (i - 1) (by omega)
      rw [show rowD M n i (i - 1) = dP M n by unfold rowD; rw [if_pos (by omega), unhide HN, dS_full M n hn]] at q3
      have O3 := hide q3
      have LT := (unhide RW).lt
      clear q3
      go_wp2_with fail
      refine (lastB_v (w.heap.size + 1) i b _ (by omega) N2 LT q1 q2).mono ?_
      rintro e w1 ⟨rfl, hb⟩
      have RS1 := hide ((unhide RS).later hb)
      have O4 := hide ((unhide O3).later hb)
      have HB1 := hide (below_on (unhide HB) hb)
      have szz := (unhide HB).size
      have sz1 := hb.size
      clear hb O3 RW RS HB q1 q2
      obtain ⟨bz, r0, r1⟩ := (unhide RS1).c
      have rf := (unhide RS1).f
      go_wp2
      refine bodyPost_ret (v := .agg #[.bool b.g, .slice b.a b.n b.c]) (by simp [results, Try.results52, go_sem, r0, r1]) rfl ?_
      have bt := metB_but (w5 := w1) (v := b) (G := w.heap.size)
      exact out_of_ow (((unhide O4).blk bt r0 (notI_b _)).wide (Nat.le_refl _) (Nat.le_trans sz1 bt.size)) (Nat.le_refl _) (Nat.le_refl _) (bt.below (unhide HB1) (Nat.le_refl _) (unhide HB1).size)
end Go.Proofs.Ytaaajmdneaaeeaa
namespace Go.Proofs.Ytaaajmdneaaeeaa
open Go.RowKit
set_option linter.unusedVariables false
set_option maxRecDepth 100000
set_option linter.unusedSimpArgs false

/-- What stays when the first row and a column go. -/
def mn7 (M : Nat → Nat → Int) (k i j : Nat) : Int := M (i + 1) (if j < k then j else j + 1)
theorem getD_map0 (cs : List (Nat → Int)) (f : Nat → Nat) (i r : Nat) : (cs.map (fun c => fun r => c (f r))).getD i (fun _ => 0) r = cs.getD i (fun _ => 0) (f r) := by
  rw [List.getD_eq_getElem?_getD, List.getD_eq_getElem?_getD, List.getElem?_map]
  cases cs[i]? <;> rfl
theorem det_map7 (f : Nat → Nat) (rs : List Nat) : ∀ cs : List (Nat → Int), det (rs.map f) cs = det rs (cs.map (fun c => fun r => c (f r))) := by
  induction rs with
  | nil => intro cs; rfl
  | cons r rs ih =>
    intro cs
    rw [List.map_cons, det_cons, det_cons, List.length_map]
    congr 1
    funext i
    rw [getD_map0, ih, map_erase]
theorem erase_range (n k : Nat) (hk : k ≤ n) : (List.range (n + 1)).eraseIdx k = (List.range n).map (fun j => if j < k then j else j + 1) := by
  apply List.ext_getElem
  · rw [List.length_eraseIdx_of_lt (by simp; omega)]; simp
  · intro i h1 h2
    rw [List.getElem_eraseIdx]
    simp
theorem sumTo_ext7 (n : Nat) (f g : Nat → Int) (h : ∀ k, k < n → f k = g k) : sumTo n f = sumTo n g := by
  induction n with
  | zero => rfl
  | succ n ih => simp only [sumTo]; rw [ih (fun k hk => h k (by omega)), h n (by omega)]
theorem dP_succ (M : Nat → Nat → Int) (n : Nat) : dP M (n + 1) = sumTo (n + 1) (fun k => alt k * M 0 k * dP (mn7 M k) n) := by
  unfold dP
  rw [List.range_succ_eq_map, det_cons, List.length_map, List.length_cons, List.length_map, List.length_range]
  refine sumTo_ext7 _ _ _ (fun k hk => ?_)
  rw [← List.range_succ_eq_map]
  rw [show ((List.range (n + 1)).map (col M)).getD k (fun _ => 0) = col M k by rw [List.getD_eq_getElem?_getD, List.getElem?_map, List.getElem?_range hk]; rfl]
  rw [map_erase, erase_range n k (by omega), det_map7, List.map_map, List.map_map]
  rfl
theorem dP_one (M : Nat → Nat → Int) : dP M 1 = M 0 0 := by
  rw [dP_succ]
  simp [sumTo, alt, dP, det]
/-- A row's cells as a list. -/
theorem row_list {w : World} {Ri o n : Nat} {V : Nat → Int} (h : ∀ j, j < n → ∃ b : BV, w.cell? ⟨Ri, o + j * 2, none⟩ = some (.bool b.g) ∧ w.cell? ⟨Ri, o + j * 2 + 1, none⟩ = some (.slice b.a b.n b.c) ∧ IsB w b (V j)) :
    ∃ xs : List Value, xs.length = n * 2 ∧ (∀ j u, xs[j]? = some u → w.cell? ⟨Ri, o + j, none⟩ = some u) ∧ (∀ u ∈ xs, u.oneCell' = true) ∧ ∀ j, j < n → ∃ b : BV, xs[j * 2]? = some (.bool b.g) ∧ xs[j * 2 + 1]? = some (.slice b.a b.n b.c) ∧ IsB w b (V j) := by
  induction n with
  | zero => exact ⟨[], rfl, fun j u hu => by simp at hu, ⟨fun u hu => by simp at hu, fun j hj => by omega⟩⟩
  | succ n ih =>
    obtain ⟨xs, h1, h2, h3, h4⟩ := ih (fun j hj => h j (by omega))
    obtain ⟨b, k1, k2, k3⟩ := h n (by omega)
    refine ⟨xs ++ [.bool b.g, .slice b.a b.n b.c], by simp [h1]; omega, fun j u hu => ?_, fun u hu => ?_, fun j hj => ?_⟩
    · by_cases c : j < xs.length
      · rw [List.getElem?_append_left c] at hu; exact h2 j u hu
      · rw [List.getElem?_append_right (by omega)] at hu
        have : j - xs.length = 0 ∨ j - xs.length = 1 := by
          by_cases c2 : j - xs.length < 2
          · omega
          · rw [List.getElem?_eq_none (by simp; omega)] at hu; cases hu
        rcases this with e | e
        · rw [e] at hu
          simp at hu
          rw [← hu, show o + j = o + n * 2 by omega]; exact k1
        · rw [e] at hu
          simp at hu
          rw [← hu, show o + j = o + n * 2 + 1 by omega]; exact k2
    · rw [List.mem_append] at hu
      rcases hu with hu | hu
      · exact h3 u hu
      · simp at hu
        rcases hu with rfl | rfl <;> rfl
    · by_cases c : j = n
      · subst c
        exact ⟨b, by rw [List.getElem?_append_right (by omega), h1]; simp, by rw [List.getElem?_append_right (by omega), h1]; simp, k3⟩
      · obtain ⟨b', q1, q2, q3⟩ := h4 j (by omega)
        exact ⟨b', by rw [List.getElem?_append_left (by omega)]; exact q1, by rw [List.getElem?_append_left (by omega)]; exact q2, q3⟩
/-- Rows whose numbers lie where they lay. -/
structure MatI (lo : Nat) (w0 w : World) (m n : Nat) (R : Nat → Nat) (M : Nat → Nat → Int) : Prop where
  rlo : ∀ i, i < m → lo ≤ R i ∧ R i < w.heap.size
  ty : ∀ i, i < m → ∃ cur, w.heap[R i]? = some (.cells cur 27 (0, 0))
  el : ∀ i j, i < m → j < n → ∃ b : BV, w.cell? ⟨R i, j * 2, none⟩ = some (.bool b.g) ∧ w.cell? ⟨R i, j * 2 + 1, none⟩ = some (.slice b.a b.n b.c) ∧ IsB w0 b (M i j)
theorem MatI.later {lo : Nat} {w0 w w' : World} {m n : Nat} {R : Nat → Nat} {M : Nat → Nat → Int} (h : MatI lo w0 w m n R M) (hb : Below w.heap.size w w') : MatI lo w0 w' m n R M := by
  refine ⟨fun i hi => ⟨(h.rlo i hi).1, Nat.lt_of_lt_of_le (h.rlo i hi).2 hb.size⟩, fun i hi => ?_, fun i j hi hj => ?_⟩
  · obtain ⟨cur, k⟩ := h.ty i hi
    exact ⟨cur, (hb.block (R i) (h.rlo i hi).2).trans k⟩
  obtain ⟨b, h1, h2, h3⟩ := h.el i j hi hj
  exact ⟨b, cell_later hb h1, cell_later hb h2, h3⟩
theorem MatI.gr {lo : Nat} {w0 w w' : World} {m n : Nat} {R : Nat → Nat} {M : Nat → Nat → Int} {v : Value} (h : MatI lo w0 w m n R M) (hg : w.grownBy w' v.ownBlock) (hne : ∀ i, i < m → v.ownBlock ≠ some (R i)) : MatI lo w0 w' m n R M := by
  refine ⟨fun i hi => ⟨(h.rlo i hi).1, Nat.lt_of_lt_of_le (h.rlo i hi).2 hg.size⟩, fun i hi => ?_, fun i j hi hj => ?_⟩
  · obtain ⟨cur, k⟩ := h.ty i hi
    exact ⟨cur, (hg.block (R i) (h.rlo i hi).2 (fun e => hne i hi e.symm)).trans k⟩
  obtain ⟨b, h1, h2, h3⟩ := h.el i j hi hj
  exact ⟨b, cell_gr7 hg h1 (hne i hi), cell_gr7 hg h2 (hne i hi), h3⟩
/-- What stays while a row grows. -/
structure Sta9 (w0 w : World) (vo : Value) (i n : Nat) (R : Nat → Nat) (M : Nat → Nat → Int) : Prop where
  o : OutG w0.heap.size w vo i n R
  r : MatI w0.heap.size w0 w i n R M
  b : Below w0.heap.size w0 w
theorem Sta9.later {w0 w w' : World} {vo : Value} {i n : Nat} {R : Nat → Nat} {M : Nat → Nat → Int} (h : Sta9 w0 w vo i n R M) (hb : Below w.heap.size w w') : Sta9 w0 w' vo i n R M := ⟨h.o.later hb, h.r.later hb, below_on h.b hb⟩
theorem Sta9.gr {w0 w w' : World} {vo v : Value} {i n m : Nat} {R : Nat → Nat} {M : Nat → Nat → Int} {ys : List Value} (h : Sta9 w0 w vo i n R M) (hr : w.ownsRow w0.heap.size 27 2 v m ys) (hg : w.grownBy w' v.ownBlock) (hne : ∀ t, t < i → v.ownBlock ≠ some (R t)) : Sta9 w0 w' vo i n R M := by
  obtain ⟨xs, h1, h2⟩ := h.o.ex
  exact ⟨⟨xs, owns_gr7 h1 hg (fun g e e' => absurd (owns_ty7 hr h1 e' e) (by decide)), h2⟩, h.r.gr hg hne, below_gr7 h.b hg hr (Nat.le_refl _) h.b.size⟩
theorem own0 {w : World} {lo : Nat} (h : lo ≤ w.heap.size) : (w.alloc (.cells #[] 27)).ownsRow lo 27 2 (.slice (some ⟨w.heap.size, 0, none⟩) 0 0) 0 [] := ⟨rfl, .inr ⟨w.heap.size, 0, #[], rfl, h, heap_alloc_new w _, Nat.le_refl _, by unfold maxLen; omega, rfl, rfl⟩⟩
theorem MatI.more {lo : Nat} {w0 w : World} {m n g cap : Nat} {R : Nat → Nat} {M : Nat → Nat → Int} {ys : List Value} (h : MatI lo w0 w m n R M) (h1 : w.ownsRow lo 27 2 (.slice (some ⟨g, 0, none⟩) n cap) n ys) (h2 : ∀ j, j < n → ∃ b : BV, ys[j * 2]? = some (.bool b.g) ∧ ys[j * 2 + 1]? = some (.slice b.a b.n b.c) ∧ IsB w0 b (M m j)) : MatI lo w0 w (m + 1) n (fun i => if i = m then g else R i) M := by
  have hg := owns_lt7 h1 rfl
  refine ⟨fun i hi => ?_, fun i hi => ?_, fun i j hi hj => ?_⟩
  · by_cases c : i = m
    · rw [if_pos c]; exact ⟨hg.2, hg.1⟩
    · rw [if_neg c]; exact h.rlo i (by omega)
  · by_cases c : i = m
    · rw [if_pos c]
      rcases h1.2 with ⟨h', _⟩ | ⟨g', cap', cur, hv, _, hgt, _⟩
      · simp at h'
      · simp only [Value.slice.injEq, Option.some.injEq, Addr.mk.injEq, and_true, true_and] at hv
        obtain ⟨rfl, _⟩ := hv
        exact ⟨cur, hgt⟩
    · rw [if_neg c]; exact h.ty i (by omega)
  · by_cases c : i = m
    · subst c
      rw [if_pos rfl]
      obtain ⟨b, k1, k2, k3⟩ := h2 j hj
      exact ⟨b, by rw [h1.cellAt _ (by omega)]; exact k1, by rw [h1.cellAt _ (by omega)]; exact k2, k3⟩
    · rw [if_neg c]; exact h.el i j (by omega) hj
theorem mat_end {w0 w : World} {g cap n : Nat} {R : Nat → Nat} {M : Nat → Nat → Int} (h : OutG w0.heap.size w (.slice (some ⟨g, 0, none⟩) n cap) n n R) (hr : MatI w0.heap.size w0 w n n R M) (hb : Below w0.heap.size w0 w) : MatV w (some ⟨g, 0, none⟩) n M := by
  obtain ⟨xs, h1, h2⟩ := h.ex
  have hg := owns_lt7 h1 rfl
  refine ⟨g, 0, rfl, hg.1, fun i hi => ?_⟩
  obtain ⟨c, k1, k2, k3⟩ := h2 i hi
  refine ⟨R i, 0, c, by rw [Nat.zero_add, h1.cellAt _ (by omega)]; exact k1, k2, k3, (hr.rlo i hi).2, fun j hj => ?_⟩
  obtain ⟨b, q1, q2, xs', r1, r2⟩ := hr.el i j hi hj
  exact ⟨b, by rw [Nat.zero_add]; exact q1, by rw [Nat.zero_add]; exact q2, xs', ⟨r1.sg, ⟨r1.ar.sl.later (Nat.le_refl _) hb, r1.ar.len, r1.ar.cap, r1.ar.top, r1.ar.addr⟩⟩, r2⟩
theorem el9 {w : World} {xs : List Value} {n k : Nat} {V : Nat → Int} (hl : xs.length = n * 2) (hk : k < n) (h : ∀ j, j < n → ∃ b : BV, xs[j * 2]? = some (.bool b.g) ∧ xs[j * 2 + 1]? = some (.slice b.a b.n b.c) ∧ IsB w b (V j)) :
    ∀ j, j < n - 1 → ∃ b : BV, (xs.take (k * 2) ++ xs.drop ((k + 1) * 2))[j * 2]? = some (.bool b.g) ∧ (xs.take (k * 2) ++ xs.drop ((k + 1) * 2))[j * 2 + 1]? = some (.slice b.a b.n b.c) ∧ IsB w b (V (if j < k then j else j + 1)) := by
  intro j hj
  have ht : (xs.take (k * 2)).length = k * 2 := by rw [List.length_take]; omega
  by_cases c : j < k
  · rw [if_pos c]
    obtain ⟨b, h1, h2, h3⟩ := h j (by omega)
    exact ⟨b, by rw [List.getElem?_append_left (by omega), List.getElem?_take_of_lt (by omega)]; exact h1, by rw [List.getElem?_append_left (by omega), List.getElem?_take_of_lt (by omega)]; exact h2, h3⟩
  · rw [if_neg c]
    obtain ⟨b, h1, h2, h3⟩ := h (j + 1) (by omega)
    exact ⟨b, by rw [List.getElem?_append_right (by omega), List.getElem?_drop, ht, show (k + 1) * 2 + (j * 2 - k * 2) = (j + 1) * 2 by omega]; exact h1, by rw [List.getElem?_append_right (by omega), List.getElem?_drop, ht, show (k + 1) * 2 + (j * 2 + 1 - k * 2) = (j + 1) * 2 + 1 by omega]; exact h2, h3⟩
theorem cells9 {w0 w : World} {Ri o d : Nat} {xs : List Value} (hr : Ri < w0.heap.size) (hb : Below w0.heap.size w0 w) (x2 : ∀ j u, xs[j]? = some u → w0.cell? ⟨Ri, o + j, none⟩ = some u) : ∀ j u, (xs.drop d)[j]? = some u → w.cell? ((⟨Ri, o + d, none⟩ : Addr).add j) = some u := by
  intro j v hv
  rw [List.getElem?_drop] at hv
  have q := x2 (d + j) v hv
  have hadd : (⟨Ri, o + d, none⟩ : Addr).add j = ⟨Ri, o + (d + j), none⟩ := by unfold Addr.add; split <;> simp_all <;> omega
  rw [hadd]
  exact (hb.cell (p := ⟨Ri, o + (d + j), none⟩) hr).trans q
theorem cells9t {w0 w : World} {Ri o d : Nat} {xs : List Value} (hr : Ri < w0.heap.size) (hb : Below w0.heap.size w0 w) (x2 : ∀ j u, xs[j]? = some u → w0.cell? ⟨Ri, o + j, none⟩ = some u) : ∀ j u, (xs.take d)[j]? = some u → w.cell? ((⟨Ri, o, none⟩ : Addr).add j) = some u := by
  intro j v hv
  have hv' : xs[j]? = some v := by
    rw [List.getElem?_take] at hv
    split at hv
    · exact hv
    · cases hv
  have q := x2 j v hv'
  have hadd : (⟨Ri, o, none⟩ : Addr).add j = ⟨Ri, o + j, none⟩ := by unfold Addr.add; split <;> simp_all <;> omega
  rw [hadd]
  exact (hb.cell (p := ⟨Ri, o + j, none⟩) hr).trans q
set_option maxHeartbeats 8000000 in
theorem minorS_0 (a : Option Addr) (n c : Nat) (M : Nat → Nat → Int) (w : World) (h : MatV w a n M) (h2 : 2 ≤ n) (hn : n ≤ 8) (hc : n ≤ c) (hc2 : c ≤ maxLen) :
    Calls Try.prog 94 #[.slice a n c, .int .i64 0] w fun e w' => ∃ g cap, e = .returned (.slice (some ⟨g, 0, none⟩) (n - 1) cap) ∧ n - 1 ≤ cap ∧ cap ≤ maxLen ∧ Below w.heap.size w w' ∧ MatV w' (some ⟨g, 0, none⟩) (n - 1) (mn7 M 0) := by
  obtain ⟨G0, off, rfl, hG, h⟩ := h
  have HV := hide h
  clear h
  have hc3 : c ≤ 9223372036854775807 := by unfold maxLen at hc2; omega
  clear hc2
  obtain ⟨i0, hi0, hz0, hz1, hz2⟩ := info_parts Try.info33
  obtain ⟨i1, hi1, hy0, hy1, hy2⟩ := info_parts Try.info27
  have I0 := hide (And.intro hi0 (And.intro hz0 (And.intro hz1 hz2)))
  have I1 := hide (And.intro hi1 (And.intro hy0 (And.intro hy1 hy2)))
  clear hi0 hz0 hz1 hz2 hi1 hy0 hy1 hy2
  go_enter Try.func94, Try.ntmps94
  go_wp2
  go_loopw [5, 12] (fun vo iv wr => ∃ (i : Nat) (R : Nat → Nat), i ≤ n - 1 ∧ iv = .int .i64 i ∧ Hid (OutG w.heap.size wr vo i (n - 1) R) ∧ Hid (MatI w.heap.size w wr i (n - 1) R (mn7 M 0)) ∧ Hid (Below w.heap.size w wr)) (fun _ iv _ => (n - 1) - (intOf iv).toNat)
  case atStart => exact ⟨0, fun _ => 0, Nat.zero_le _, rfl, hide (OutG.nil _ _ _ _), hide ⟨fun i h => by omega, fun i h => by omega, fun i j h => by omega⟩, hide (Below.refl _ _)⟩
  case round =>
    obtain ⟨i, R, hi, rfl, HO, HR, HB⟩ := hrel
    by_cases hlt : i < n - 1
    · have hlt' : (i : Int) < ((n - 1 : Nat) : Int) := by omega
      have hlt2 : (i : Int) < (n : Int) - 1 := by omega
      obtain ⟨Ri, o, ci, e1, e2, e3, hr, e5⟩ := (unhide HV) (i + 1) (by omega)
      have E0 : wr.cell? ⟨G0, off + (i + 1), none⟩ = some (.slice (some ⟨Ri, o, none⟩) n ci) := ((unhide HB).cell (p := ⟨G0, off + (i + 1), none⟩) hG).trans e1
      have E0' : wr.cell? ⟨G0, off + 1 + i, none⟩ = some (.slice (some ⟨Ri, o, none⟩) n ci) := by rw [show off + 1 + i = off + (i + 1) by omega]; exact E0
      obtain ⟨xs, x1, x2, x3, x4⟩ := row_list e5
      have ci3 : ci ≤ 9223372036854775807 := by unfold maxLen at e3; omega
      clear e1 e3 e5
      have X1 := hide x1
      have X2 := hide x2
      have X3 := hide x3
      have X4 := hide x4
      clear x1 x2 x3 x4
      have szr := (unhide HB).size
      have ST0 : Hid (Sta9 w wr u5 i (n - 1) R (mn7 M 0)) := hide ⟨unhide HO, unhide HR, unhide HB⟩
      clear HO HR HB
      have hba : Below wr.heap.size wr (wr.alloc (.cells #[] 27)) := (Below.refl _ _).alloc (Nat.le_refl _) _
      have ST1 := hide ((unhide ST0).later hba)
      have OW1 := hide (own0 (w := wr) szr)
      have NE1 : Hid (∀ t, t < i → (Value.slice (some ⟨wr.heap.size, 0, none⟩) 0 0).ownBlock ≠ some (R t)) := hide (fun t ht e => by
        have := ((unhide ST0).r.rlo t ht).2
        simp only [Value.ownBlock, Option.some.injEq] at e
        omega)
      have SZ0 : Hid (∀ t, t < i → R t < wr.heap.size) := hide (fun t ht => ((unhide ST0).r.rlo t ht).2)
      clear hba ST0
      · skip
        go_wp2_with (at_builtin; refine wpList_append_lies _ rfl (.tmp 22) (.tmp 26) 33 rfl w.heap.size 27 i1 (.agg #[.bool false, .slice none 0 0]) 2 32 Try.underlying33 (unhide I1).1 (unhide I1).2.1 (unhide I1).2.2.1 (unhide I1).2.2.2 rfl (by decide) (.slice (some ⟨wr.heap.size, 0, none⟩) 0 0) 0 [] rfl (unhide OW1) ⟨Ri, o + 2, none⟩ (n - 1) (ci - 1) (xs.drop 2) rfl ?n1 ?n2 ?n3 (by omega) (by unfold maxLen; omega) (by omega) ?n4 (wr.heap.size + 1) ?n5 ?_; rotate_right; intro g cap w4 hown hgrow hor hglt; refine unhide ?_)
        case n1 => rw [List.length_drop, unhide X1]; omega
        case n2 => exact cells9 hr (unhide ST1).b (unhide X2)
        case n3 => exact fun v hv => (unhide X3) v (List.mem_of_mem_drop hv)
        case n4 => simp; omega
        case n5 => simp
        have ST := hide ((unhide ST1).gr (unhide OW1) hgrow (unhide NE1))
        have OW : Hid (w4.ownsRow w.heap.size 27 2 (.slice (some ⟨g, 0, none⟩) (n - 1) cap) (n - 1) (xs.take (0 * 2) ++ xs.drop ((0 + 1) * 2))) := hide (by simpa using hown)
        have EL := hide (el9 (unhide X1) (k := 0) (by omega) (unhide X4))
        clear hown hgrow hor hglt OW1 ST1 NE1 SZ0 X1 X2 X3 X4
        try simp only [Nat.zero_add]
        refine hide ?_
        have CP : Hid (n - 1 ≤ cap ∧ cap ≤ maxLen) := hide (by
          rcases (unhide OW).2 with ⟨h', _⟩ | ⟨g', cap', cur, hv, _, _, hc1, hc2, _⟩
          · simp at h'
          · simp only [Value.slice.injEq, Option.some.injEq, Addr.mk.injEq, and_true, true_and] at hv
            rw [hv.2]; exact ⟨hc1, hc2⟩)
        have R1 := hide ((unhide ST).r.more (unhide OW) (unhide EL))
        have hb3 : Below w4.heap.size w4 (w4.alloc (.cells #[.slice (some ⟨g, 0, none⟩) (n - 1) cap] 33)) := (Below.refl _ _).alloc (Nat.le_refl _) _
        have sz3 : (w4.alloc (.cells #[.slice (some ⟨g, 0, none⟩) (n - 1) cap] 33)).heap.size = w4.heap.size + 1 := by simp
        have szB := (unhide ST).b.size
        have R3 := hide ((unhide R1).later hb3)
        have HO3 := hide ((unhide ST).o.later hb3)
        have HB3 := hide (below_on (unhide ST).b hb3)
        obtain ⟨zs, y1, y2⟩ := (unhide HO3).ex
        have Y1 := hide y1
        have Y2 := hide y2
        clear y1 y2 ST OW EL R1 hb3
        go_wp2_with (at_builtin; refine wpList_append_lies _ rfl (.tmp 21) (.tmp 28) 23 rfl w.heap.size 33 i0 (.slice none 0 0) 1 24 Try.underlying23 (unhide I0).1 (unhide I0).2.1 (unhide I0).2.2.1 (unhide I0).2.2.2 rfl (by decide) (u5) i zs rfl (unhide Y1) ⟨w4.heap.size, 0, none⟩ 1 1 [.slice (some ⟨g, 0, none⟩) (n - 1) cap] rfl rfl (World.news_of_block (cs := #[.slice (some ⟨g, 0, none⟩) (n - 1) cap]) (t := 33) (fr := (0, 0)) (heap_alloc_new w4 _)) (by intro u' hu'; simp at hu'; rw [hu']; rfl) (by omega) (by unfold maxLen; omega) (by omega) (by omega) (w4.heap.size + 1) (by simp) ?_; intro g2 cap2 w7 hown hgrow hor hglt)
        have RO := hide (OutG.app (unhide Y1) (unhide Y2) (unhide CP) hown)
        have RR := hide ((unhide R3).gr hgrow (fun t ht e => by
          obtain ⟨cur, hq⟩ := (unhide R3).ty t ht
          rcases (unhide Y1).2 with ⟨h', _⟩ | ⟨g', cap', cur', hv, _, hgt, _⟩
          · rw [h'] at e; simp [Value.ownBlock] at e
          · rw [hv] at e
            simp only [Value.ownBlock, Option.some.injEq] at e
            rw [e, hq] at hgt
            simp only [Option.some.injEq, Obj.cells.injEq] at hgt
            exact absurd hgt.2.1 (by decide)))
        have RB := hide (below_gr7 (unhide HB3) hgrow (unhide Y1) (Nat.le_refl _) (unhide HB3).size)
        clear hown hgrow hor hglt Y1 Y2 HO3 R3 HB3
        go_wp2
        go_roundw
        case rel => exact ⟨i + 1, _, by omega, by go_num, RO, RR, RB⟩
        case measure => simp [intOf]; omega
    · obtain rfl : i = n - 1 := by omega
      obtain ⟨g, cap, rfl⟩ := (unhide HO).form (by omega)
      go_wp2
      go_ret
      have CP : n - 1 ≤ cap ∧ cap ≤ maxLen := by
        obtain ⟨xs, h1, _⟩ := (unhide HO).ex
        rcases h1.2 with ⟨h', _⟩ | ⟨g', cap', cur, hv, _, _, hc1, hc2, _⟩
        · simp at h'
        · simp only [Value.slice.injEq, Option.some.injEq, Addr.mk.injEq, and_true, true_and] at hv
          rw [hv.2]; exact ⟨hc1, hc2⟩
      exact ⟨g, cap, rfl, CP.1, CP.2, unhide HB, mat_end (unhide HO) (unhide HR) (unhide HB)⟩
set_option maxHeartbeats 8000000 in
theorem minorS_p (a : Option Addr) (n c k : Nat) (M : Nat → Nat → Int) (w : World) (h : MatV w a n M) (h2 : 2 ≤ n) (hn : n ≤ 8) (hk : k < n) (hk0 : 0 < k) (hc : n ≤ c) (hc2 : c ≤ maxLen) :
    Calls Try.prog 94 #[.slice a n c, .int .i64 k] w fun e w' => ∃ g cap, e = .returned (.slice (some ⟨g, 0, none⟩) (n - 1) cap) ∧ n - 1 ≤ cap ∧ cap ≤ maxLen ∧ Below w.heap.size w w' ∧ MatV w' (some ⟨g, 0, none⟩) (n - 1) (mn7 M k) := by
  obtain ⟨G0, off, rfl, hG, h⟩ := h
  have HV := hide h
  clear h
  have hc3 : c ≤ 9223372036854775807 := by unfold maxLen at hc2; omega
  clear hc2
  obtain ⟨i0, hi0, hz0, hz1, hz2⟩ := info_parts Try.info33
  obtain ⟨i1, hi1, hy0, hy1, hy2⟩ := info_parts Try.info27
  have I0 := hide (And.intro hi0 (And.intro hz0 (And.intro hz1 hz2)))
  have I1 := hide (And.intro hi1 (And.intro hy0 (And.intro hy1 hy2)))
  clear hi0 hz0 hz1 hz2 hi1 hy0 hy1 hy2
  go_enter Try.func94, Try.ntmps94
  go_wp2
  go_loopw [5, 12] (fun vo iv wr => ∃ (i : Nat) (R : Nat → Nat), i ≤ n - 1 ∧ iv = .int .i64 i ∧ Hid (OutG w.heap.size wr vo i (n - 1) R) ∧ Hid (MatI w.heap.size w wr i (n - 1) R (mn7 M k)) ∧ Hid (Below w.heap.size w wr)) (fun _ iv _ => (n - 1) - (intOf iv).toNat)
  case atStart => exact ⟨0, fun _ => 0, Nat.zero_le _, rfl, hide (OutG.nil _ _ _ _), hide ⟨fun i h => by omega, fun i h => by omega, fun i j h => by omega⟩, hide (Below.refl _ _)⟩
  case round =>
    obtain ⟨i, R, hi, rfl, HO, HR, HB⟩ := hrel
    by_cases hlt : i < n - 1
    · have hlt' : (i : Int) < ((n - 1 : Nat) : Int) := by omega
      have hlt2 : (i : Int) < (n : Int) - 1 := by omega
      obtain ⟨Ri, o, ci, e1, e2, e3, hr, e5⟩ := (unhide HV) (i + 1) (by omega)
      have E0 : wr.cell? ⟨G0, off + (i + 1), none⟩ = some (.slice (some ⟨Ri, o, none⟩) n ci) := ((unhide HB).cell (p := ⟨G0, off + (i + 1), none⟩) hG).trans e1
      have E0' : wr.cell? ⟨G0, off + 1 + i, none⟩ = some (.slice (some ⟨Ri, o, none⟩) n ci) := by rw [show off + 1 + i = off + (i + 1) by omega]; exact E0
      obtain ⟨xs, x1, x2, x3, x4⟩ := row_list e5
      have ci3 : ci ≤ 9223372036854775807 := by unfold maxLen at e3; omega
      clear e1 e3 e5
      have X1 := hide x1
      have X2 := hide x2
      have X3 := hide x3
      have X4 := hide x4
      clear x1 x2 x3 x4
      have szr := (unhide HB).size
      have ST0 : Hid (Sta9 w wr u5 i (n - 1) R (mn7 M k)) := hide ⟨unhide HO, unhide HR, unhide HB⟩
      clear HO HR HB
      have hba : Below wr.heap.size wr (wr.alloc (.cells #[] 27)) := (Below.refl _ _).alloc (Nat.le_refl _) _
      have ST1 := hide ((unhide ST0).later hba)
      have OW1 := hide (own0 (w := wr) szr)
      have NE1 : Hid (∀ t, t < i → (Value.slice (some ⟨wr.heap.size, 0, none⟩) 0 0).ownBlock ≠ some (R t)) := hide (fun t ht e => by
        have := ((unhide ST0).r.rlo t ht).2
        simp only [Value.ownBlock, Option.some.injEq] at e
        omega)
      have SZ0 : Hid (∀ t, t < i → R t < wr.heap.size) := hide (fun t ht => ((unhide ST0).r.rlo t ht).2)
      clear hba ST0
      by_cases hkn : k + 1 = n
      · obtain ⟨N', rfl⟩ : ∃ N', k = N' := ⟨_, rfl⟩
        have hkk : k = n - 1 := by omega
        subst hkk
        have hz : n - (n - 1 + 1) = 0 := by omega
        have hz2 : ((n - 1 : Nat) : Int) + 1 = (n : Int) := by omega
        go_wp2_with (at_builtin; refine wpList_append_lies _ rfl (.tmp 16) (.tmp 19) 33 rfl w.heap.size 27 i1 (.agg #[.bool false, .slice none 0 0]) 2 32 Try.underlying33 (unhide I1).1 (unhide I1).2.1 (unhide I1).2.2.1 (unhide I1).2.2.2 rfl (by decide) (.slice (some ⟨wr.heap.size, 0, none⟩) 0 0) 0 [] rfl (unhide OW1) ⟨Ri, o, none⟩ (n - 1) ci (xs.take ((n - 1) * 2)) rfl ?n1 ?n2 ?n3 (by omega) (by unfold maxLen; omega) (by omega) ?n4 (wr.heap.size + 1) ?n5 ?_; rotate_right; intro g1 cap1 w3 hown hgrow hor hglt; refine unhide ?_)
        case n1 => rw [List.length_take, unhide X1]; omega
        case n2 => exact cells9t hr (unhide ST1).b (unhide X2)
        case n3 => exact fun v hv => (unhide X3) v (List.mem_of_mem_take hv)
        case n4 => simp; omega
        case n5 => simp
        have ST2 := hide ((unhide ST1).gr (unhide OW1) hgrow (unhide NE1))
        have OW2 : Hid (w3.ownsRow w.heap.size 27 2 (.slice (some ⟨g1, 0, none⟩) (n - 1) cap1) (n - 1) (xs.take ((n - 1) * 2))) := hide (by simpa using hown)
        have G1 : wr.heap.size ≤ g1 := by
          rcases hor with e | e
          · simp only [Value.ownBlock, Option.some.injEq] at e
            omega
          · omega
        have NE2 : Hid (∀ t, t < i → (Value.slice (some ⟨g1, 0, none⟩) (n - 1) cap1).ownBlock ≠ some (R t)) := hide (fun t ht e => by
          have := (unhide SZ0) t ht
          simp only [Value.ownBlock, Option.some.injEq] at e
          omega)
        clear hown hgrow hor hglt OW1 ST1 NE1 SZ0
        try simp only [Nat.zero_add]
        refine hide ?_
        have ST := ST2
        have OW : Hid (w3.ownsRow w.heap.size 27 2 (.slice (some ⟨g1, 0, none⟩) (n - 1) cap1) (n - 1) (xs.take ((n - 1) * 2) ++ xs.drop ((n - 1 + 1) * 2))) := hide (by
          rw [List.drop_eq_nil_of_le (by rw [unhide X1]; omega), List.append_nil]
          exact unhide OW2)
        have EL := hide (el9 (unhide X1) hk (unhide X4))
        obtain ⟨g, hg⟩ : ∃ g, g = g1 := ⟨_, rfl⟩
        obtain ⟨cap, hcap⟩ : ∃ cap, cap = cap1 := ⟨_, rfl⟩
        subst hg hcap
        clear OW2 ST2 NE2 X1 X2 X3 X4
        have cp1 : n - 1 ≤ cap := by
          rcases (unhide OW).2 with ⟨h', _⟩ | ⟨g', cap', cur, hv, _, _, hc1, hc2, _⟩
          · simp at h'
          · simp only [Value.slice.injEq, Option.some.injEq, Addr.mk.injEq, and_true, true_and] at hv
            rw [hv.2]; exact hc1
        have hst : ∀ w, Sem.run Try.prog (storeCells ⟨g, (n - 1) * 2, none⟩ []) w = Result.ok () w := fun w => by simp [storeCells, go_sem]
        by_cases hcn : ci = n
        · skip
          have CP : Hid (n - 1 ≤ cap ∧ cap ≤ maxLen) := hide (by
            rcases (unhide OW).2 with ⟨h', _⟩ | ⟨g', cap', cur, hv, _, _, hc1, hc2, _⟩
            · simp at h'
            · simp only [Value.slice.injEq, Option.some.injEq, Addr.mk.injEq, and_true, true_and] at hv
              rw [hv.2]; exact ⟨hc1, hc2⟩)
          have R1 := hide ((unhide ST).r.more (unhide OW) (unhide EL))
          have hb3 : Below w3.heap.size w3 (w3.alloc (.cells #[.slice (some ⟨g, 0, none⟩) (n - 1) cap] 33)) := (Below.refl _ _).alloc (Nat.le_refl _) _
          have sz3 : (w3.alloc (.cells #[.slice (some ⟨g, 0, none⟩) (n - 1) cap] 33)).heap.size = w3.heap.size + 1 := by simp
          have szB := (unhide ST).b.size
          have R3 := hide ((unhide R1).later hb3)
          have HO3 := hide ((unhide ST).o.later hb3)
          have HB3 := hide (below_on (unhide ST).b hb3)
          obtain ⟨zs, y1, y2⟩ := (unhide HO3).ex
          have Y1 := hide y1
          have Y2 := hide y2
          clear y1 y2 ST OW EL R1 hb3
          go_wp2_with (at_builtin; refine wpList_append_lies _ rfl (.tmp 21) (.tmp 28) 23 rfl w.heap.size 33 i0 (.slice none 0 0) 1 24 Try.underlying23 (unhide I0).1 (unhide I0).2.1 (unhide I0).2.2.1 (unhide I0).2.2.2 rfl (by decide) (u5) i zs rfl (unhide Y1) ⟨w3.heap.size, 0, none⟩ 1 1 [.slice (some ⟨g, 0, none⟩) (n - 1) cap] rfl rfl (World.news_of_block (cs := #[.slice (some ⟨g, 0, none⟩) (n - 1) cap]) (t := 33) (fr := (0, 0)) (heap_alloc_new w3 _)) (by intro u' hu'; simp at hu'; rw [hu']; rfl) (by omega) (by unfold maxLen; omega) (by omega) (by omega) (w3.heap.size + 1) (by simp) ?_; intro g2 cap2 w7 hown hgrow hor hglt)
          have RO := hide (OutG.app (unhide Y1) (unhide Y2) (unhide CP) hown)
          have RR := hide ((unhide R3).gr hgrow (fun t ht e => by
            obtain ⟨cur, hq⟩ := (unhide R3).ty t ht
            rcases (unhide Y1).2 with ⟨h', _⟩ | ⟨g', cap', cur', hv, _, hgt, _⟩
            · rw [h'] at e; simp [Value.ownBlock] at e
            · rw [hv] at e
              simp only [Value.ownBlock, Option.some.injEq] at e
              rw [e, hq] at hgt
              simp only [Option.some.injEq, Obj.cells.injEq] at hgt
              exact absurd hgt.2.1 (by decide)))
          have RB := hide (below_gr7 (unhide HB3) hgrow (unhide Y1) (Nat.le_refl _) (unhide HB3).size)
          clear hown hgrow hor hglt Y1 Y2 HO3 R3 HB3
          go_wp2
          go_roundw
          case rel => exact ⟨i + 1, _, by omega, by go_num, RO, RR, RB⟩
          case measure => simp [intOf]; omega
        have hcl : n < ci := by omega
        · skip
          have CP : Hid (n - 1 ≤ cap ∧ cap ≤ maxLen) := hide (by
            rcases (unhide OW).2 with ⟨h', _⟩ | ⟨g', cap', cur, hv, _, _, hc1, hc2, _⟩
            · simp at h'
            · simp only [Value.slice.injEq, Option.some.injEq, Addr.mk.injEq, and_true, true_and] at hv
              rw [hv.2]; exact ⟨hc1, hc2⟩)
          have R1 := hide ((unhide ST).r.more (unhide OW) (unhide EL))
          have hb3 : Below w3.heap.size w3 (w3.alloc (.cells #[.slice (some ⟨g, 0, none⟩) (n - 1) cap] 33)) := (Below.refl _ _).alloc (Nat.le_refl _) _
          have sz3 : (w3.alloc (.cells #[.slice (some ⟨g, 0, none⟩) (n - 1) cap] 33)).heap.size = w3.heap.size + 1 := by simp
          have szB := (unhide ST).b.size
          have R3 := hide ((unhide R1).later hb3)
          have HO3 := hide ((unhide ST).o.later hb3)
          have HB3 := hide (below_on (unhide ST).b hb3)
          obtain ⟨zs, y1, y2⟩ := (unhide HO3).ex
          have Y1 := hide y1
          have Y2 := hide y2
          clear y1 y2 ST OW EL R1 hb3
          go_wp2_with (at_builtin; refine wpList_append_lies _ rfl (.tmp 21) (.tmp 28) 23 rfl w.heap.size 33 i0 (.slice none 0 0) 1 24 Try.underlying23 (unhide I0).1 (unhide I0).2.1 (unhide I0).2.2.1 (unhide I0).2.2.2 rfl (by decide) (u5) i zs rfl (unhide Y1) ⟨w3.heap.size, 0, none⟩ 1 1 [.slice (some ⟨g, 0, none⟩) (n - 1) cap] rfl rfl (World.news_of_block (cs := #[.slice (some ⟨g, 0, none⟩) (n - 1) cap]) (t := 33) (fr := (0, 0)) (heap_alloc_new w3 _)) (by intro u' hu'; simp at hu'; rw [hu']; rfl) (by omega) (by unfold maxLen; omega) (by omega) (by omega) (w3.heap.size + 1) (by simp) ?_; intro g2 cap2 w7 hown hgrow hor hglt)
          have RO := hide (OutG.app (unhide Y1) (unhide Y2) (unhide CP) hown)
          have RR := hide ((unhide R3).gr hgrow (fun t ht e => by
            obtain ⟨cur, hq⟩ := (unhide R3).ty t ht
            rcases (unhide Y1).2 with ⟨h', _⟩ | ⟨g', cap', cur', hv, _, hgt, _⟩
            · rw [h'] at e; simp [Value.ownBlock] at e
            · rw [hv] at e
              simp only [Value.ownBlock, Option.some.injEq] at e
              rw [e, hq] at hgt
              simp only [Option.some.injEq, Obj.cells.injEq] at hgt
              exact absurd hgt.2.1 (by decide)))
          have RB := hide (below_gr7 (unhide HB3) hgrow (unhide Y1) (Nat.le_refl _) (unhide HB3).size)
          clear hown hgrow hor hglt Y1 Y2 HO3 R3 HB3
          go_wp2
          go_roundw
          case rel => exact ⟨i + 1, _, by omega, by go_num, RO, RR, RB⟩
          case measure => simp [intOf]; omega
      have hkn' : k + 1 < n := by omega
      have hkz : ((k : Int) + 1) < (n : Int) := by omega
      have hk1 : ((k : Int) + 1).toNat = k + 1 := by omega
      · skip
        go_wp2_with (at_builtin; refine wpList_append_lies _ rfl (.tmp 16) (.tmp 19) 33 rfl w.heap.size 27 i1 (.agg #[.bool false, .slice none 0 0]) 2 32 Try.underlying33 (unhide I1).1 (unhide I1).2.1 (unhide I1).2.2.1 (unhide I1).2.2.2 rfl (by decide) (.slice (some ⟨wr.heap.size, 0, none⟩) 0 0) 0 [] rfl (unhide OW1) ⟨Ri, o, none⟩ k ci (xs.take (k * 2)) rfl ?n1 ?n2 ?n3 (by omega) (by unfold maxLen; omega) (by omega) ?n4 (wr.heap.size + 1) ?n5 ?_; rotate_right; intro g1 cap1 w3 hown hgrow hor hglt; refine unhide ?_)
        case n1 => rw [List.length_take, unhide X1]; omega
        case n2 => exact cells9t hr (unhide ST1).b (unhide X2)
        case n3 => exact fun v hv => (unhide X3) v (List.mem_of_mem_take hv)
        case n4 => simp; omega
        case n5 => simp
        have ST2 := hide ((unhide ST1).gr (unhide OW1) hgrow (unhide NE1))
        have OW2 : Hid (w3.ownsRow w.heap.size 27 2 (.slice (some ⟨g1, 0, none⟩) (k) cap1) (k) (xs.take (k * 2))) := hide (by simpa using hown)
        have G1 : wr.heap.size ≤ g1 := by
          rcases hor with e | e
          · simp only [Value.ownBlock, Option.some.injEq] at e
            omega
          · omega
        have NE2 : Hid (∀ t, t < i → (Value.slice (some ⟨g1, 0, none⟩) (k) cap1).ownBlock ≠ some (R t)) := hide (fun t ht e => by
          have := (unhide SZ0) t ht
          simp only [Value.ownBlock, Option.some.injEq] at e
          omega)
        clear hown hgrow hor hglt OW1 ST1 NE1 SZ0
        try simp only [Nat.zero_add]
        refine hide ?_
        have sz3w := (unhide ST2).b.size
        go_wp2_with (at_builtin; refine wpList_append_lies _ rfl (.tmp 22) (.tmp 26) 33 rfl w.heap.size 27 i1 (.agg #[.bool false, .slice none 0 0]) 2 32 Try.underlying33 (unhide I1).1 (unhide I1).2.1 (unhide I1).2.2.1 (unhide I1).2.2.2 rfl (by decide) (.slice (some ⟨g1, 0, none⟩) k cap1) k (xs.take (k * 2)) rfl (unhide OW2) ⟨Ri, o + (k + 1) * 2, none⟩ (n - (k + 1)) (ci - (k + 1)) (xs.drop ((k + 1) * 2)) rfl ?n1 ?n2 ?n3 (by omega) (by unfold maxLen; omega) (by omega) ?n4 (w3.heap.size) ?n5 ?_; rotate_right; intro g cap w4 hown hgrow hor hglt; refine unhide ?_)
        case n1 => rw [List.length_drop, unhide X1]; omega
        case n2 => exact cells9 hr (unhide ST2).b (unhide X2)
        case n3 => exact fun v hv => (unhide X3) v (List.mem_of_mem_drop hv)
        case n4 => exact sz3w
        case n5 => rfl
        have ekn : k + (n - (k + 1)) = n - 1 := by omega
        rw [ekn] at hown
        simp only [ekn]
        have ST := hide ((unhide ST2).gr (unhide OW2) hgrow (unhide NE2))
        have OW := hide hown
        have EL := hide (el9 (unhide X1) hk (unhide X4))
        clear hown hgrow hor hglt OW2 ST2 NE2 X1 X2 X3 X4 ekn
        refine hide ?_
        have CP : Hid (n - 1 ≤ cap ∧ cap ≤ maxLen) := hide (by
          rcases (unhide OW).2 with ⟨h', _⟩ | ⟨g', cap', cur, hv, _, _, hc1, hc2, _⟩
          · simp at h'
          · simp only [Value.slice.injEq, Option.some.injEq, Addr.mk.injEq, and_true, true_and] at hv
            rw [hv.2]; exact ⟨hc1, hc2⟩)
        have R1 := hide ((unhide ST).r.more (unhide OW) (unhide EL))
        have hb3 : Below w4.heap.size w4 (w4.alloc (.cells #[.slice (some ⟨g, 0, none⟩) (n - 1) cap] 33)) := (Below.refl _ _).alloc (Nat.le_refl _) _
        have sz3 : (w4.alloc (.cells #[.slice (some ⟨g, 0, none⟩) (n - 1) cap] 33)).heap.size = w4.heap.size + 1 := by simp
        have szB := (unhide ST).b.size
        have R3 := hide ((unhide R1).later hb3)
        have HO3 := hide ((unhide ST).o.later hb3)
        have HB3 := hide (below_on (unhide ST).b hb3)
        obtain ⟨zs, y1, y2⟩ := (unhide HO3).ex
        have Y1 := hide y1
        have Y2 := hide y2
        clear y1 y2 ST OW EL R1 hb3
        go_wp2_with (at_builtin; refine wpList_append_lies _ rfl (.tmp 21) (.tmp 28) 23 rfl w.heap.size 33 i0 (.slice none 0 0) 1 24 Try.underlying23 (unhide I0).1 (unhide I0).2.1 (unhide I0).2.2.1 (unhide I0).2.2.2 rfl (by decide) (u5) i zs rfl (unhide Y1) ⟨w4.heap.size, 0, none⟩ 1 1 [.slice (some ⟨g, 0, none⟩) (n - 1) cap] rfl rfl (World.news_of_block (cs := #[.slice (some ⟨g, 0, none⟩) (n - 1) cap]) (t := 33) (fr := (0, 0)) (heap_alloc_new w4 _)) (by intro u' hu'; simp at hu'; rw [hu']; rfl) (by omega) (by unfold maxLen; omega) (by omega) (by omega) (w4.heap.size + 1) (by simp) ?_; intro g2 cap2 w7 hown hgrow hor hglt)
        have RO := hide (OutG.app (unhide Y1) (unhide Y2) (unhide CP) hown)
        have RR := hide ((unhide R3).gr hgrow (fun t ht e => by
          obtain ⟨cur, hq⟩ := (unhide R3).ty t ht
          rcases (unhide Y1).2 with ⟨h', _⟩ | ⟨g', cap', cur', hv, _, hgt, _⟩
          · rw [h'] at e; simp [Value.ownBlock] at e
          · rw [hv] at e
            simp only [Value.ownBlock, Option.some.injEq] at e
            rw [e, hq] at hgt
            simp only [Option.some.injEq, Obj.cells.injEq] at hgt
            exact absurd hgt.2.1 (by decide)))
        have RB := hide (below_gr7 (unhide HB3) hgrow (unhide Y1) (Nat.le_refl _) (unhide HB3).size)
        clear hown hgrow hor hglt Y1 Y2 HO3 R3 HB3
        go_wp2
        go_roundw
        case rel => exact ⟨i + 1, _, by omega, by go_num, RO, RR, RB⟩
        case measure => simp [intOf]; omega
    · obtain rfl : i = n - 1 := by omega
      obtain ⟨g, cap, rfl⟩ := (unhide HO).form (by omega)
      go_wp2
      go_ret
      have CP : n - 1 ≤ cap ∧ cap ≤ maxLen := by
        obtain ⟨xs, h1, _⟩ := (unhide HO).ex
        rcases h1.2 with ⟨h', _⟩ | ⟨g', cap', cur, hv, _, _, hc1, hc2, _⟩
        · simp at h'
        · simp only [Value.slice.injEq, Option.some.injEq, Addr.mk.injEq, and_true, true_and] at hv
          rw [hv.2]; exact ⟨hc1, hc2⟩
      exact ⟨g, cap, rfl, CP.1, CP.2, unhide HB, mat_end (unhide HO) (unhide HR) (unhide HB)⟩
end Go.Proofs.Ytaaajmdneaaeeaa
namespace Go.Proofs.Ytaaajmdneaaeeaa
open Go.RowKit
set_option linter.unusedVariables false
set_option maxRecDepth 100000
set_option linter.unusedSimpArgs false

theorem minorS_v (a : Option Addr) (n c k : Nat) (M : Nat → Nat → Int) (w : World) (h : MatV w a n M) (h2 : 2 ≤ n) (hn : n ≤ 8) (hk : k < n) (hc : n ≤ c) (hc2 : c ≤ maxLen) :
    Calls Try.prog 94 #[.slice a n c, .int .i64 k] w fun e w' => ∃ g cap, e = .returned (.slice (some ⟨g, 0, none⟩) (n - 1) cap) ∧ n - 1 ≤ cap ∧ cap ≤ maxLen ∧ Below w.heap.size w w' ∧ MatV w' (some ⟨g, 0, none⟩) (n - 1) (mn7 M k) := by
  by_cases h0 : k = 0
  · subst h0; exact minorS_0 a n c M w h h2 hn hc hc2
  · exact minorS_p a n c k M w h h2 hn hk (by omega) hc hc2
/-- The sum of the parts of the first columns. -/
def pD (M : Nat → Nat → Int) (n k : Nat) : Int := sumTo k (fun k => alt k * M 0 k * dP (mn7 M k) (n - 1))
theorem pD_full (M : Nat → Nat → Int) (n : Nat) (h : 1 ≤ n) : pD M n n = dP M n := by
  obtain ⟨m, rfl⟩ : ∃ m, n = m + 1 := ⟨n - 1, by omega⟩
  rw [dP_succ]; rfl
theorem pD_next (M : Nat → Nat → Int) (n k : Nat) : pD M n (k + 1) = pD M n k + alt k * (M 0 k * dP (mn7 M k) (n - 1)) := by
  unfold pD; simp only [sumTo]; rw [Int.mul_assoc]
theorem dP_bd {M : Nat → Nat → Int} {n : Nat} (hn : n ≤ 8) (bd : ∀ i j, Bd (M i j) 3) : Bd (dP M n) 25 := by
  rw [← dS_full M n hn]
  exact dS_abs hn (by have : 0 < 2 ^ n := Nat.pow_pos (by omega); omega) bd
theorem pD_abs {M : Nat → Nat → Int} {n : Nat} (hn : n ≤ 8) (bd : ∀ i j, Bd (M i j) 3) (k : Nat) : (pD M n k).natAbs ≤ k * 65536 ^ 28 := by
  refine sumTo_abs k _ _ (fun i _ => ?_)
  have h1 := Nat.le_of_lt ((bd 0 i).mul (dP_bd (M := mn7 M i) (n := n - 1) (by omega) (fun _ _ => bd _ _))).lt
  rw [Int.mul_assoc]
  unfold alt
  split
  · rw [Int.one_mul]; exact h1
  · rw [Int.neg_mul, Int.one_mul, Int.natAbs_neg]; exact h1
theorem matV_below {w w' : World} {a : Option Addr} {n : Nat} {M : Nat → Nat → Int} (h : MatV w a n M) (hb : Below w.heap.size w w') : MatV w' a n M := h.later hb
/-- The recursion's claim. -/
def Rec7 (n : Nat) : Prop := ∀ (a : Option Addr) (c : Nat) (M : Nat → Nat → Int) (w : World), MatV w a n M → n ≤ c → c ≤ maxLen → (∀ i j, Bd (M i j) 3) → Calls Try.prog 53 #[.slice a n c] w (OutN w (dP M n))
set_option maxHeartbeats 8000000 in
theorem parts_one (a : Option Addr) (c : Nat) (M : Nat → Nat → Int) (w : World) (h : MatV w a 1 M) (hc : 1 ≤ c) (bd : ∀ i j, Bd (M i j) 3) : Calls Try.prog 53 #[.slice a 1 c] w (OutN w (dP M 1)) := by
  obtain ⟨G0, off, rfl, hG, h⟩ := h
  obtain ⟨Ri, o, ci, e1, _, _, hr, e5⟩ := h 0 (by omega)
  obtain ⟨b, e6, e7, e8⟩ := e5 0 (by omega)
  have lb := e8.len (bd 0 0)
  obtain ⟨xs, q1, q2⟩ := e8
  have HG : Hid (b.g = decide (M 0 0 < 0)) := hide q1.sg
  have hb : Below w.heap.size w (w.alloc (.cells #[.bool false, .slice none 0 0] 27)) := (Below.refl _ _).alloc (Nat.le_refl _) _
  have AG0 : Arg w b.a b.n b.c xs := ⟨q1.ar.sl, q1.ar.len, q1.ar.cap, q1.ar.top, q1.ar.addr⟩
  have AG := hide (AG0.later hb)
  have NX := hide q2
  have k0_0 := cell_later hb e1
  have k1_0 := cell_later hb e6
  have k1_1 := cell_later hb e7
  simp only [Nat.zero_mul, Nat.add_zero] at k0_0 k1_0 k1_1
  have k2_0 : (w.alloc (.cells #[.bool false, .slice none 0 0] 27)).cell? ⟨w.heap.size, 0, none⟩ = some (.bool false) := by simp [go_sem]
  have k2_1 : (w.alloc (.cells #[.bool false, .slice none 0 0] 27)).cell? ⟨w.heap.size, 1, none⟩ = some (.slice none 0 0) := by simp [go_sem]
  have z2 : ∀ o, (w.alloc (.cells #[.bool false, .slice none 0 0] 27)).frozen? ⟨w.heap.size, o, none⟩ = false := fun o => by simp [go_sem]
  have HB := hide hb
  clear h e1 e5 e6 e7 q1 q2 AG0 hb bd
  go_enter Try.func53, Try.ntmps53
  go_upto_region 2 with fail
  generalize w.alloc (.cells #[.bool false, .slice none 0 0] 27) = wa at *
  have ne0_2 : G0 ≠ w.heap.size := by omega
  have ne1_2 : Ri ≠ w.heap.size := by omega
  go_region_held3 (fun w' => w'.cell? ⟨G0, off, none⟩ = some (.slice (some ⟨Ri, o, none⟩) 1 ci) ∧ w'.cell? ⟨Ri, o, none⟩ = some (.bool b.g) ∧ w'.cell? ⟨Ri, o + 1, none⟩ = some (.slice b.a b.n b.c)) (with_reducible (first | exact ⟨k0_0, k1_0, k1_1⟩ | exact ⟨cd_other k0_0, cd_other k1_0, cd_other k1_1⟩ | exact ⟨cs_other (cs_other (k0_0) ne0_2) ne0_2, cs_other (cs_other (k1_0) ne1_2) ne1_2, cs_other (cs_other (k1_1) ne1_2) ne1_2⟩ | fail))
    (first
    | (go_at_call 47; refine (makeS_v b.g b.a b.n b.c xs _ ((M 0 0).natAbs : Int) ?_ (unhide NX) (by omega)).mono ?_; exact (unhide AG).later (Below.refl _ _).drew; rintro e w2 ⟨x, rfl, hb, ow, ar⟩; have hbx : Below wa.heap.size wa w2 := below_of_drew hb; have szw2 := hbx.size; replace z2 := fun o => frozen_later hbx (World.block_lt_of_cell? _ _ k2_0) (z2 o); replace k0_0 := cell_later hbx k0_0; replace k1_0 := cell_later hbx k1_0; replace k1_1 := cell_later hbx k1_1; replace k2_0 := cell_later hbx k2_0; replace k2_1 := cell_later hbx k2_1; replace AG := hide ((unhide AG).later hbx); have OX := hide (And.intro ow ar); have HBr := hide hbx; clear hbx hb ow ar))
  go_wp2
  refine bodyPost_ret (v := .agg #[.bool x.g, .slice x.a x.n x.c]) (by simp [results, Try.results53, go_sem, k2_0, k2_1]) rfl ?_
  have EV : sU b.g ((M 0 0).natAbs : Int) = M 0 0 := by rw [unhide HG]; exact sU_abs7 _
  have ox := unhide OX
  rw [EV] at ox
  have O := outN_ow ox.1 ox.2 (unhide NX)
  have bt := metB_but (w5 := w2) (v := x) (G := w.heap.size)
  rw [dP_one]
  have HBw := below_on (unhide HB) (unhide HBr)
  have szA := (unhide HB).size
  exact out_of_ow (((O.wide (lo' := w.heap.size) (by simp; omega) (Nat.le_refl _)).blk bt k2_0 (notI_b _)).wide (Nat.le_refl _) bt.size) (Nat.le_refl _) (Nat.le_refl _) (bt.below HBw (Nat.le_refl _) HBw.size)
set_option maxHeartbeats 8000000 in
theorem parts_rec (n : Nat) (h2 : 2 ≤ n) (hn : n ≤ 8) (ih : Rec7 (n - 1)) : Rec7 n := by
  intro a c M w h hc hc2 bd
  have MV0 := hide h
  obtain ⟨G0, off, rfl, hG, h⟩ := h
  obtain ⟨Ri, o, ci, e1, e2, _, hr, e5⟩ := h 0 (by omega)
  have HE := hide e5
  have BD := hide bd
  have IH : Hid (∀ (a : Option Addr) (c : Nat) (M : Nat → Nat → Int) (w : World), MatV w a (n - 1) M → n - 1 ≤ c → c ≤ maxLen → (∀ i j, Bd (M i j) 3) → Calls Try.prog 53 #[.slice a (n - 1) c] w (OutN w (dP M (n - 1)))) := hide ih
  have HBa : Hid (Below w.heap.size w (w.alloc (.cells #[.bool false, .slice none 0 0] 27))) := hide ((Below.refl _ _).alloc (Nat.le_refl _) _)
  have RSa : Hid (Rs7 (w.alloc (.cells #[.bool false, .slice none 0 0] 27)) w.heap.size) := hide ⟨⟨⟨false, none, 0, 0⟩, by simp [go_sem], by simp [go_sem]⟩, fun o => by simp [go_sem]⟩
  have hn1 : ¬ (n : Int) = 1 := by omega
  have E1 := hide e1
  clear h e5 bd ih e1
  go_enter Try.func53, Try.ntmps53
  go_wp2_with fail
  refine ((bigOfS_any 0 _ (by omega) (by omega)).mono OutB.toN).mono ?_
  rintro e w1 ⟨y, ly, rfl, hb1, oy, ay, ny⟩
  have OY := hide (outN_ow oy ay ny)
  have RS1 := hide ((unhide RSa).later hb1)
  have HB1 := hide (below_on (unhide HBa) hb1)
  have sz1 := hb1.size
  have sza : (w.alloc (.cells #[.bool false, .slice none 0 0] 27)).heap.size = w.heap.size + 1 := by simp
  obtain ⟨S, hS⟩ : ∃ S, S = w1.heap.size := ⟨_, rfl⟩
  have hb2 : Below w1.heap.size w1 (w1.alloc (.cells #[.bool y.g, .slice y.a y.n y.c] 27)) := (Below.refl _ _).alloc (Nat.le_refl _) _
  have SU0 : Hid (Su7 (w1.alloc (.cells #[.bool y.g, .slice y.a y.n y.c] 27)) S y) := hide (by rw [hS]; exact ⟨by simp [go_sem], by simp [go_sem], fun o => by simp [go_sem]⟩)
  have OU0 : Hid (Ow w.heap.size (w1.alloc (.cells #[.bool y.g, .slice y.a y.n y.c] 27)).heap.size (w1.alloc (.cells #[.bool y.g, .slice y.a y.n y.c] 27)) y (pD M n 0)) := hide (((unhide OY).later hb2).wide (by omega) hb2.size)
  have RS0 := hide ((unhide RS1).later hb2)
  have HB0 := hide (below_on (unhide HB1) hb2)
  have hSw : w.heap.size < S := by rw [hS]; rw [sza] at sz1; omega
  have E0 : (w1.alloc (.cells #[.bool y.g, .slice y.a y.n y.c] 27)).cell? ⟨G0, off, none⟩ = some (.slice (some ⟨Ri, o, none⟩) n ci) := ((unhide HB0).cell (p := ⟨G0, off, none⟩) hG).trans (unhide E1)
  clear hb1 oy ay ny RSa HBa OY RS1 HB1 sz1 sza hb2
  go_upto_region 4 with fail
  rw [← hS]
  generalize w1.alloc (.cells #[.bool y.g, .slice y.a y.n y.c] 27) = w9 at *
  clear hS
  go_wp2
  go_loopw [28] (fun kv wr => ∃ (k : Nat) (u : BV), k ≤ n ∧ kv = .int .i64 k ∧ Hid (Su7 wr S u) ∧ Hid (Ow w.heap.size wr.heap.size wr u (pD M n k)) ∧ Hid (Rs7 wr w.heap.size) ∧ Hid (Below w.heap.size w wr)) (fun kv _ => n - (intOf kv).toNat)
  case atStart => exact ⟨0, y, Nat.zero_le _, rfl, SU0, OU0, RS0, HB0⟩
  case round =>
    clear SU0 OU0 RS0 HB0 E0
    obtain ⟨k, u, hk, rfl, SU, OU, RS, HB⟩ := hrel
    by_cases hlt : k < n
    · have hlt' : (k : Int) < (n : Int) := by omega
      obtain ⟨b, q6, q7, q8⟩ := (unhide HE) k hlt
      have E1 : wr.cell? ⟨Ri, o + k * 2, none⟩ = some (.bool b.g) := ((unhide HB).cell (p := ⟨Ri, o + k * 2, none⟩) hr).trans q6
      have E2 : wr.cell? ⟨Ri, o + k * 2 + 1, none⟩ = some (.slice b.a b.n b.c) := ((unhide HB).cell (p := ⟨Ri, o + k * 2 + 1, none⟩) hr).trans q7
      have OB0 : Hid (IsB wr b (M 0 k)) := hide (by
        obtain ⟨xs, r1, r2⟩ := q8
        exact ⟨xs, ⟨r1.sg, ⟨r1.ar.sl.later (Nat.le_refl _) (unhide HB), r1.ar.len, r1.ar.cap, r1.ar.top, r1.ar.addr⟩⟩, r2⟩)
      have hzi := q8.zero_iff
      have szr := (unhide HB).size
      have szS : S < wr.heap.size := World.block_lt_of_cell? _ _ (unhide SU).c0
      clear q6 q7 q8
      have hb6 : Below wr.heap.size wr (wr.alloc (.cells #[.bool b.g, .slice b.a b.n b.c] 27)) := (Below.refl _ _).alloc (Nat.le_refl _) _
      have HB6 := hide hb6
      clear hb6
      by_cases hz : b.n = 0
      · have hz' : (b.n : Int) = 0 := by omega
        have EP : Hid (pD M n (k + 1) = pD M n k) := hide (by rw [pD_next, hzi.1 hz, Int.zero_mul, Int.mul_zero, Int.add_zero])
        have HZ := hide hz
        clear hzi hz
        go_wp2
        go_roundw
        case rel => exact ⟨k + 1, u, by omega, by go_num, hide ((unhide SU).later (unhide HB6)), hide (by rw [unhide EP]; exact ((unhide OU).later (unhide HB6)).wide (Nat.le_refl _) (unhide HB6).size), hide ((unhide RS).later (unhide HB6)), hide (below_on (unhide HB) (unhide HB6))⟩
        case measure => simp [intOf]; omega
      · have hz' : ¬ (b.n : Int) = 0 := by omega
        have BDM : Hid (∀ i j, Bd (mn7 M k i j) 3) := hide (fun i j => (unhide BD) _ _)
        have bA := (unhide BD) 0 k
        have bDD := dP_bd (M := mn7 M k) (n := n - 1) (by omega) (unhide BDM)
        have KB : Hid (Bd (M 0 k) 400000 ∧ Bd (dP (mn7 M k) (n - 1)) 400000 ∧ Bd (M 0 k * dP (mn7 M k) (n - 1)) 400000) := hide ⟨bA.mono (by omega), bDD.mono (by omega), (bA.mul bDD).mono (by omega)⟩
        clear hzi bA bDD
        go_upto_region 8 with fail
        have k0_0 : (wr.alloc (.cells #[.bool b.g, .slice b.a b.n b.c] 27)).cell? ⟨wr.heap.size, 0, none⟩ = some (.bool b.g) := by simp [go_sem]
        have k0_1 : (wr.alloc (.cells #[.bool b.g, .slice b.a b.n b.c] 27)).cell? ⟨wr.heap.size, 1, none⟩ = some (.slice b.a b.n b.c) := by simp [go_sem]
        have OB := hide ((unhide OB0).later (unhide HB6))
        replace SU := hide ((unhide SU).later (unhide HB6))
        replace OU := hide ((unhide OU).later (unhide HB6))
        replace RS := hide ((unhide RS).later (unhide HB6))
        replace HB := hide (below_on (unhide HB) (unhide HB6))
        have MV : Hid (MatV (wr.alloc (.cells #[.bool b.g, .slice b.a b.n b.c] 27)) (some ⟨G0, off, none⟩) n M) := hide (matV_below (unhide MV0) (unhide HB))
        have szwa : wr.heap.size < (wr.alloc (.cells #[.bool b.g, .slice b.a b.n b.c] 27)).heap.size := by simp
        clear HB6 OB0 E1 E2
        generalize wr.alloc (.cells #[.bool b.g, .slice b.a b.n b.c] 27) = wa at *
        go_cut [6] (fun p wx => ∃ (G : Nat) (x : BV), p = .pointer (some ⟨G, 0, none⟩) ∧ Hid (FxB wa wx G x (M 0 k * dP (mn7 M k) (n - 1))))
        case first =>
          go_region_held3 (fun w' => w'.cell? ⟨wr.heap.size, 0, none⟩ = some (.bool b.g) ∧ w'.cell? ⟨wr.heap.size, 1, none⟩ = some (.slice b.a b.n b.c)) (with_reducible (first | exact ⟨k0_0, k0_1⟩ | exact ⟨cd_other k0_0, cd_other k0_1⟩ | exact ⟨ca_other k0_0, ca_other k0_1⟩ | exact ⟨cd_other (ca_other k0_0), cd_other (ca_other k0_1)⟩ | exact ⟨cs_other (cs_other (k0_0) (by omega)) (by omega), cs_other (cs_other (k0_1) (by omega)) (by omega)⟩ | fail))
            (first
            | (go_at_call 94; refine (minorS_v (some ⟨G0, off, none⟩) n c k M _ ?_ h2 hn hlt hc hc2).mono ?_; (first | exact (unhide MV).later (Below.refl _ _).drew | exact (unhide MV).later ((Below.refl _ _).alloc (Nat.le_refl _) _).drew); rintro e w11 ⟨g, cap, rfl, hcp1, hcp2, hb, mv⟩; have hbx : Below wa.heap.size wa w11 := (by first | exact below_of_drew hb | exact bad hb); have szw11 := hbx.size; replace k0_0 := cell_later hbx k0_0; replace k0_1 := cell_later hbx k0_1; replace OB := hide ((unhide OB).later hbx); replace MV := hide ((unhide MV).later hbx); have MV2 := hide (mv); (try (replace gf := fun o => frozen_later hbx (World.block_lt_of_cell? _ _ g0) (gf o); replace g0 := cell_later hbx g0; replace g1 := cell_later hbx g1)); (try (refine cutP (p := w11.cell? ⟨wa.heap.size, 0, none⟩ = some (.bool false) ∧ w11.cell? ⟨wa.heap.size, 1, none⟩ = some (.slice none 0 0) ∧ ∀ o, w11.frozen? ⟨wa.heap.size, o, none⟩ = false) ?_ (fun dd => ?_); (focus (refine ⟨cell_later hb ?_, cell_later hb ?_, fun o => frozen_later hb ?_ ?_⟩ <;> (simp [go_sem]; done))); obtain ⟨g0, g1, gf⟩ := dd)); have zz := hb.size; (try simp at zz); have HBr := hide hbx; clear hbx hb mv)
            | (go_at_call 53; refine ((unhide IH) (some ⟨g, 0, none⟩) cap (mn7 M k) _ ?_ hcp1 hcp2 (unhide BDM)).mono ?_; (first | exact (unhide MV2).later (Below.refl _ _) | exact (unhide MV2).later ((Below.refl _ _).alloc (Nat.le_refl _) _)); rintro e w12 ⟨x1, lx1, rfl, hb, ox1, ax1, nx1⟩; have hbx : Below w11.heap.size w11 w12 := (by first | exact hb | exact ba hb); have szw12 := hbx.size; replace k0_0 := cell_later hbx k0_0; replace k0_1 := cell_later hbx k0_1; replace OB := hide ((unhide OB).later hbx); replace MV := hide ((unhide MV).later hbx); replace MV2 := hide ((unhide MV2).later hbx); have Px1 := hide (outN_ow ox1 ax1 nx1); (try (replace gf := fun o => frozen_later hbx (World.block_lt_of_cell? _ _ g0) (gf o); replace g0 := cell_later hbx g0; replace g1 := cell_later hbx g1)); (try (refine cutP (p := w12.cell? ⟨w11.heap.size, 0, none⟩ = some (.bool false) ∧ w12.cell? ⟨w11.heap.size, 1, none⟩ = some (.slice none 0 0) ∧ ∀ o, w12.frozen? ⟨w11.heap.size, o, none⟩ = false) ?_ (fun dd => ?_); (focus (refine ⟨cell_later hb ?_, cell_later hb ?_, fun o => frozen_later hb ?_ ?_⟩ <;> (simp [go_sem]; done))); obtain ⟨g0, g1, gf⟩ := dd)); have zz := hb.size; (try simp at zz); have HBr := hide (below_on (unhide HBr) hbx); clear hbx hb ox1 ax1 nx1)
            | (go_at_call 81; refine (mulS_v b x1 (M 0 k) (dP (mn7 M k) (n - 1)) _ ?_ ?_ (unhide KB).1 (unhide KB).2.1).mono ?_; (first | exact (unhide OB).later (Below.refl _ _) | exact (unhide OB).later ((Below.refl _ _).alloc (Nat.le_refl _) _)); (first | exact (unhide Px1).is.later (Below.refl _ _) | exact (unhide Px1).is.later ((Below.refl _ _).alloc (Nat.le_refl _) _)); rintro e w13 ⟨x3, lx3, rfl, hb, ox3, ax3, nx3⟩; have hbx : Below w12.heap.size w12 w13 := (by first | exact hb | exact ba hb); have szw13 := hbx.size; replace k0_0 := cell_later hbx k0_0; replace k0_1 := cell_later hbx k0_1; replace OB := hide ((unhide OB).later hbx); replace MV := hide ((unhide MV).later hbx); replace MV2 := hide ((unhide MV2).later hbx); replace Px1 := hide ((unhide Px1).later hbx); have Px3 := hide (outN_ow ox3 ax3 nx3); (try (replace gf := fun o => frozen_later hbx (World.block_lt_of_cell? _ _ g0) (gf o); replace g0 := cell_later hbx g0; replace g1 := cell_later hbx g1)); (try (refine cutP (p := w13.cell? ⟨w12.heap.size, 0, none⟩ = some (.bool false) ∧ w13.cell? ⟨w12.heap.size, 1, none⟩ = some (.slice none 0 0) ∧ ∀ o, w13.frozen? ⟨w12.heap.size, o, none⟩ = false) ?_ (fun dd => ?_); (focus (refine ⟨cell_later hb ?_, cell_later hb ?_, fun o => frozen_later hb ?_ ?_⟩ <;> (simp [go_sem]; done))); obtain ⟨g0, g1, gf⟩ := dd)); have zz := hb.size; (try simp at zz); have HBr := hide (below_on (unhide HBr) hbx); clear hbx hb ox3 ax3 nx3))
          all_goals go_wp2_with fail
          all_goals go_meet
          all_goals first
            | (refine ⟨_, x3, rfl, hide (fxB_alloc 27 (unhide HBr) (unhide Px3) ?_)⟩; first | omega | (simp; done) | (simp; omega))
            | (refine ⟨_, x3, rfl, hide (fxB_set (unhide HBr) (unhide Px3) ?_ ?_ g0 g1 gf)⟩ <;> first | omega | (simp; done) | (simp; omega))
        case rest =>
          obtain ⟨Gp, xGp, rfl, HGp⟩ := hcut
          have hb := (unhide HGp).1.bel
          have loGp := (unhide HGp).1.lo
          have hiGp := (unhide HGp).1.hi
          clear k0_0 k0_1
          replace OB := hide ((unhide OB).later hb)
          replace MV := hide ((unhide MV).later hb)
          have OGp := hide ((unhide HGp).1.ow)
          replace HB := hide (below_on (unhide HB) hb)
          have HBc := hide hb
          clear hb
          have k1_0 := (unhide HGp).1.c0
          have k1_1 := (unhide HGp).1.c1
          have zGp := (unhide HGp).2
          clear HGp
          clear OB MV
          replace SU := hide ((unhide SU).later (unhide HBc))
          replace OU := hide ((unhide OU).later (unhide HBc))
          replace RS := hide ((unhide RS).later (unhide HBc))
          have szc := (unhide HBc).size
          clear HBc
          have KX := (unhide KB).2.2
          have KP := bd_sum (by omega) (pD_abs hn (unhide BD) k)
          by_cases hpar : k % 2 = 1
          · have p1 : (k : Int) % 2 = 1 := by omega
            have p2 : Int.tmod (k : Int) 2 = 1 := by rw [Int.tmod_eq_emod_of_nonneg (by omega)]; omega
            have HAL : Hid (alt k * (M 0 k * dP (mn7 M k) (n - 1)) = -(M 0 k * dP (mn7 M k) (n - 1))) := hide (by unfold alt; rw [if_neg (by omega), Int.neg_mul, Int.one_mul])
            have KS : Hid (Bd (pD M n k) 400000 ∧ Bd (-(M 0 k * dP (mn7 M k) (n - 1))) 400000) := hide ⟨KP.mono (by omega), KX.neg⟩
            have KN := hide KX
            clear KP KX
            go_wp2_with fail
            refine (negS_v xGp (M 0 k * dP (mn7 M k) (n - 1)) _ (unhide OGp).is (unhide KN)).mono ?_
            rintro e wt ⟨x2, lx2, rfl, hb, ox, ax, nx⟩
            have szt := hb.size
            replace SU := hide ((unhide SU).later hb)
            replace OU := hide ((unhide OU).later hb)
            replace RS := hide ((unhide RS).later hb)
            replace HB := hide (below_on (unhide HB) hb)
            replace zGp := fun o => frozen_later hb (World.block_lt_of_cell? _ _ k1_0) (zGp o)
            replace k1_0 := cell_later hb k1_0
            replace k1_1 := cell_later hb k1_1
            replace OGp := hide (outN_ow ox ax nx)
            clear hb ox ax nx
            have bt2 : But Gp (Gp + 1) wt ((wt.setCell ⟨Gp, 0, none⟩ (.bool x2.g)).setCell ⟨Gp, 1, none⟩ (.slice x2.a x2.n x2.c)) := metB_but
            have m0 : ((wt.setCell ⟨Gp, 0, none⟩ (.bool x2.g)).setCell ⟨Gp, 1, none⟩ (.slice x2.a x2.n x2.c)).cell? ⟨Gp, 0, none⟩ = some (.bool x2.g) := by simp [go_sem, k1_0, k1_1]
            have m1 : ((wt.setCell ⟨Gp, 0, none⟩ (.bool x2.g)).setCell ⟨Gp, 1, none⟩ (.slice x2.a x2.n x2.c)).cell? ⟨Gp, 1, none⟩ = some (.slice x2.a x2.n x2.c) := by simp [go_sem, k1_0, k1_1]
            have SU2 := hide ((unhide SU).but bt2 (by omega))
            have OU2 := hide ((unhide OU).blk bt2 k1_0 (notI_b _))
            have RS2 := hide ((unhide RS).but bt2 (by omega))
            have HB2 := hide (bt2.below (unhide HB) (by omega) (by omega))
            have OG2 := hide ((unhide OGp).blk bt2 k1_0 (notI_b _))
            have szs : ((wt.setCell ⟨Gp, 0, none⟩ (.bool x2.g)).setCell ⟨Gp, 1, none⟩ (.slice x2.a x2.n x2.c)).heap.size = wt.heap.size := by simp
            go_upto_region 11 with fail
            clear SU OU RS HB OGp bt2 k1_0 k1_1 zGp
            generalize (wt.setCell ⟨Gp, 0, none⟩ (.bool x2.g)).setCell ⟨Gp, 1, none⟩ (.slice x2.a x2.n x2.c) = wz at *
            have SU := SU2
            have OU := OU2
            have RS := RS2
            have HB := HB2
            have OGp := OG2
            clear SU2 OU2 RS2 HB2 OG2
            have s0 := (unhide SU).c0
            have s1 := (unhide SU).c1
            go_wp2_with fail
            clear s0 s1 m0 m1
            refine (addS_v u x2 (pD M n k) (-(M 0 k * dP (mn7 M k) (n - 1))) _ (unhide OU).is (unhide OGp).is (unhide KS).1 (unhide KS).2).mono ?_
            rintro e we ⟨x, lx, rfl, hb, ox, ax, nx⟩
            have hs5 := hb.size
            have OX := hide (outN_ow ox ax nx)
            replace SU := hide ((unhide SU).later hb)
            replace RS := hide ((unhide RS).later hb)
            replace HB := hide (below_on (unhide HB) hb)
            have f0 := (unhide SU).c0
            have f1 := (unhide SU).c1
            have f2 := (unhide SU).f
            clear hb ox ax nx OU OGp
            go_wp2
            go_roundw
            case rel =>
              have bt : But S (S + 1) we ((we.setCell ⟨S, 0, none⟩ (.bool x.g)).setCell ⟨S, 1, none⟩ (.slice x.a x.n x.c)) := metB_but
              exact ⟨k + 1, x, by omega, by go_num, hide ⟨by simp [go_sem, f0, f1], by simp [go_sem, f0, f1], fun o => by simpa [go_sem] using f2 o⟩, hide (by rw [pD_next, unhide HAL]; exact ((unhide OX).blk bt f0 (notI_b _)).wide (by omega) bt.size), hide ((unhide RS).but bt (by omega)), hide (bt.below (unhide HB) (by omega) (by omega))⟩
            case measure => simp [intOf]; omega
          · have p1 : (k : Int) % 2 = 0 := by omega
            have p2 : Int.tmod (k : Int) 2 = 0 := by rw [Int.tmod_eq_emod_of_nonneg (by omega)]; omega
            have HAL : Hid (alt k * (M 0 k * dP (mn7 M k) (n - 1)) = (M 0 k * dP (mn7 M k) (n - 1))) := hide (by unfold alt; rw [if_pos (by omega), Int.one_mul])
            have KS : Hid (Bd (pD M n k) 400000 ∧ Bd (M 0 k * dP (mn7 M k) (n - 1)) 400000) := hide ⟨KP.mono (by omega), KX⟩
            clear KP KX
            have s0 := (unhide SU).c0
            have s1 := (unhide SU).c1
            go_wp2_with fail
            clear s0 s1 k1_0 k1_1 zGp
            refine (addS_v u xGp (pD M n k) ((M 0 k * dP (mn7 M k) (n - 1))) _ (unhide OU).is (unhide OGp).is (unhide KS).1 (unhide KS).2).mono ?_
            rintro e we ⟨x, lx, rfl, hb, ox, ax, nx⟩
            have hs5 := hb.size
            have OX := hide (outN_ow ox ax nx)
            replace SU := hide ((unhide SU).later hb)
            replace RS := hide ((unhide RS).later hb)
            replace HB := hide (below_on (unhide HB) hb)
            have f0 := (unhide SU).c0
            have f1 := (unhide SU).c1
            have f2 := (unhide SU).f
            clear hb ox ax nx OU OGp
            go_wp2
            go_roundw
            case rel =>
              have bt : But S (S + 1) we ((we.setCell ⟨S, 0, none⟩ (.bool x.g)).setCell ⟨S, 1, none⟩ (.slice x.a x.n x.c)) := metB_but
              exact ⟨k + 1, x, by omega, by go_num, hide ⟨by simp [go_sem, f0, f1], by simp [go_sem, f0, f1], fun o => by simpa [go_sem] using f2 o⟩, hide (by rw [pD_next, unhide HAL]; exact ((unhide OX).blk bt f0 (notI_b _)).wide (by omega) bt.size), hide ((unhide RS).but bt (by omega)), hide (bt.below (unhide HB) (by omega) (by omega))⟩
            case measure => simp [intOf]; omega
    · obtain rfl : k = n := by omega
      obtain ⟨bz, r0, r1⟩ := (unhide RS).c
      have rf := (unhide RS).f
      have hc0 := (unhide SU).c0
      have hc1 := (unhide SU).c1
      go_wp2
      refine bodyPost_ret (v := .agg #[.bool u.g, .slice u.a u.n u.c]) (by simp [results, Try.results53, go_sem, r0, r1]) rfl ?_
      have bt := metB_but (w5 := wr) (v := u) (G := w.heap.size)
      have h := unhide OU
      rw [pD_full M k (by omega)] at h
      exact out_of_ow ((h.blk bt r0 (notI_b _)).wide (Nat.le_refl _) bt.size) (Nat.le_refl _) (Nat.le_refl _) (bt.below (unhide HB) (Nat.le_refl _) (unhide HB).size)
theorem partsS_v (n : Nat) (h1 : 1 ≤ n) (hn : n ≤ 8) : Rec7 n := by
  induction n with
  | zero => omega
  | succ m ih =>
    by_cases h : m = 0
    · subst h
      exact fun a c M w h hc _ bd => parts_one a c M w h hc bd
    · exact parts_rec (m + 1) (by omega) hn (ih (by omega) (by omega))
end Go.Proofs.Ytaaajmdneaaeeaa
namespace Go.Proofs.Ytaaajmdneaaeeaa
open Go.RowKit
set_option linter.unusedVariables false
set_option maxRecDepth 100000
set_option linter.unusedSimpArgs false

set_option maxHeartbeats 4000000 in
theorem partOfI_v (a : Option Addr) (n c : Nat) (rs : List RB) (w : World) (h : MAr w a n c rs) :
    Calls Try.prog 20 #[.slice a n c] w (RetB w (fun d ok => Ans (gD (dM rs)) (dP (mD (dM rs)) n) d.g d.xs ok)) := by
  have A0 := hide h
  have hl := h.len
  clear h
  have CG := hide (fun w1 (k : MAr w1 a n c rs) => goodMI a n c rs w1 k)
  cases hg : gD (dM rs)
  · rw [hg] at CG
    clear hg hl
    go_enter Try.func20, Try.ntmps20
    go_upto_region 1 with fail
    have hb0 : Below w.heap.size w (w.alloc (.cells #[.bool false, .slice none 0 0] 27)) := (Below.refl _ _).alloc (Nat.le_refl _) _
    have RS0 : Rs7 (w.alloc (.cells #[.bool false, .slice none 0 0] 27)) w.heap.size := ⟨⟨⟨false, none, 0, 0⟩, by simp [go_sem], by simp [go_sem]⟩, fun o => by simp [go_sem]⟩
    have sz0 : (w.alloc (.cells #[.bool false, .slice none 0 0] 27)).heap.size = w.heap.size + 1 := by simp
    generalize w.alloc (.cells #[.bool false, .slice none 0 0] 27) = wz at *
    have RS := hide RS0
    have HB := hide hb0
    replace A0 := hide ((unhide A0).later hb0)
    clear hb0 RS0
    go_wp2_with fail
    refine (unhide CG _ (unhide A0)).mono ?_
    rintro e w1 ⟨rfl, hb⟩
    replace A0 := hide ((unhide A0).later hb)
    replace RS := hide ((unhide RS).later hb)
    replace HB := hide (below_on (unhide HB) hb)
    have szw1 := hb.size
    clear hb
    obtain ⟨bz, r0, r1⟩ := (unhide RS).c
    have rf := (unhide RS).f
    go_wp2
    refine bodyPost_ret (v := .tuple #[.agg #[.bool false, .slice none 0 0], .bool false]) (by simp [results, Try.results20, go_sem, r0, r1]) rfl ?_
    exact retB_no ((metB_but (w5 := w1) (v := ⟨false, none, 0, 0⟩) (G := w.heap.size)).below (unhide HB) (Nat.le_refl _) (unhide HB).size) rfl
  rw [hg] at CG
  have h18 := gD_len hg
  rw [dM_len, hl] at h18
  have MV := hide (fun wx (k : MAr wx a n c rs) => gD_mat k hg)
  have BB := hide (gD_mat (unhide A0) hg).2
  have BV_ : Hid (Bd (dP (mD (dM rs)) n) 25) := hide (dP_bd (by omega) (unhide BB))
  clear hg hl
  go_enter Try.func20, Try.ntmps20
  go_upto_region 1 with fail
  have hb0 : Below w.heap.size w (w.alloc (.cells #[.bool false, .slice none 0 0] 27)) := (Below.refl _ _).alloc (Nat.le_refl _) _
  have RS0 : Rs7 (w.alloc (.cells #[.bool false, .slice none 0 0] 27)) w.heap.size := ⟨⟨⟨false, none, 0, 0⟩, by simp [go_sem], by simp [go_sem]⟩, fun o => by simp [go_sem]⟩
  have sz0 : (w.alloc (.cells #[.bool false, .slice none 0 0] 27)).heap.size = w.heap.size + 1 := by simp
  generalize w.alloc (.cells #[.bool false, .slice none 0 0] 27) = wz at *
  have RS := hide RS0
  have HB := hide hb0
  replace A0 := hide ((unhide A0).later hb0)
  clear hb0 RS0
  go_wp2_with fail
  refine (unhide CG _ (unhide A0)).mono ?_
  rintro e w1 ⟨rfl, hb⟩
  replace A0 := hide ((unhide A0).later hb)
  replace RS := hide ((unhide RS).later hb)
  replace HB := hide (below_on (unhide HB) hb)
  have szw1 := hb.size
  clear hb
  go_wp2_with fail
  refine (partsI_v a n c (mD (dM rs)) _ (unhide MV _ (unhide A0)).1 (by omega) (by omega) (unhide BB)).mono ?_
  rintro e w4 ⟨x, lx, rfl, hb, ox, ax, nx⟩
  replace RS := hide ((unhide RS).later hb)
  replace HB := hide (below_on (unhide HB) hb)
  have szw4 := hb.size
  have OD := hide (outN_ow ox ax nx)
  clear ox ax nx
  clear hb
  obtain ⟨bz, r0, r1⟩ := (unhide RS).c
  have rf := (unhide RS).f
  go_wp2
  refine bodyPost_ret (v := .tuple #[.agg #[.bool x.g, .slice x.a x.n x.c], .bool true]) (by simp [results, Try.results20, go_sem, r0, r1]) rfl ?_
  have bt := metB_but (w5 := w4) (v := x) (G := w.heap.size)
  exact retB_yes (((unhide OD).blk bt r0 (notI_b _)).wide (Nat.le_refl _) (by have := bt.size; omega)) (by omega) (Nat.le_refl _) (bt.below (unhide HB) (Nat.le_refl _) (unhide HB).size) ((unhide BV_).mono (by omega)) rfl
set_option maxHeartbeats 4000000 in
theorem partOfS_v (a : Option Addr) (n c : Nat) (rs : List RB) (w : World) (h : MAr w a n c rs) :
    Calls Try.prog 21 #[.slice a n c] w (RetB w (fun d ok => Ans (gD (dM rs)) (dP (mD (dM rs)) n) d.g d.xs ok)) := by
  have A0 := hide h
  have hl := h.len
  clear h
  have CG := hide (fun w1 (k : MAr w1 a n c rs) => goodMS a n c rs w1 k)
  cases hg : gD (dM rs)
  · rw [hg] at CG
    clear hg hl
    go_enter Try.func21, Try.ntmps21
    go_upto_region 1 with fail
    have hb0 : Below w.heap.size w (w.alloc (.cells #[.bool false, .slice none 0 0] 27)) := (Below.refl _ _).alloc (Nat.le_refl _) _
    have RS0 : Rs7 (w.alloc (.cells #[.bool false, .slice none 0 0] 27)) w.heap.size := ⟨⟨⟨false, none, 0, 0⟩, by simp [go_sem], by simp [go_sem]⟩, fun o => by simp [go_sem]⟩
    have sz0 : (w.alloc (.cells #[.bool false, .slice none 0 0] 27)).heap.size = w.heap.size + 1 := by simp
    generalize w.alloc (.cells #[.bool false, .slice none 0 0] 27) = wz at *
    have RS := hide RS0
    have HB := hide hb0
    replace A0 := hide ((unhide A0).later hb0)
    clear hb0 RS0
    go_wp2_with fail
    refine (unhide CG _ (unhide A0)).mono ?_
    rintro e w1 ⟨rfl, hb⟩
    replace A0 := hide ((unhide A0).later hb)
    replace RS := hide ((unhide RS).later hb)
    replace HB := hide (below_on (unhide HB) hb)
    have szw1 := hb.size
    clear hb
    obtain ⟨bz, r0, r1⟩ := (unhide RS).c
    have rf := (unhide RS).f
    go_wp2
    refine bodyPost_ret (v := .tuple #[.agg #[.bool false, .slice none 0 0], .bool false]) (by simp [results, Try.results21, go_sem, r0, r1]) rfl ?_
    exact retB_no ((metB_but (w5 := w1) (v := ⟨false, none, 0, 0⟩) (G := w.heap.size)).below (unhide HB) (Nat.le_refl _) (unhide HB).size) rfl
  rw [hg] at CG
  have h18 := gD_len hg
  rw [dM_len, hl] at h18
  have MV := hide (fun wx (k : MAr wx a n c rs) => gD_mat k hg)
  have BB := hide (gD_mat (unhide A0) hg).2
  have BV_ : Hid (Bd (dP (mD (dM rs)) n) 25) := hide (dP_bd (by omega) (unhide BB))
  clear hg hl
  go_enter Try.func21, Try.ntmps21
  go_upto_region 1 with fail
  have hb0 : Below w.heap.size w (w.alloc (.cells #[.bool false, .slice none 0 0] 27)) := (Below.refl _ _).alloc (Nat.le_refl _) _
  have RS0 : Rs7 (w.alloc (.cells #[.bool false, .slice none 0 0] 27)) w.heap.size := ⟨⟨⟨false, none, 0, 0⟩, by simp [go_sem], by simp [go_sem]⟩, fun o => by simp [go_sem]⟩
  have sz0 : (w.alloc (.cells #[.bool false, .slice none 0 0] 27)).heap.size = w.heap.size + 1 := by simp
  generalize w.alloc (.cells #[.bool false, .slice none 0 0] 27) = wz at *
  have RS := hide RS0
  have HB := hide hb0
  replace A0 := hide ((unhide A0).later hb0)
  clear hb0 RS0
  go_wp2_with fail
  refine (unhide CG _ (unhide A0)).mono ?_
  rintro e w1 ⟨rfl, hb⟩
  replace A0 := hide ((unhide A0).later hb)
  replace RS := hide ((unhide RS).later hb)
  replace HB := hide (below_on (unhide HB) hb)
  have szw1 := hb.size
  clear hb
  go_wp2_with fail
  refine (partsS_v n (by omega) (by omega) a c (mD (dM rs)) _ (unhide MV _ (unhide A0)).1 (unhide A0).cap (unhide A0).top (unhide BB)).mono ?_
  rintro e w4 ⟨x, lx, rfl, hb, ox, ax, nx⟩
  replace RS := hide ((unhide RS).later hb)
  replace HB := hide (below_on (unhide HB) hb)
  have szw4 := hb.size
  have OD := hide (outN_ow ox ax nx)
  clear ox ax nx
  clear hb
  have xl : x.n ≤ 40 := (unhide OD).is.len ((unhide BV_).mono (by omega))
  go_wp2_with fail
  refine (fitS_in x.g x.a x.n x.c _ xl).mono ?_
  rintro e w5 ⟨rfl, hb⟩
  replace RS := hide ((unhide RS).later hb)
  replace OD := hide ((unhide OD).later hb)
  replace HB := hide (below_on (unhide HB) hb)
  have szw5 := hb.size
  clear hb
  obtain ⟨bz, r0, r1⟩ := (unhide RS).c
  have rf := (unhide RS).f
  go_wp2
  refine bodyPost_ret (v := .tuple #[.agg #[.bool x.g, .slice x.a x.n x.c], .bool true]) (by simp [results, Try.results21, go_sem, r0, r1]) rfl ?_
  have bt := metB_but (w5 := w5) (v := x) (G := w.heap.size)
  exact retB_yes (((unhide OD).blk bt r0 (notI_b _)).wide (Nat.le_refl _) (by have := bt.size; omega)) (by omega) (Nat.le_refl _) (bt.below (unhide HB) (Nat.le_refl _) (unhide HB).size) ((unhide BV_).mono (by omega)) rfl
end Go.Proofs.Ytaaajmdneaaeeaa
