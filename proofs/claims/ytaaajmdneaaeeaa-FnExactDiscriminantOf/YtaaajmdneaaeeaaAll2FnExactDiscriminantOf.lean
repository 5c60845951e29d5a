/- The law FnExactDiscriminantOf returns true for every argument and leaves it as it was: the given statement FnExactDiscriminantOfSaid. No condition. -/
import Derived.Test.YtaaajmdneaaeeaaPackB7
import Derived.Test.YtaaajmdneaaeeaaVarB
import Derived.Test.YtaaajmdneaaeeaaLaw2
import Derived.Test.YtaaajmdneaaeeaaEq
import Derived.Test.YtaaajmdneaaeeaaMark
import Derived.Test.YtaaajmdneaaeeaaFlatQ
import Derived.Test.YtaaajmdneaaeeaaLow
import Derived.Test.YtaaajmdneaaeeaaOpenQ
import Derived.Deep.Slices
import Derived.Test.YtaaajmdneaaeeaaOpen
import Derived.Test.YtaaajmdneaaeeaaIo
namespace Go.Proofs.Ytaaajmdneaaeeaa
open Go.RowKit
set_option linter.unusedVariables false
set_option maxRecDepth 100000
set_option linter.unusedSimpArgs false

def bey7 (x : Int) : Bool := decide (x < -100) || decide (100 < x)
theorem bey7I (x : Int) (w : World) : Calls Try.prog 100 #[.int .i64 x] w fun e w' => e = .returned (.bool (bey7 x)) ∧ Below w.heap.size w w' := by
  by_cases h : x < -100
  · have hd : decide (x < -100) = true := decide_eq_true h
    go_enter Try.func100, Try.ntmps100
    go_wp2
    go_ret
    exact ⟨by unfold bey7; rw [hd]; rfl, Below.refl _ _⟩
  · have hd : decide (x < -100) = false := decide_eq_false h
    go_enter Try.func100, Try.ntmps100
    go_wp2
    go_ret
    exact ⟨by unfold bey7; rw [hd]; rfl, Below.refl _ _⟩
theorem getD_at7 {xs : List Int} {i : Nat} (h : i < xs.length) : xs.getD i 0 = xs[i] := by simp [List.getD, h]
theorem take_succ7 {xs : List Int} {i : Nat} (h : i < xs.length) : xs.take (i + 1) = xs.take i ++ [xs.getD i 0] := by
  rw [List.take_add_one, List.getElem?_eq_getElem h, getD_at7 h]
  rfl
set_option maxHeartbeats 2000000 in
theorem index7 (a : Option Addr) (n c : Nat) (xs : List Int) (w : World) (h : Arg w a n c xs) :
    Calls Try.prog 119 #[.slice a n c, .func (Fn.func 100) #[] #[]] w fun e w' => ∃ r : Int, e = .returned (.int .i64 r) ∧ Below w.heap.size w w' ∧ decide (0 ≤ r) = xs.any bey7 ∧ -1 ≤ r ∧ r ≤ 9223372036854775807 := by
  have HS := hide h.sl
  have HN := hide h.len
  have hm : n ≤ maxLen := Nat.le_trans h.cap h.top
  clear h
  unfold maxLen at hm
  go_enter Try.func119, Try.ntmps119
  go_wp2
  go_loopw [8] (fun iv wr => ∃ (i : Nat), i ≤ n ∧ iv = .int .i64 i ∧ Hid ((xs.take i).any bey7 = false) ∧ Hid (Below w.heap.size w wr)) (fun iv _ => n - (intOf iv).toNat)
  case atStart => exact ⟨0, Nat.zero_le _, rfl, hide (by simp), hide (Below.refl _ _)⟩
  case round =>
    obtain ⟨i, hi, rfl, EA, HB⟩ := hrel
    by_cases hlt : i < n
    · have hlt' : (i : Int) < (n : Int) := by omega
      rcases unhide HS with e | ⟨b, off, rfl, hb, hc⟩
      · exact absurd (unhide HN) (by rw [e]; simp; omega)
      have e0 := hc i (by rw [unhide HN]; exact hlt)
      obtain ⟨y, hy⟩ : ∃ y, y = xs.getD i 0 := ⟨_, rfl⟩
      rw [← hy] at e0
      have MY : Hid (y ∈ xs) := hide (by rw [hy, getD_at7 (by rw [unhide HN]; exact hlt)]; exact List.getElem_mem _)
      have EY := hide hy
      clear hy
      have E0 : wr.cell? ⟨b, off + i, none⟩ = some (.int .i64 y) := ((unhide HB).cell (p := ⟨b, off + i, none⟩) hb).trans e0
      clear e0 hc
      have TK : Hid (xs.take (i + 1) = xs.take i ++ [y]) := hide (by have h := take_succ7 (xs := xs) (i := i) (by rw [unhide HN]; exact hlt); rw [← unhide EY] at h; exact h)
      have CC := hide (fun w1 => bey7I y w1)
      cases hp : bey7 y
      · rw [hp] at CC
        go_wp2_with fail
        refine (unhide CC _).mono ?_
        rintro e w1 ⟨rfl, hb1⟩
        have HB1 := hide (below_on (unhide HB) hb1)
        clear hb1 E0 CC
        go_wp2
        go_roundw
        case rel => exact ⟨i + 1, by omega, by go_num, hide (by rw [unhide TK, List.any_append, unhide EA]; simp only [List.any_cons, List.any_nil]; rw [hp]; rfl), HB1⟩
        case measure => simp [intOf]; omega
      · rw [hp] at CC
        have AN := hide (show xs.any bey7 = true from List.any_eq_true.2 ⟨y, unhide MY, hp⟩)
        go_wp2_with fail
        refine (unhide CC _).mono ?_
        rintro e w1 ⟨rfl, hb1⟩
        have HB1 := hide (below_on (unhide HB) hb1)
        clear hb1 E0 CC
        go_wp2
        go_ret
        exact ⟨_, rfl, unhide HB1, by rw [unhide AN]; exact decide_eq_true (by omega), by omega, by omega⟩
    · obtain rfl : i = n := by omega
      have EL := hide (show xs.any bey7 = false from by have := unhide EA; rw [← unhide HN, List.take_length] at this; exact this)
      go_wp2
      go_ret
      exact ⟨_, rfl, unhide HB, by rw [unhide EL]; rfl, by omega, by omega⟩
theorem contains7 (a : Option Addr) (n c : Nat) (xs : List Int) (w : World) (h : Arg w a n c xs) :
    Calls Try.prog 99 #[.slice a n c, .func (Fn.func 100) #[] #[]] w fun e w' => e = .returned (.bool (xs.any bey7)) ∧ Below w.heap.size w w' := by
  have HS := hide h
  clear h
  go_enter Try.func99, Try.ntmps99
  go_wp2_with fail
  refine (index7 a n c xs _ (unhide HS)).mono ?_
  rintro e w1 ⟨r, rfl, hb1, hr, r0, r1⟩
  have HB1 := hide hb1
  have HR := hide hr
  clear hb1 hr
  go_wp2
  go_ret
  exact ⟨by rw [← unhide HR]; rfl, unhide HB1⟩

/-- Coefficients that are as said: at least so many, at most 5, from -100 to 100, the last one not 0. -/
def gC (least : Nat) (p : List Int) : Bool := (decide (least ≤ p.length) && decide (p.length ≤ 5)) && (!(p.any bey7) && decide (p.getD (p.length - 1) 0 ≠ 0))
theorem gC_sm {least : Nat} {p : List Int} (h : gC least p = true) : Sml p ∧ least ≤ p.length ∧ p.length ≤ 5 := by
  unfold gC at h
  rw [Bool.and_eq_true, Bool.and_eq_true, Bool.and_eq_true] at h
  obtain ⟨⟨h1, h2⟩, h3, _⟩ := h
  refine ⟨fun x hx => ?_, of_decide_eq_true h1, of_decide_eq_true h2⟩
  have h4 : p.any bey7 = false := by simpa using h3
  have h5 := List.any_eq_false.1 h4 x hx
  simp [bey7] at h5
  omega
set_option maxHeartbeats 1000000 in
theorem last7 (a : Option Addr) (n c : Nat) (xs : List Int) (w : World) (h : Sl w a xs) (hl : xs.length = n) (h0 : 1 ≤ n) (hm : n ≤ maxLen) :
    Calls Try.prog 101 #[.slice a n c] w fun e w' => e = .returned (.int .i64 (xs.getD (n - 1) 0)) ∧ w' = w := by
  unfold maxLen at hm
  rcases h with e | ⟨b, off, rfl, hb, hc⟩
  · rw [e] at hl; simp at hl; omega
  have e0 := hc (n - 1) (by omega)
  clear hc
  generalize xs.getD (n - 1) 0 = y at *
  have tn : ((n : Int) - 1).toNat = n - 1 := by omega
  go_enter Try.func101, Try.ntmps101
  go_wp2
  go_ret
  exact ⟨rfl, rfl⟩
set_option maxHeartbeats 2000000 in
theorem goodRI (a : Option Addr) (n c : Nat) (xs : List Int) (w : World) (h : Arg w a n c xs) :
    Calls Try.prog 61 #[.slice a n c] w fun e w' => e = .returned (.bool (gC 2 xs)) ∧ Below w.heap.size w w' := by
  have hl := h.len
  have hm : n ≤ maxLen := Nat.le_trans h.cap h.top
  have HA := hide h
  have HM := hide hm
  clear h
  unfold maxLen at hm
  by_cases h2 : n < 2
  · have d2 : decide ((n : Int) < 2) = true := decide_eq_true (by omega)
    have EV : Hid (gC 2 xs = false) := hide (by unfold gC; rw [decide_eq_false (show ¬ 2 ≤ xs.length by omega)]; rfl)
    have HL := hide hl
    clear hl
    go_enter Try.func61, Try.ntmps61
    go_wp2
    go_ret
    exact ⟨by rw [unhide EV]; rfl, Below.refl _ _⟩
  have d2 : decide ((n : Int) < 2) = false := decide_eq_false (by omega)
  by_cases h5 : 5 < n
  · have d5 : decide ((5 : Int) < (n : Int)) = true := decide_eq_true (by omega)
    have EV : Hid (gC 2 xs = false) := hide (by unfold gC; rw [decide_eq_false (show ¬ xs.length ≤ 5 by omega)]; simp)
    have HL := hide hl
    clear hl
    go_enter Try.func61, Try.ntmps61
    go_wp2
    go_ret
    exact ⟨by rw [unhide EV]; rfl, Below.refl _ _⟩
  have d5 : decide ((5 : Int) < (n : Int)) = false := decide_eq_false (by omega)
  have CC := hide (fun w1 (k : Arg w1 a n c xs) => contains7 a n c xs w1 k)
  cases hb : xs.any bey7
  · rw [hb] at CC
    have EV : Hid (gC 2 xs = decide (xs.getD (n - 1) 0 ≠ 0)) := hide (by unfold gC; rw [decide_eq_true (show 2 ≤ xs.length by omega), decide_eq_true (show xs.length ≤ 5 by omega), hb, hl]; rfl)
    have CL := hide (fun w1 (k : Arg w1 a n c xs) => last7 a n c xs w1 k.sl hl (by omega) (unhide HM))
    generalize xs.getD (n - 1) 0 = y at *
    clear hl hb
    go_enter Try.func61, Try.ntmps61
    go_wp2_with fail
    refine (unhide CC _ (unhide HA)).mono ?_
    rintro e w1 ⟨rfl, hb1⟩
    have HA1 := hide ((unhide HA).later hb1)
    have HB1 := hide hb1
    clear hb1
    go_wp2_with fail
    refine (unhide CL _ (unhide HA1)).mono ?_
    rintro e w2 ⟨rfl, rfl⟩
    go_wp2
    go_ret
    refine ⟨?_, unhide HB1⟩
    rw [unhide EV]
    by_cases y0 : y = 0
    · subst y0; rfl
    · have e1 : decide (y ≠ 0) = true := decide_eq_true y0
      have e2 : (y != 0) = true := by simp [y0]
      rw [e1]
      first | (rw [e2]; rfl) | (simp [y0]; done) | rfl
  · rw [hb] at CC
    have EV : Hid (gC 2 xs = false) := hide (by unfold gC; rw [hb]; simp)
    have HL := hide hl
    clear hl hb
    go_enter Try.func61, Try.ntmps61
    go_wp2_with fail
    refine (unhide CC _ (unhide HA)).mono ?_
    rintro e w1 ⟨rfl, hb1⟩
    have HB1 := hide hb1
    clear hb1
    go_wp2
    go_ret
    exact ⟨by rw [unhide EV]; rfl, unhide HB1⟩
theorem in_bey (x : Int) : (decide (-100 ≤ x) && decide (x ≤ 100)) = !(bey7 x) := by
  unfold bey7
  by_cases h1 : x < -100
  · rw [decide_eq_true h1, decide_eq_false (show ¬ -100 ≤ x by omega)]; rfl
  · by_cases h2 : 100 < x
    · rw [decide_eq_true h2, decide_eq_false (show ¬ x ≤ 100 by omega)]; simp
    · rw [decide_eq_false h1, decide_eq_false h2, decide_eq_true (show -100 ≤ x by omega), decide_eq_true (show x ≤ 100 by omega)]; rfl
set_option maxHeartbeats 2000000 in
theorem polyS7 (a : Option Addr) (n c least : Nat) (xs : List Int) (w : World) (h : Arg w a n c xs) (hle : 1 ≤ least) (hle2 : least ≤ 5) :
    Calls Try.prog 59 #[.slice a n c, .int .i64 least] w fun e w' => e = .returned (.bool (gC least xs)) ∧ w' = w := by
  have hl := h.len
  have hm : n ≤ maxLen := Nat.le_trans h.cap h.top
  have HS := hide h.sl
  have HL := hide hl
  clear h
  unfold maxLen at hm
  go_enter Try.func59, Try.ntmps59
  go_wp2
  clear hl
  go_loop [9] (fun iv => ∃ i : Nat, i ≤ n ∧ iv = .int .i64 i ∧ Hid ((xs.take i).any bey7 = false)) (fun iv => n - (intOf iv).toNat)
  case atStart => exact ⟨0, Nat.zero_le _, rfl, hide (by simp)⟩
  case round =>
    obtain ⟨i, hi, rfl, EA⟩ := hrel
    by_cases hlt : i < n
    · have hlt' : (i : Int) < (n : Int) := by omega
      rcases unhide HS with e | ⟨b, off, rfl, hb, hc⟩
      · exact absurd (unhide HL) (by rw [e]; simp; omega)
      have e0 := hc i (by rw [unhide HL]; exact hlt)
      obtain ⟨y, hy⟩ : ∃ y, y = xs.getD i 0 := ⟨_, rfl⟩
      rw [← hy] at e0
      have MY : Hid (y ∈ xs) := hide (by rw [hy, getD_at7 (by rw [unhide HL]; exact hlt)]; exact List.getElem_mem _)
      have TK : Hid (xs.take (i + 1) = xs.take i ++ [y]) := hide (by have h := take_succ7 (xs := xs) (i := i) (by rw [unhide HL]; exact hlt); rw [← hy] at h; exact h)
      clear hy hc
      have CC := hide (fun w1 => l1In_any y (-100) 100 w1)
      rw [in_bey] at CC
      cases hp : bey7 y
      · rw [hp] at CC
        go_wp2_with fail
        refine (unhide CC _).mono ?_
        rintro e w1 ⟨rfl, rfl⟩
        go_wp2
        go_round
        case rel => exact ⟨i + 1, by omega, by go_num, hide (by rw [unhide TK, List.any_append, unhide EA]; simp only [List.any_cons, List.any_nil]; rw [hp]; rfl)⟩
        case measure => simp [intOf]; omega
      · rw [hp] at CC
        have EV : Hid (gC least xs = false) := hide (by unfold gC; rw [show xs.any bey7 = true from List.any_eq_true.2 ⟨y, unhide MY, hp⟩]; simp)
        go_wp2_with fail
        refine (unhide CC _).mono ?_
        rintro e w1 ⟨rfl, rfl⟩
        go_wp2
        go_ret
        exact ⟨by rw [unhide EV]; rfl, rfl⟩
    · obtain rfl : i = n := by omega
      have EL : Hid (xs.any bey7 = false) := hide (by have := unhide EA; rw [← unhide HL, List.take_length] at this; exact this)
      have CC := hide (fun w1 => l1In_any (i : Int) (least : Int) 5 w1)
      by_cases h1 : least ≤ i ∧ i ≤ 5
      · rw [decide_eq_true (show (least : Int) ≤ (i : Int) by omega), decide_eq_true (show (i : Int) ≤ 5 by omega)] at CC
        have EV : Hid (gC least xs = decide (xs.getD (i - 1) 0 ≠ 0)) := hide (by unfold gC; rw [unhide HL, decide_eq_true h1.1, decide_eq_true h1.2, unhide EL]; rfl)
        rcases unhide HS with e | ⟨b, off, rfl, hb, hc⟩
        · exact absurd (unhide HL) (by rw [e]; simp; omega)
        have e0 := hc (i - 1) (by rw [unhide HL]; omega)
        have tn : ((i : Int) - 1).toNat = i - 1 := by omega
        generalize xs.getD (i - 1) 0 = y at *
        clear hc
        go_wp2_with fail
        refine (unhide CC _).mono ?_
        rintro e w1 ⟨rfl, rfl⟩
        go_wp2
        go_ret
        refine ⟨?_, rfl⟩
        rw [unhide EV]
        by_cases y0 : y = 0
        · subst y0; rfl
        · have e1 : decide (y ≠ 0) = true := decide_eq_true y0
          have e2 : (y != 0) = true := by simp [y0]
          rw [e1]
          first | (rw [e2]; rfl) | (simp [y0]; done) | rfl
      · have e3 : (decide ((least : Int) ≤ (i : Int)) && decide ((i : Int) ≤ 5)) = false := by
          by_cases h2 : least ≤ i
          · rw [decide_eq_false (show ¬ (i : Int) ≤ 5 by omega)]; simp
          · rw [decide_eq_false (show ¬ (least : Int) ≤ (i : Int) by omega)]; rfl
        rw [e3] at CC
        have EV : Hid (gC least xs = false) := hide (by
          unfold gC
          rw [unhide HL]
          by_cases h2 : least ≤ i
          · rw [decide_eq_false (show ¬ i ≤ 5 by omega)]; simp
          · rw [decide_eq_false h2]; rfl)
        go_wp2_with fail
        refine (unhide CC _).mono ?_
        rintro e w1 ⟨rfl, rfl⟩
        go_wp2
        go_ret
        exact ⟨by rw [unhide EV]; rfl, rfl⟩
end Go.Proofs.Ytaaajmdneaaeeaa
namespace Go.Proofs.Ytaaajmdneaaeeaa
open Go.RowKit
set_option linter.unusedVariables false
set_option maxRecDepth 100000
set_option linter.unusedSimpArgs false

/-- A derivative's coefficients. -/
def slope (p : List Int) : List Int := (List.range (p.length - 1)).map (fun (i : Nat) => ((i : Int) + 1) * p.getD (i + 1) 0)
theorem slope_len (p : List Int) : (slope p).length = p.length - 1 := by simp [slope]
theorem slope_get {p : List Int} {i : Nat} (h : i < p.length - 1) : (slope p).getD i 0 = ((i : Int) + 1) * p.getD (i + 1) 0 := by
  unfold slope
  rw [List.getD_eq_getElem?_getD, List.getElem?_map, List.getElem?_range h]
  rfl
theorem bey_get {p : List Int} (h : p.any bey7 = false) (k : Nat) : -100 ≤ p.getD k 0 ∧ p.getD k 0 ≤ 100 := by
  by_cases hk : k < p.length
  · have h5 := List.any_eq_false.1 h p[k] (List.getElem_mem hk)
    simp [bey7] at h5
    simp [hk]
    omega
  · simp [hk]
theorem gC_bey {least : Nat} {p : List Int} (h : gC least p = true) : p.any bey7 = false := by
  unfold gC at h
  rw [Bool.and_eq_true, Bool.and_eq_true, Bool.and_eq_true] at h
  simpa using h.2.1
theorem slope_bd {p : List Int} (h : p.any bey7 = false) {i : Nat} (hi : i < 5) : -500 ≤ ((i : Int) + 1) * p.getD (i + 1) 0 ∧ ((i : Int) + 1) * p.getD (i + 1) 0 ≤ 500 := by
  have hb := bey_get h (i + 1)
  have : i = 0 ∨ i = 1 ∨ i = 2 ∨ i = 3 ∨ i = 4 := by omega
  rcases this with rfl | rfl | rfl | rfl | rfl <;> simp at * <;> omega
theorem slope_sm {p : List Int} (h : p.any bey7 = false) (h5 : p.length ≤ 5) : Sml (slope p) := fun x hx => by
  obtain ⟨i, hi, rfl⟩ := List.mem_map.1 hx
  have := List.mem_range.1 hi
  have := slope_bd h (show i < 5 by omega)
  omega
theorem retB_yes {w w' : World} {lo hi : Nat} {b : BV} {V : Int} {P : Bool} (h : Ow lo hi w' b V) (hl : w.heap.size ≤ lo) (hh : hi ≤ w'.heap.size) (hb : Below w.heap.size w w') (hB : Bd V 40) (hP : P = true) : RetB w (fun d ok => Ans P V d.g d.xs ok) (.returned (.tuple #[.agg #[.bool b.g, .slice b.a b.n b.c], .bool true])) w' := by
  obtain ⟨xs, k1, k2, k3⟩ := h
  exact ⟨b, ⟨decide (V < 0), xs⟩, true, rfl, hb, k1.wide hl hh, .inl ⟨hP, xs, k3, .inl ⟨k3.len_le hB, rfl, rfl, rfl⟩⟩⟩
theorem retB_no {w w' : World} {V : Int} {P : Bool} (hb : Below w.heap.size w w') (hP : P = false) : RetB w (fun d ok => Ans P V d.g d.xs ok) (.returned (.tuple #[.agg #[.bool false, .slice none 0 0], .bool false])) w' :=
  ⟨⟨false, none, 0, 0⟩, ⟨false, []⟩, false, rfl, hb, AllOwn.one ⟨rfl, .inl rfl, rfl⟩, .inr ⟨hP, rfl, rfl, rfl⟩⟩
theorem bar_bd {A : Nat → Nat → Int} {n : Nat} (hn : n ≤ 8) (h : ∀ r c, Bd (A r c) 3) : Bd (barVal A n) 25 := bd_of_abs hn (barVal_abs (fun r c _ _ => abs_of_bd (h r c)))
theorem Made_int (n i : Nat) (h : i < n) : (madeCells #[.int .i64 0] n).toList[i]? = some (.int .i64 0) := by
  rw [toList_madeCells_one]
  simp [h]
theorem arr_ints {w : World} {B F n : Nat} (h : w.ownsRow B 3 1 (.slice (some ⟨F, 0, none⟩) n n) n (madeCells #[.int .i64 0] n).toList) : Arr w F n (fun _ => .int .i64 0) := by
  refine ⟨?_, fun o _ => h.frozenAt o, fun p hp => ?_⟩
  · rcases h.2 with ⟨h', _⟩ | ⟨g', cap, cur, hv, _, hg, _⟩
    · simp at h'
    · simp only [Value.slice.injEq, Option.some.injEq, Addr.mk.injEq, and_true, true_and] at hv
      have := (Array.getElem?_eq_some_iff.1 hg).1
      omega
  · rw [h.cellAt _ (by omega)]
    exact Made_int n p hp
theorem sl_of_arr {w : World} {F n : Nat} {xs : List Int} (h : Arr w F n (fun t => .int .i64 (xs.getD t 0))) (hl : xs.length = n) : Sl w (some ⟨F, 0, none⟩) xs := .inr ⟨F, 0, rfl, h.lt, fun i hi => by rw [Nat.zero_add]; exact h.el i (by omega)⟩
set_option maxHeartbeats 2000000 in
theorem slopeI (a : Option Addr) (n c : Nat) (p : List Int) (w : World) (h : Sl w a p) (hl : p.length = n) (h2 : 2 ≤ n) (h5 : n ≤ 5) (hp : p.any bey7 = false) :
    Calls Try.prog 64 #[.slice a n c] w fun e w' => e = .returned (.slice (some ⟨w.heap.size, 0, none⟩) (n - 1) (n - 1)) ∧ Below w.heap.size w w' ∧ Sl w' (some ⟨w.heap.size, 0, none⟩) (slope p) := by
  have HS := hide h
  have HL := hide hl
  have HP := hide hp
  clear h hl hp
  obtain ⟨N, hN⟩ : ∃ N, N = n - 1 := ⟨_, rfl⟩
  rw [← hN]
  have eN : ((N : Nat) : Int) = (n : Int) - 1 := by omega
  have EN := hide eN
  have n5 : N + 1 = n := by omega
  have NN := hide n5
  have N5 : N ≤ 4 := by omega
  clear eN hN n5
  obtain ⟨i1, hi1, hy0, hy1, hy2⟩ := info_parts (show (Try.prog.info? 3).map (fun i => (i.zero, i.size, i.bytes)) = some (some (.int .i64 0), 1, 8) by kernel_rfl)
  have I1 := hide (And.intro hi1 (And.intro hy0 (And.intro hy1 hy2)))
  clear hi1 hy0 hy1 hy2
  go_enter Try.func64, Try.ntmps64
  go_wp2_with (at_make; refine wpList_make_full _ rfl _ _ 25 rfl w.heap.size 3 i1 (.int .i64 0) 1 Try.underlying25 (unhide I1).1 (unhide I1).2.1 (unhide I1).2.2.1 .i64 .i64 _ _ N rfl rfl (unhide EN).symm (unhide EN).symm ?c1 ?c2 ?c3 ?_)
  case c1 => rw [(unhide I1).2.2.2]; omega
  case c2 => unfold maxLen; omega
  case c3 => exact Nat.le_refl _
  intro w0 hown hgrow
  have hb0 : Below w.heap.size w w0 := (Below.refl _ _).grown hgrow (Nat.le_refl _) (fun k e => by cases e)
  have A0 := hide (arr_ints hown)
  have HB0 := hide hb0
  clear hown hgrow hb0
  go_wp2
  go_loopw [11] (fun iv wr => ∃ i : Nat, i ≤ N ∧ iv = .int .i64 i ∧ Hid (Arr wr w.heap.size N (fun t => if t < i then .int .i64 ((slope p).getD t 0) else .int .i64 0)) ∧ Hid (Below w.heap.size w wr)) (fun iv _ => N - (intOf iv).toNat)
  case atStart => exact ⟨0, Nat.zero_le _, rfl, hide (by have h := unhide A0; exact ⟨h.lt, h.fz, fun q hq => by rw [h.el q hq, if_neg (by omega)]⟩), HB0⟩
  case round =>
    clear A0 HB0
    obtain ⟨i, hi, rfl, AR, HB⟩ := hrel
    by_cases hlt : i < N
    · have hlt' : (i : Int) < (N : Int) := by omega
      have nn := unhide NN
      have hl := unhide HL
      rcases (unhide HS) with e | ⟨b, off, rfl, hb, hc⟩
      · rw [e] at hl; simp at hl; omega
      have e0 : wr.cell? ⟨b, off + (i + 1), none⟩ = some (.int .i64 (p.getD (i + 1) 0)) := ((unhide HB).cell (p := ⟨b, off + (i + 1), none⟩) hb).trans (hc (i + 1) (by omega))
      have bx := bey_get (unhide HP) (i + 1)
      have by_ := slope_bd (unhide HP) (show i < 5 by omega)
      have ES : Hid ((slope p).getD i 0 = ((i : Int) + 1) * p.getD (i + 1) 0) := hide (slope_get (by omega))
      generalize p.getD (i + 1) 0 = x at e0 bx by_ ES
      clear hc hl
      have i1n : (i : Int) + 1 < (n : Int) := by omega
      have t1 : ((i : Int) + 1).toNat = i + 1 := by omega
      have c0 := (unhide AR).el i hlt
      have f0 := (unhide AR).fz i hlt
      have wm : IntKind.i64.wrap (((i : Int) + 1) * x) = ((i : Int) + 1) * x := by rw [IntKind.wrap_i64]; omega
      clear nn
      go_wp2
      all_goals go_roundw
      case rel =>
        have bt : But w.heap.size (w.heap.size + 1) wr (wr.setCell ⟨w.heap.size, i, none⟩ (.int .i64 (((i : Int) + 1) * x))) := (But.refl _ _ _).set (p := ⟨w.heap.size, i, none⟩) (Nat.le_refl _) (Nat.lt_succ_self _) _
        refine ⟨i + 1, by omega, by go_num, hide ((unhide AR).set hlt (fun q hq => ?_)), hide (bt.below (unhide HB) (Nat.le_refl _) (unhide HB).size)⟩
        by_cases y : q = i
        · subst y; rw [if_pos (by omega), if_pos rfl, unhide ES]
        · rw [if_neg y]
          by_cases y2 : q < i
          · rw [if_pos (by omega), if_pos y2]
          · rw [if_neg (by omega), if_neg y2]
      case measure => simp [intOf]; omega
    · obtain rfl : i = N := by omega
      go_wp2
      go_ret
      exact ⟨rfl, unhide HB, sl_of_arr (n := i) (by have h := unhide AR; exact ⟨h.lt, h.fz, fun q hq => by rw [h.el q hq, if_pos hq]⟩) (by rw [slope_len, unhide HL]; have := unhide NN; omega)⟩
set_option maxHeartbeats 4000000 in
theorem discI_v (a : Option Addr) (n c : Nat) (p : List Int) (w : World) (h : Arg w a n c p) :
    Calls Try.prog 38 #[.slice a n c] w (RetB w (fun d ok => Ans (gC 3 p) (barVal (syl p (slope p)) (n - 1 + (n - 1 - 1))) d.g d.xs ok)) := by
  have A0 := hide h
  have hl := h.len
  have hmx : n ≤ maxLen := Nat.le_trans h.cap h.top
  unfold maxLen at hmx
  clear h
  have CG := hide (fun w1 (k : Arg w1 a n c p) => goodRI a n c p w1 k)
  cases hg : gC 2 p
  · rw [hg] at CG
    have PF : Hid (gC 3 p = false) := hide (by
      by_cases e : gC 3 p = true
      · have e2 : gC 2 p = true := by
          unfold gC at e ⊢
          rw [Bool.and_eq_true, Bool.and_eq_true] at e ⊢
          exact ⟨⟨decide_eq_true (by have := of_decide_eq_true e.1.1; omega), e.1.2⟩, e.2⟩
        rw [e2] at hg; cases hg
      · simpa using e)
    clear hg hl
    go_enter Try.func38, Try.ntmps38
    go_upto_region 1 with fail
    have hb0 : Below w.heap.size w (w.alloc (.cells #[.bool false, .slice none 0 0] 27)) := (Below.refl _ _).alloc (Nat.le_refl _) _
    have RS0 : Rs7 (w.alloc (.cells #[.bool false, .slice none 0 0] 27)) w.heap.size := ⟨⟨⟨false, none, 0, 0⟩, by simp [go_sem], by simp [go_sem]⟩, fun o => by simp [go_sem]⟩
    have sz0 : (w.alloc (.cells #[.bool false, .slice none 0 0] 27)).heap.size = w.heap.size + 1 := by simp
    generalize w.alloc (.cells #[.bool false, .slice none 0 0] 27) = wz at *
    have RS := hide RS0
    have HB := hide hb0
    replace A0 := hide ((unhide A0).later hb0)
    clear hb0 RS0
    go_wp2_with fail
    refine (unhide CG _ (unhide A0)).mono ?_
    rintro e w1 ⟨rfl, hb⟩
    replace A0 := hide ((unhide A0).later hb)
    replace RS := hide ((unhide RS).later hb)
    replace HB := hide (below_on (unhide HB) hb)
    have szw1 := hb.size
    clear hb
    obtain ⟨bz, r0, r1⟩ := (unhide RS).c
    have rf := (unhide RS).f
    go_wp2
    refine bodyPost_ret (v := .tuple #[.agg #[.bool false, .slice none 0 0], .bool false]) (by simp [results, Try.results38, go_sem, r0, r1]) rfl ?_
    exact retB_no ((metB_but (w5 := w1) (v := ⟨false, none, 0, 0⟩) (G := w.heap.size)).below (unhide HB) (Nat.le_refl _) (unhide HB).size) (unhide PF)
  rw [hg] at CG
  obtain ⟨s1, s2, s3⟩ := gC_sm hg
  rw [hl] at s2 s3
  by_cases h3 : n < 3
  · have d3 : decide ((n : Int) < 3) = true := decide_eq_true (by omega)
    have PF : Hid (gC 3 p = false) := hide (by unfold gC; rw [decide_eq_false (show ¬ 3 ≤ p.length by omega)]; rfl)
    clear hg hl s1
    go_enter Try.func38, Try.ntmps38
    go_upto_region 1 with fail
    have hb0 : Below w.heap.size w (w.alloc (.cells #[.bool false, .slice none 0 0] 27)) := (Below.refl _ _).alloc (Nat.le_refl _) _
    have RS0 : Rs7 (w.alloc (.cells #[.bool false, .slice none 0 0] 27)) w.heap.size := ⟨⟨⟨false, none, 0, 0⟩, by simp [go_sem], by simp [go_sem]⟩, fun o => by simp [go_sem]⟩
    have sz0 : (w.alloc (.cells #[.bool false, .slice none 0 0] 27)).heap.size = w.heap.size + 1 := by simp
    generalize w.alloc (.cells #[.bool false, .slice none 0 0] 27) = wz at *
    have RS := hide RS0
    have HB := hide hb0
    replace A0 := hide ((unhide A0).later hb0)
    clear hb0 RS0
    go_wp2_with fail
    refine (unhide CG _ (unhide A0)).mono ?_
    rintro e w1 ⟨rfl, hb⟩
    replace A0 := hide ((unhide A0).later hb)
    replace RS := hide ((unhide RS).later hb)
    replace HB := hide (below_on (unhide HB) hb)
    have szw1 := hb.size
    clear hb
    obtain ⟨bz, r0, r1⟩ := (unhide RS).c
    have rf := (unhide RS).f
    go_wp2
    refine bodyPost_ret (v := .tuple #[.agg #[.bool false, .slice none 0 0], .bool false]) (by simp [results, Try.results38, go_sem, r0, r1]) rfl ?_
    exact retB_no ((metB_but (w5 := w1) (v := ⟨false, none, 0, 0⟩) (G := w.heap.size)).below (unhide HB) (Nat.le_refl _) (unhide HB).size) (unhide PF)
  have d3 : decide ((n : Int) < 3) = false := decide_eq_false (by omega)
  have PT : Hid (gC 3 p = true) := hide (by
    have e := hg
    unfold gC at e ⊢
    rw [Bool.and_eq_true, Bool.and_eq_true] at e ⊢
    exact ⟨⟨decide_eq_true (by omega), e.1.2⟩, e.2⟩)
  have PB := hide (gC_bey hg)
  have SP := hide s1
  have SQ := hide (slope_sm (gC_bey hg) (by omega))
  have HL := hide hl
  have HL' : Hid ((slope p).length = n - 1) := hide (by rw [slope_len, hl])
  have BV_ : Hid (Bd (barVal (syl p (slope p)) (n - 1 + (n - 1 - 1))) 25) := hide (bar_bd (by omega) (fun r c => syl_bd s1 (unhide SQ) r c))
  clear hg hl s1
  go_enter Try.func38, Try.ntmps38
  go_upto_region 1 with fail
  have hb0 : Below w.heap.size w (w.alloc (.cells #[.bool false, .slice none 0 0] 27)) := (Below.refl _ _).alloc (Nat.le_refl _) _
  have RS0 : Rs7 (w.alloc (.cells #[.bool false, .slice none 0 0] 27)) w.heap.size := ⟨⟨⟨false, none, 0, 0⟩, by simp [go_sem], by simp [go_sem]⟩, fun o => by simp [go_sem]⟩
  have sz0 : (w.alloc (.cells #[.bool false, .slice none 0 0] 27)).heap.size = w.heap.size + 1 := by simp
  generalize w.alloc (.cells #[.bool false, .slice none 0 0] 27) = wz at *
  have RS := hide RS0
  have HB := hide hb0
  replace A0 := hide ((unhide A0).later hb0)
  clear hb0 RS0
  go_wp2_with fail
  refine (unhide CG _ (unhide A0)).mono ?_
  rintro e w1 ⟨rfl, hb⟩
  replace A0 := hide ((unhide A0).later hb)
  replace RS := hide ((unhide RS).later hb)
  replace HB := hide (below_on (unhide HB) hb)
  have szw1 := hb.size
  clear hb
  go_wp2_with fail
  refine (slopeI a n c p _ (unhide A0).sl (unhide HL) (by omega) (by omega) (unhide PB)).mono ?_
  rintro e w2 ⟨rfl, hb, sl⟩
  replace A0 := hide ((unhide A0).later hb)
  replace RS := hide ((unhide RS).later hb)
  replace HB := hide (below_on (unhide HB) hb)
  have szw2 := hb.size
  have S2 := hide sl
  clear sl
  clear hb
  go_wp2_with fail
  refine (sylI_v a _ n (n - 1) c _ p (slope p) _ (unhide A0).sl (unhide S2) (unhide HL) (unhide HL') (by omega) (by omega) (by omega) (by omega) (unhide SP) (unhide SQ)).mono ?_
  rintro e w3 ⟨R, rfl, hb, hm⟩
  replace RS := hide ((unhide RS).later hb)
  replace HB := hide (below_on (unhide HB) hb)
  have szw3 := hb.size
  have HM := hide hm.v
  clear hm
  clear hb
  go_wp2_with fail
  refine (detI_v _ (n - 1 + (n - 1 - 1)) _ (syl p (slope p)) _ (unhide HM) (by omega) (by omega) (fun i j _ _ => syl_bd (unhide SP) (unhide SQ) i j)).mono ?_
  rintro e w4 ⟨x, lx, rfl, hb, ox, ax, nx⟩
  replace RS := hide ((unhide RS).later hb)
  replace HB := hide (below_on (unhide HB) hb)
  have szw4 := hb.size
  have OD := hide (outN_ow ox ax nx)
  clear ox ax nx
  clear hb
  obtain ⟨bz, r0, r1⟩ := (unhide RS).c
  have rf := (unhide RS).f
  go_wp2
  refine bodyPost_ret (v := .tuple #[.agg #[.bool x.g, .slice x.a x.n x.c], .bool true]) (by simp [results, Try.results38, go_sem, r0, r1]) rfl ?_
  have bt := metB_but (w5 := w4) (v := x) (G := w.heap.size)
  exact retB_yes (((unhide OD).blk bt r0 (notI_b _)).wide (Nat.le_refl _) (by have := bt.size; omega)) (by omega) (Nat.le_refl _) (bt.below (unhide HB) (Nat.le_refl _) (unhide HB).size) ((unhide BV_).mono (by omega)) (unhide PT)
set_option maxHeartbeats 4000000 in
theorem discS_v (a : Option Addr) (n c : Nat) (p : List Int) (w : World) (h : Arg w a n c p) :
    Calls Try.prog 37 #[.slice a n c] w (RetB w (fun d ok => Ans (gC 3 p) (barVal (syl p (slope p)) (n - 1 + (n - 1 - 1))) d.g d.xs ok)) := by
  have A0 := hide h
  have hl := h.len
  have hmx : n ≤ maxLen := Nat.le_trans h.cap h.top
  unfold maxLen at hmx
  clear h
  have CG := hide (fun w1 (k : Arg w1 a n c p) => polyS7 a n c 3 p w1 k (by omega) (by omega))
  cases hg : gC 3 p
  · rw [hg] at CG
    clear hg hl
    go_enter Try.func37, Try.ntmps37
    go_upto_region 1 with fail
    have hb0 : Below w.heap.size w (w.alloc (.cells #[.bool false, .slice none 0 0] 27)) := (Below.refl _ _).alloc (Nat.le_refl _) _
    have RS0 : Rs7 (w.alloc (.cells #[.bool false, .slice none 0 0] 27)) w.heap.size := ⟨⟨⟨false, none, 0, 0⟩, by simp [go_sem], by simp [go_sem]⟩, fun o => by simp [go_sem]⟩
    have sz0 : (w.alloc (.cells #[.bool false, .slice none 0 0] 27)).heap.size = w.heap.size + 1 := by simp
    generalize w.alloc (.cells #[.bool false, .slice none 0 0] 27) = wz at *
    have RS := hide RS0
    have HB := hide hb0
    replace A0 := hide ((unhide A0).later hb0)
    clear hb0 RS0
    go_wp2_with fail
    refine (unhide CG _ (unhide A0)).mono ?_
    rintro e w1 ⟨rfl, rfl⟩
    obtain ⟨bz, r0, r1⟩ := (unhide RS).c
    have rf := (unhide RS).f
    go_wp2
    refine bodyPost_ret (v := .tuple #[.agg #[.bool false, .slice none 0 0], .bool false]) (by simp [results, Try.results37, go_sem, r0, r1]) rfl ?_
    exact retB_no ((metB_but (w5 := w1) (v := ⟨false, none, 0, 0⟩) (G := w.heap.size)).below (unhide HB) (Nat.le_refl _) (unhide HB).size) rfl
  rw [hg] at CG
  obtain ⟨s1, s2, s3⟩ := gC_sm hg
  rw [hl] at s2 s3
  have PB := hide (gC_bey hg)
  have SP := hide s1
  have SQ := hide (slope_sm (gC_bey hg) (by omega))
  have HL := hide hl
  have HL' : Hid ((slope p).length = n - 1) := hide (by rw [slope_len, hl])
  have BV_ : Hid (Bd (barVal (syl p (slope p)) (n - 1 + (n - 1 - 1))) 25) := hide (bar_bd (by omega) (fun r c => syl_bd s1 (unhide SQ) r c))
  clear hg hl s1
  obtain ⟨i1, hi1, hy0, hy1, hy2⟩ := info_parts (show (Try.prog.info? 3).map (fun i => (i.zero, i.size, i.bytes)) = some (some (.int .i64 0), 1, 8) by kernel_rfl)
  have I1 := hide (And.intro hi1 (And.intro hy0 (And.intro hy1 hy2)))
  clear hi1 hy0 hy1 hy2
  go_enter Try.func37, Try.ntmps37
  go_upto_region 1 with fail
  have hb0 : Below w.heap.size w (w.alloc (.cells #[.bool false, .slice none 0 0] 27)) := (Below.refl _ _).alloc (Nat.le_refl _) _
  have RS0 : Rs7 (w.alloc (.cells #[.bool false, .slice none 0 0] 27)) w.heap.size := ⟨⟨⟨false, none, 0, 0⟩, by simp [go_sem], by simp [go_sem]⟩, fun o => by simp [go_sem]⟩
  have sz0 : (w.alloc (.cells #[.bool false, .slice none 0 0] 27)).heap.size = w.heap.size + 1 := by simp
  generalize w.alloc (.cells #[.bool false, .slice none 0 0] 27) = wz at *
  have RS := hide RS0
  have HB := hide hb0
  replace A0 := hide ((unhide A0).later hb0)
  clear hb0 RS0
  go_wp2_with fail
  refine (unhide CG _ (unhide A0)).mono ?_
  rintro e w1 ⟨rfl, rfl⟩
  go_wp2
  go_loopw [4, 5] (fun vd kv wr => ∃ k : Nat, k ≤ n - 1 ∧ kv = .int .i64 ((k : Int) + 1) ∧ Hid (wr.ownsRow w1.heap.size 3 1 vd k (((slope p).take k).map (Value.int .i64))) ∧ Hid (Rs7 wr w.heap.size) ∧ Hid (Below w1.heap.size w1 wr)) (fun _ kv _ => n - (intOf kv).toNat)
  case atStart => exact ⟨0, Nat.zero_le _, rfl, hide ⟨by simp, .inl ⟨rfl, rfl⟩⟩, RS, hide (Below.refl _ _)⟩
  case round =>
    clear RS
    obtain ⟨k, hk, rfl, OW, RS, HC⟩ := hrel
    by_cases hlt : k < n - 1
    · have hlt' : (k : Int) + 1 < (n : Int) := by omega
      have hl := unhide HL
      rcases (unhide A0).sl with e | ⟨b, off, rfl, hb, hc⟩
      · rw [e] at hl; simp at hl; omega
      have e0 : wr.cell? ⟨b, off + (k + 1), none⟩ = some (.int .i64 (p.getD (k + 1) 0)) := ((unhide HC).cell (p := ⟨b, off + (k + 1), none⟩) hb).trans (hc (k + 1) (by omega))
      have bx := bey_get (unhide PB) (k + 1)
      have by_ := slope_bd (unhide PB) (show k < 5 by omega)
      have ES : Hid ((slope p).getD k 0 = ((k : Int) + 1) * p.getD (k + 1) 0) := hide (slope_get (by omega))
      generalize p.getD (k + 1) 0 = x at e0 bx by_ ES
      clear hc hl
      have t1 : ((k : Int) + 1).toNat = k + 1 := by omega
      have wm : IntKind.i64.wrap (((k : Int) + 1) * x) = ((k : Int) + 1) * x := by rw [IntKind.wrap_i64]; omega
      have hb3 : Below wr.heap.size wr (wr.alloc (.cells #[.int .i64 (((k : Int) + 1) * x)] 3)) := (Below.refl _ _).alloc (Nat.le_refl _) _
      have sz3 : (wr.alloc (.cells #[.int .i64 (((k : Int) + 1) * x)] 3)).heap.size = wr.heap.size + 1 := by simp
      have szB := (unhide HC).size
      have OW3 := hide (owns_later7 (unhide OW) hb3)
      have RS3 := hide ((unhide RS).later hb3)
      have HC3 := hide (below_on (unhide HC) hb3)
      have HBw := (unhide HB).size
      clear OW RS HC hb3
      go_wp2_with (at_builtin; refine wpList_append_lies _ rfl (.tmp 16) (.tmp 23) 25 rfl w1.heap.size 3 i1 (.int .i64 0) 1 8 Try.underlying25 (unhide I1).1 (unhide I1).2.1 (unhide I1).2.2.1 (unhide I1).2.2.2 rfl (by decide) _ k (((slope p).take k).map (Value.int .i64)) rfl (unhide OW3) ⟨wr.heap.size, 0, none⟩ 1 1 [.int .i64 (((k : Int) + 1) * x)] rfl rfl (World.news_of_block (cs := #[.int .i64 (((k : Int) + 1) * x)]) (t := 3) (fr := (0, 0)) (heap_alloc_new wr _)) (by intro u' hu'; simp at hu'; rw [hu']; rfl) (by omega) (by unfold maxLen; omega) (by omega) (by omega) (wr.heap.size + 1) (by simp) ?_; intro g cap w4 hown hgrow hor hglt)
      have RB := hide (below_gr7 (unhide HC3) hgrow (unhide OW3) (Nat.le_refl _) (by omega))
      have RR : Hid (Rs7 w4 w.heap.size) := hide (by
        obtain ⟨bz, r0, r1⟩ := (unhide RS3).c
        have ne : ∀ v : Value, (∀ g, v.ownBlock = some g → w1.heap.size ≤ g) → v.ownBlock ≠ some w.heap.size := fun v hv e => by have := hv _ e; omega
        have n1 := ne _ (fun g e => (owns_lt7 (unhide OW3) e).2)
        exact ⟨⟨bz, cell_gr7 hgrow r0 n1, cell_gr7 hgrow r1 n1⟩, fun o => frozen_gr7 hgrow ((unhide RS3).f o) (World.block_lt_of_cell? _ _ r0) n1⟩)
      have TK : Hid (((slope p).take (k + 1)).map (Value.int .i64) = ((slope p).take k).map (Value.int .i64) ++ [.int .i64 (((k : Int) + 1) * x)]) := hide (by
        rw [take_succ7 (by rw [unhide HL']; exact hlt), List.map_append, unhide ES]; rfl)
      have OWN := hide hown
      clear hown hgrow hor hglt OW3 RS3 HC3 e0
      go_wp2
      go_roundw
      case rel => exact ⟨k + 1, by omega, by go_num, hide (by rw [unhide TK]; exact unhide OWN), RR, RB⟩
      case measure => simp [intOf]; omega
    · obtain rfl : k = n - 1 := by omega
      have hlt' : ¬ ((n - 1 : Nat) : Int) + 1 < (n : Int) := by omega
      have FM : Hid (∃ g cap, u4 = Value.slice (some ⟨g, 0, none⟩) (n - 1) cap) := hide (by
        rcases (unhide OW).2 with ⟨h', h2⟩ | ⟨g', cap', cur, hv, _⟩
        · omega
        · exact ⟨g', cap', hv⟩)
      obtain ⟨g, cap, rfl⟩ := unhide FM
      have SL : Hid (Sl wr (some ⟨g, 0, none⟩) (slope p)) := hide (by
        have h := unhide OW
        rw [List.take_of_length_le (by rw [unhide HL']; omega)] at h
        exact (Own.of_owns h (unhide HL')).sl)
      have HB2 := hide (below_on (unhide HB) (unhide HC))
      replace A0 := hide ((unhide A0).later (unhide HC))
      have szc := (unhide HC).size
      clear HB
      have HB := HB2
      clear HB2 OW HC FM
      go_wp2_with fail
      refine (sylS_v a _ n (n - 1) c _ (n - 1 + (n - 1 - 1)) p (slope p) _ (unhide A0).sl (unhide SL) (unhide HL) (unhide HL') (by omega) (by omega) (by omega) (by omega) (unhide SP) (unhide SQ) rfl).mono ?_
      rintro e w3 ⟨g3, cap3, R, rfl, hb, hm⟩
      replace RS := hide ((unhide RS).later hb)
      replace HB := hide (below_on (unhide HB) hb)
      have szw3 := hb.size
      have HM := hide hm.v
      clear hm
      clear hb
      go_wp2_with fail
      refine (detS_v _ (n - 1 + (n - 1 - 1)) _ (syl p (slope p)) _ (unhide HM) (by omega) (by omega) (fun i j _ _ => syl_bd (unhide SP) (unhide SQ) i j)).mono ?_
      rintro e w4 ⟨x, lx, rfl, hb, ox, ax, nx⟩
      replace RS := hide ((unhide RS).later hb)
      replace HB := hide (below_on (unhide HB) hb)
      have szw4 := hb.size
      have OD := hide (outN_ow ox ax nx)
      clear ox ax nx
      clear hb
      have xl : x.n ≤ 40 := (unhide OD).is.len ((unhide BV_).mono (by omega))
      go_wp2_with fail
      refine (fitS_in x.g x.a x.n x.c _ xl).mono ?_
      rintro e w5 ⟨rfl, hb⟩
      replace RS := hide ((unhide RS).later hb)
      replace OD := hide ((unhide OD).later hb)
      replace HB := hide (below_on (unhide HB) hb)
      have szw5 := hb.size
      clear hb
      obtain ⟨bz, r0, r1⟩ := (unhide RS).c
      have rf := (unhide RS).f
      go_wp2
      refine bodyPost_ret (v := .tuple #[.agg #[.bool x.g, .slice x.a x.n x.c], .bool true]) (by simp [results, Try.results37, go_sem, r0, r1]) rfl ?_
      have bt := metB_but (w5 := w5) (v := x) (G := w.heap.size)
      exact retB_yes (((unhide OD).blk bt r0 (notI_b _)).wide (Nat.le_refl _) (by have := bt.size; omega)) (by have := (unhide HB).size; omega) (Nat.le_refl _) (bt.below (unhide HB) (Nat.le_refl _) (unhide HB).size) ((unhide BV_).mono (by omega)) rfl
end Go.Proofs.Ytaaajmdneaaeeaa
namespace Go.Proofs.Ytaaajmdneaaeeaa
open Go.RowKit
set_option linter.unusedVariables false
set_option maxRecDepth 100000
set_option linter.unusedSimpArgs false

/-- A slice of integers in memory of the law's own. -/
structure OwI (lo hi : Nat) (w : World) (g n : Nat) (xs : List Int) : Prop where
  own : Own2 lo hi w (some ⟨g, 0, none⟩) xs
  arg : Arg w (some ⟨g, 0, none⟩) n n xs
theorem OwI.later {lo hi : Nat} {w w' : World} {g n : Nat} {xs : List Int} (h : OwI lo hi w g n xs) (hb : Below w.heap.size w w') : OwI lo hi w' g n xs := ⟨h.own.later hb, h.arg.later hb⟩
theorem OwI.but {lo hi lo' hi' : Nat} {w w' : World} {g n : Nat} {xs : List Int} (h : OwI lo hi w g n xs) (hb : But lo' hi' w w') (hd : hi ≤ lo' ∨ hi' ≤ lo) : OwI lo hi w' g n xs := by
  have o := h.own.but hb hd
  exact ⟨o, ⟨o.sl, h.arg.len, h.arg.cap, h.arg.top, h.arg.addr⟩⟩
theorem toI_own (a : Option Addr) (n c : Nat) (xs : List Int) (w : World) (hx : Sl w a xs) (hn : xs.length = n) (h1 : n ≤ 1048576) :
    Calls Try.prog 30 #[.slice a n c] w fun e w' => ∃ g, e = .returned (.slice (some ⟨g, 0, none⟩) n n) ∧ Below w.heap.size w w' ∧ OwI w.heap.size w'.heap.size w' g n xs := by
  refine (toI_any a n c xs w hx hn h1).mono ?_
  rintro e w' ⟨g, rfl, hb, ho⟩
  have o := Own.of_owns ho hn
  exact ⟨g, rfl, hb, ⟨o.two, ⟨o.sl, hn, Nat.le_refl _, by unfold maxLen; omega, .inr ⟨_, _, rfl⟩⟩⟩⟩
theorem ans_bd {P : Bool} {V : Int} {d d' : BD} {ok ok' : Bool} (h : Ans P V d.g d.xs ok) (k : Ans P V d'.g d'.xs ok') : d = d' ∧ ok = ok' := by
  obtain ⟨e1, e2, e3⟩ := h.same k
  obtain ⟨g, xs⟩ := d
  obtain ⟨g', xs'⟩ := d'
  simp only at e1 e2
  subst e1 e2
  exact ⟨rfl, e3⟩
theorem ans_len {P : Bool} {V : Int} {d : BD} {ok : Bool} (h : Ans P V d.g d.xs ok) : d.xs.length ≤ 40 := by
  rcases h with ⟨_, ts, _, ⟨h1, _, _, h4⟩ | ⟨_, _, _, h4⟩⟩ | ⟨_, _, _, h4⟩
  · rw [h4]; exact h1
  · rw [h4]; simp
  · rw [h4]; simp
end Go.Proofs.Ytaaajmdneaaeeaa
namespace Go.Proofs.Ytaaajmdneaaeeaa
open Go.RowKit
set_option linter.unusedVariables false
set_option maxRecDepth 100000
set_option linter.unusedSimpArgs false

set_option maxRecDepth 100000 in
set_option maxHeartbeats 16000000 in
theorem lawDisc7_walk (a0 : Option Addr) (n0 c0 : Nat) (xs0 : List Int) (w : World) (h0 : Sl w a0 xs0) (hn0 : xs0.length = n0) (hm0 : n0 ≤ maxLen) :
    Calls Try.prog 8 #[.slice a0 n0 c0] w fun e w' => e = .returned (.bool true) ∧ Below w.heap.size w w' := by
  by_cases hbig0 : 1048576 < n0
  · have hd : (1048576 : Int) < (n0 : Int) := by omega
    clear h0 hn0
    go_enter Try.func8, Try.ntmps8
    go_wp2
    go_ret
    exact ⟨rfl, Below.refl _ _⟩
  have hd0 : ¬ ((1048576 : Int) < (n0 : Int)) := by omega
  have hs0 : n0 ≤ 1048576 := by omega
  obtain ⟨U, HU⟩ : ∃ U : BD → Bool → Prop, Hid (U = (fun d ok => Ans (gC 3 xs0) (barVal (syl xs0 (slope xs0)) (n0 - 1 + (n0 - 1 - 1))) d.g d.xs ok)) := ⟨_, hide rfl⟩
  have US : Hid (∀ d ok d' ok', U d ok → U d' ok' → d = d' ∧ ok = ok') := hide (by rw [unhide HU]; exact fun d ok d' ok' h k => ans_bd h k)
  have UL : Hid (∀ d ok, U d ok → d.xs.length ≤ 40) := hide (by rw [unhide HU]; exact fun d ok h => ans_len h)
  have CS : Hid (∀ (a0 : Option Addr) (c0 : Nat) (w : World), Arg w a0 n0 c0 xs0 → Calls Try.prog 37 #[.slice a0 n0 c0] w (RetB w U)) := hide (by rw [unhide HU]; exact fun a0 c0 w h0 => discS_v a0 n0 c0 xs0 w h0)
  have CI : Hid (∀ (a0 : Option Addr) (c0 : Nat) (w : World), Arg w a0 n0 c0 xs0 → Calls Try.prog 38 #[.slice a0 n0 c0] w (RetB w U)) := hide (by rw [unhide HU]; exact fun a0 c0 w h0 => discI_v a0 n0 c0 xs0 w h0)
  clear HU
  have HS0 := hide h0
  have HN0 := hide hn0
  clear h0 hn0
  have HB := hide (Below.refl w.heap.size w)
  go_enter Try.func8, Try.ntmps8
  go_wp2_with fail
  refine (toI_own a0 n0 c0 xs0 _ ((unhide HS0).later (Nat.le_refl _) (unhide HB)) (unhide HN0) hs0).mono ?_
  rintro e ws0 ⟨gs0, rfl, hb, os0⟩
  replace HB := hide (below_on (unhide HB) hb)
  have s_ws0 := hb.size
  have Os0 := hide os0
  clear os0
  clear hb
  go_wp2_with fail
  refine (unhide CS _ _ _ (unhide Os0).arg).mono ?_
  rintro e wv ⟨vr, dr, okr, rfl, hb, hown, hu⟩
  clear Os0
  have UR := hide hu
  have V0 := hide (VarB.start 27 hown)
  have s_wv := hb.size
  replace HB := hide ((below_on (unhide HB) hb).alloc (below_on (unhide HB) hb).size (.cells #[.bool vr.g, .slice vr.a vr.n vr.c] 27))
  clear hb hown hu
  have r0 : vr.n ≤ 40 := by rw [← ((unhide V0).own.own (vr, dr) (by simp)).len]; exact unhide UL _ _ (unhide UR)
  have rm : vr.n ≤ maxLen := by unfold maxLen; omega
  have zv : (wv.alloc (.cells #[.bool vr.g, .slice vr.a vr.n vr.c] 27)).heap.size = wv.heap.size + 1 := by simp
  go_wp2_with fail
  refine (toI_own a0 n0 c0 xs0 _ ((unhide HS0).later (Nat.le_refl _) (unhide HB)) (unhide HN0) hs0).mono ?_
  rintro e wx0 ⟨gx0, rfl, hb, ox0⟩
  replace V0 := hide ((unhide V0).later hb)
  replace HB := hide (below_on (unhide HB) hb)
  have s_wx0 := hb.size
  have Ox0 := hide ox0
  clear ox0
  clear hb
  rw [zv] at s_wx0
  go_wp2_with fail
  refine (unhide CI _ _ _ (unhide Ox0).arg).mono ?_
  rintro e wg ⟨vg, dg, okg, rfl, hb, hown, hu⟩
  obtain ⟨e1, e2⟩ := unhide US _ _ _ _ (unhide UR) hu
  subst e1 e2
  replace V0 := hide (((unhide V0).later hb).later ((Below.refl _ _).alloc (Nat.le_refl _) (.cells #[.bool vg.g, .slice vg.a vg.n vg.c] 27)))
  replace Ox0 := hide (((unhide Ox0).later hb).later ((Below.refl _ _).alloc (Nat.le_refl _) (.cells #[.bool vg.g, .slice vg.a vg.n vg.c] 27)))
  have VG := hide (VarB.start 27 hown)
  have s_wg := hb.size
  replace HB := hide ((below_on (unhide HB) hb).alloc (below_on (unhide HB) hb).size (.cells #[.bool vg.g, .slice vg.a vg.n vg.c] 27))
  clear hb hown hu
  have en : vg.n = vr.n := by rw [← ((unhide VG).own.own (vg, dr) (by simp)).len, ← ((unhide V0).own.own (vr, dr) (by simp)).len]
  have q0 : vg.n ≤ 40 := by omega
  have qm : vg.n ≤ maxLen := by omega
  have ql : vg.n ≤ 1048576 := by omega
  have enh := hide en
  clear en
  have zg : (wg.alloc (.cells #[.bool vg.g, .slice vg.a vg.n vg.c] 27)).heap.size = wg.heap.size + 1 := by simp
  have p0 := (unhide VG).c0
  have p1 := (unhide VG).c1
  have p2 := (unhide V0).c0
  have p3 := (unhide V0).c1
  go_wp2_with fail
  refine (eqB_at vg vr dr _ (unhide VG).own.sl.head (unhide V0).own.sl.head qm).mono ?_
  rintro e wq1 ⟨rfl, hb⟩
  replace V0 := hide ((unhide V0).later hb)
  replace Ox0 := hide ((unhide Ox0).later hb)
  replace VG := hide ((unhide VG).later hb)
  replace HB := hide (below_on (unhide HB) hb)
  have s_wq1 := hb.size
  clear hb
  clear p0 p1 p2 p3
  rw [zg] at s_wq1
  go_wp2_with fail
  refine (toI_own a0 n0 c0 xs0 _ ((unhide HS0).later (Nat.le_refl _) (unhide HB)) (unhide HN0) hs0).mono ?_
  rintro e wy0 ⟨gy0, rfl, hb, oy0⟩
  replace V0 := hide ((unhide V0).later hb)
  replace Ox0 := hide ((unhide Ox0).later hb)
  replace VG := hide ((unhide VG).later hb)
  replace HB := hide (below_on (unhide HB) hb)
  have s_wy0 := hb.size
  have Oy0 := hide oy0
  clear oy0
  clear hb
  go_wp2_with fail
  refine (eqI_same _ _ n0 n0 n0 xs0 _ (unhide Ox0).arg.sl (unhide Oy0).arg.sl (unhide HN0) hm0).mono ?_
  rintro e we0 ⟨rfl, hb⟩
  replace V0 := hide ((unhide V0).later hb)
  replace Ox0 := hide ((unhide Ox0).later hb)
  replace VG := hide ((unhide VG).later hb)
  replace Oy0 := hide ((unhide Oy0).later hb)
  replace HB := hide (below_on (unhide HB) hb)
  have s_we0 := hb.size
  clear hb
  clear Oy0
  go_wp2_with fail
  refine (mark_own _ n0 n0 xs0 _ _ _ _ (unhide Ox0).own (unhide HN0) hs0 (by omega) (by omega)).mono ?_
  rintro e wm0 ⟨rfl, hbt, _⟩
  clear Ox0
  replace V0 := hide ((unhide V0).but hbt (by omega) (by omega))
  replace VG := hide ((unhide VG).but hbt (by omega) (by omega))
  replace HB := hide (hbt.below (unhide HB) (by omega) (unhide HB).size)
  have s_wm0 := hbt.size
  clear hbt
  have hk0 : decide ((1 : Int) + (n0 : Int) < 0) = false := decide_eq_false (by omega)
  have p0 := (unhide VG).c0
  have p1 := (unhide VG).c1
  have p2 := (unhide V0).c0
  have p3 := (unhide V0).c1
  go_wp2_with fail
  refine (eqB_at vg vr dr _ (unhide VG).own.sl.head (unhide V0).own.sl.head qm).mono ?_
  rintro e wq2 ⟨rfl, hb⟩
  replace V0 := hide ((unhide V0).later hb)
  replace VG := hide ((unhide VG).later hb)
  replace HB := hide (below_on (unhide HB) hb)
  have s_wq2 := hb.size
  clear hb
  clear p0 p1 p2 p3
  clear hk0
  have p0 := (unhide VG).c0
  have p1 := (unhide VG).c1
  go_wp2_with fail
  refine (markB_at vg dr [] [] 1 _ _ _ (unhide VG).own ql (by omega) (by omega)).mono ?_
  rintro e wn ⟨rfl, hbt, hmk⟩
  replace V0 := hide ((unhide V0).but hbt (by omega) (by omega))
  replace HB := hide (hbt.below (unhide HB) (by omega) (unhide HB).size)
  have s_wn := hbt.size
  replace VG := hide ((unhide VG).mark (d' := ⟨dr.g, marks 1 vg.n⟩) hbt (by omega) hmk)
  clear p0 p1 hbt hmk
  have p0 := (unhide VG).c0
  have p1 := (unhide VG).c1
  go_wp2_with fail
  refine (heldB_at vg 1 _ ((unhide VG).own.sl (vg, ⟨dr.g, marks 1 vg.n⟩) (by simp)).sl ql (by omega) (by omega)).mono ?_
  rintro e wh1 ⟨rfl, hb⟩
  replace V0 := hide ((unhide V0).later hb)
  replace VG := hide ((unhide VG).later hb)
  replace HB := hide (below_on (unhide HB) hb)
  have s_wh1 := hb.size
  clear hb
  clear p0 p1
  have hr0 : ¬ ((1 : Int) + (vg.n : Int) < 0) := by omega
  go_wp2_with fail
  refine (toI_own a0 n0 c0 xs0 _ ((unhide HS0).later (Nat.le_refl _) (unhide HB)) (unhide HN0) hs0).mono ?_
  rintro e wz0 ⟨gz0, rfl, hb, oz0⟩
  replace V0 := hide ((unhide V0).later hb)
  replace VG := hide ((unhide VG).later hb)
  replace HB := hide (below_on (unhide HB) hb)
  have s_wz0 := hb.size
  have Oz0 := hide oz0
  clear oz0
  clear hb
  go_wp2_with fail
  refine (unhide CI _ _ _ (unhide Oz0).arg).mono ?_
  rintro e wk ⟨vh, dh, okh, rfl, hb, hown, hu⟩
  obtain ⟨e1, e2⟩ := unhide US _ _ _ _ (unhide UR) hu
  subst e1 e2
  clear Oz0
  replace V0 := hide (((unhide V0).later hb).later ((Below.refl _ _).alloc (Nat.le_refl _) (.cells #[.bool vh.g, .slice vh.a vh.n vh.c] 27)))
  replace VG := hide (((unhide VG).later hb).later ((Below.refl _ _).alloc (Nat.le_refl _) (.cells #[.bool vh.g, .slice vh.a vh.n vh.c] 27)))
  have VH := hide (VarB.start 27 hown)
  replace HB := hide ((below_on (unhide HB) hb).alloc (below_on (unhide HB) hb).size (.cells #[.bool vh.g, .slice vh.a vh.n vh.c] 27))
  clear hb hown hu
  have hmh : vh.n ≤ maxLen := by rw [← ((unhide VH).own.own (vh, dr) (by simp)).len, ((unhide V0).own.own (vr, dr) (by simp)).len]; exact rm
  have p0 := (unhide VH).c0
  have p1 := (unhide VH).c1
  have p2 := (unhide V0).c0
  have p3 := (unhide V0).c1
  go_wp2_with fail
  refine (eqB_at vh vr dr _ (unhide VH).own.sl.head (unhide V0).own.sl.head hmh).mono ?_
  rintro e wq3 ⟨rfl, hb⟩
  replace V0 := hide ((unhide V0).later hb)
  replace VG := hide ((unhide VG).later hb)
  replace VH := hide ((unhide VH).later hb)
  replace HB := hide (below_on (unhide HB) hb)
  have s_wq3 := hb.size
  clear hb
  clear p0 p1 p2 p3
  clear VH
  have p0 := (unhide VG).c0
  have p1 := (unhide VG).c1
  go_wp2_with fail
  refine (heldB_at vg 1 _ ((unhide VG).own.sl (vg, ⟨dr.g, marks 1 vg.n⟩) (by simp)).sl ql (by omega) (by omega)).mono ?_
  rintro e wh2 ⟨rfl, hb⟩
  replace V0 := hide ((unhide V0).later hb)
  replace VG := hide ((unhide VG).later hb)
  replace HB := hide (below_on (unhide HB) hb)
  have s_wh2 := hb.size
  clear hb
  clear p0 p1
  go_wp2
  go_ret
  exact ⟨rfl, unhide HB⟩
end Go.Proofs.Ytaaajmdneaaeeaa
namespace Go.Proofs.Ytaaajmdneaaeeaa
open Go.RowKit
set_option linter.unusedVariables false
set_option maxRecDepth 100000
set_option linter.unusedSimpArgs false

/-- The cells of some values in a row. -/
def PAtQ (w : World) (a : Option Addr) (l : List (QV × QD)) : Prop := l = [] ∨ ∃ b off, a = some ⟨b, off, none⟩ ∧ b < w.heap.size ∧ ∀ i (h : i < l.length), w.cell? ⟨b, off + i * 4, none⟩ = some (.bool l[i].1.num.g) ∧ w.cell? ⟨b, off + i * 4 + 1, none⟩ = some (.slice l[i].1.num.a l[i].1.num.n l[i].1.num.c) ∧ w.cell? ⟨b, off + i * 4 + 2, none⟩ = some (.bool l[i].1.den.g) ∧ w.cell? ⟨b, off + i * 4 + 3, none⟩ = some (.slice l[i].1.den.a l[i].1.den.n l[i].1.den.c)
theorem PAtQ.later {w w' : World} {a : Option Addr} {l : List (QV × QD)} (h : PAtQ w a l) (hb : Below w.heap.size w w') : PAtQ w' a l := by
  rcases h with h | ⟨b, off, rfl, h1, h2⟩
  · exact .inl h
  · exact .inr ⟨b, off, rfl, Nat.lt_of_lt_of_le h1 hb.size, fun i hi => ⟨cell_later hb ((h2 i hi).1), cell_later hb ((h2 i hi).2.1), cell_later hb ((h2 i hi).2.2.1), cell_later hb ((h2 i hi).2.2.2)⟩⟩
structure PSlQ (w : World) (a : Option Addr) (l : List (QV × QD)) : Prop where
  at_ : PAtQ w a l
  rd : ∀ p ∈ l, AllSl w [(p.1.num, p.2.num), (p.1.den, p.2.den)]
theorem PSlQ.later {w w' : World} {a : Option Addr} {l : List (QV × QD)} (h : PSlQ w a l) (hb : Below w.heap.size w w') : PSlQ w' a l := ⟨h.at_.later hb, fun p hp => (h.rd p hp).later hb⟩
/-- .. as an argument. -/
structure PArQ (w : World) (a : Option Addr) (n c : Nat) (l : List (QV × QD)) : Prop where
  at_ : PAtQ w a l
  rd : ∀ p ∈ l, AllAr w [(p.1.num, p.2.num), (p.1.den, p.2.den)]
  len : l.length = n
  cap : n ≤ c
  top : c ≤ maxLen
theorem PArQ.later {w w' : World} {a : Option Addr} {n c : Nat} {l : List (QV × QD)} (h : PArQ w a n c l) (hb : Below w.heap.size w w') : PArQ w' a n c l := ⟨h.at_.later hb, fun p hp => (h.rd p hp).later hb, h.len, h.cap, h.top⟩
theorem PArQ.sl {w : World} {a : Option Addr} {n c : Nat} {l : List (QV × QD)} (h : PArQ w a n c l) : PSlQ w a l := ⟨h.at_, fun p hp => (h.rd p hp).sl⟩
end Go.Proofs.Ytaaajmdneaaeeaa
namespace Go.Proofs.Ytaaajmdneaaeeaa
open Go.ChangeShapes Go.WideShapes Go.ChangeAt Go.RowKit Go.Joins
set_option linter.unusedVariables false
set_option maxRecDepth 100000
set_option linter.unusedSimpArgs false

end Go.Proofs.Ytaaajmdneaaeeaa
namespace Go.Proofs.Ytaaajmdneaaeeaa
open Go.ChangeShapes Go.WideShapes Go.ChangeAt Go.RowKit Go.Joins
set_option linter.unusedVariables false
set_option maxRecDepth 100000
set_option linter.unusedSimpArgs false

theorem open_IS {H : Type} {enc : TypeId × Value → H} {W : World} {r : Reach} {b0 : Nat} {v : Value} {d : DataW H} {p : List MemPlace}
    (hv : Value.okWide Try.prog W r b0 25 v) (h : DataW.Trod enc Try.prog W 0 (fun _ => true) true 25 v d p) :
    ∃ (a : Option Addr) (n c : Nat) (xs : List Int), v = .slice a n c ∧ Sl W a xs ∧ xs.length = n ∧ n ≤ maxLen := by
  obtain ⟨a, n, c, rfl⟩ := okWide_slice Try.underlying25 hv
  obtain ⟨fuel, hf⟩ := h
  rcases open_ints Try.underlying25 Try.underlying3 Try.cells3 hf with ⟨hcs, _⟩ | ⟨x, l, c', zs, hcs, _, hl, hm, hz, _, hcell, hwz⟩
  · simp only [Value.cells, List.cons.injEq, Value.slice.injEq, and_true] at hcs
    obtain ⟨rfl, rfl, rfl⟩ := hcs
    exact ⟨none, 0, 0, [], rfl, .inl rfl, rfl, Nat.zero_le _⟩
  · simp only [Value.cells, List.cons.injEq, Value.slice.injEq, and_true] at hcs
    obtain ⟨rfl, rfl, rfl⟩ := hcs
    simp only [if_true] at hz
    have hlen : (zs.take n).length = n := by rw [List.length_take]; omega
    refine ⟨some x, n, c, zs.take n, rfl, ?_, hlen, Nat.le_trans hl hm⟩
    by_cases h0 : n = 0
    · subst h0; exact .inl (by simp)
    · obtain ⟨b, off, spot⟩ := x
      have hc := hcell 0 (by omega)
      have hspot : spot = none := by simpa [Addr.add] using World.cell?_spot hc
      subst hspot
      refine .inr ⟨b, off, rfl, ?_, fun i hi => ?_⟩
      · exact World.block_lt_of_cell? _ _ hc
      · have := hcell i (by omega)
        have e : (zs.take n).getD i 0 = zs.getD i 0 := by
          simp only [List.getD_eq_getElem?_getD, List.getElem?_take]
          rw [if_pos (by omega)]
        rw [e]
        by_cases hi0 : i = 0
        · subst hi0; simpa [Addr.add] using this
        · simpa [Addr.add, hi0] using this
end Go.Proofs.Ytaaajmdneaaeeaa
namespace Go.Proofs.Ytaaajmdneaaeeaa
open Go.ChangeShapes Go.WideShapes Go.ChangeAt Go.RowKit Go.Joins
set_option linter.unusedVariables false
set_option maxRecDepth 100000
set_option linter.unusedSimpArgs false

set_option maxRecDepth 100000 in
theorem disc7_holds_lifted (os : Os) (started : os.Started) (H : Type) (enc : TypeId × Value → H) :
    ReturnsInHanded {} Try.checked os 8 .any (Rows.fnExactDiscriminantOfSpec.pre6 enc Try.prog Try.f8 Rows.fnExactDiscriminantOfRow.domain false) (Rows.fnExactDiscriminantOfSpec.post enc Try.prog Try.f8 false true false false) := by
  refine returnsInHanded_of_change (C := Try.checked) own started (by kernel_rfl) Try.func8
    (ChangeSpec.witness6 (enc := enc) (C := Try.checked) false ⟨#[], #[.slice none 0 0], []⟩ 8 (by kernel_rfl) (by kernel_rfl) (by kernel_rfl) (by kernel_rfl)) ?_
  intro W base args ds gs before hval0 hW hcnd _
  have hval : ∀ (j : Nat) t v, Try.f8.params[j]? = some t → args[j]? = some v → Value.okWide Try.prog W .any base t v := hval0
  have hW' := hW
  obtain ⟨p, q, hA0, hV, rfl, hfz, hnd⟩ := hW
  have hA : DataW.TrodAll enc Try.prog W 0 (fun _ => true) true Try.f8.params.toList args.toList ds p := hA0
  rw [Try.params8] at hA hval
  obtain ⟨v0, vs0, d0, ds0, p0, q0, hargs, rfl, rfl, h0, r0⟩ := trodAll_cons hA
  obtain ⟨rfl, rfl, rfl⟩ := trodAll_nil r0
  obtain rfl : args = #[v0] := by cases args; simp_all
  obtain ⟨rfl, rfl⟩ := trodVars_none hV
  have lt0 : ∀ x ∈ p0, x.block < W.heap.size := by obtain ⟨m, hm⟩ := h0; exact DataW.trod_lt m _ _ _ hm
  obtain ⟨a0, n0, c0, xs0, rfl, sl0, hn0, hm0⟩ := open_IS (hval 0 25 v0 rfl rfl) h0
  clear hA0 hval0
  refine (lawDisc7_walk a0 n0 c0 xs0 W sl0 hn0 hm0).mono fun e W' ⟨he, bel⟩ => ?_
  subst he
  exact ⟨_, rfl, _, _, _, [], _, [], hW', trodAll_mk1 (shut_bool Try.underlying4 _), (trodAll_cons_mk (Below.trod laidOut (by kernel_rfl) (of_decide_eq_true (by kernel_rfl)) h0 bel lt0) trodAll_mk0), rfl, bel.frame _, fun h => by cases h⟩

theorem disc7_holds_c0 : (Rows.fnExactDiscriminantOfRow.wf (OpenSpec.ofChange Rows.fnExactDiscriminantOfSpec)) = true := by kernel_rfl
theorem disc7_holds_c1 : (laidOutB Try.pinned.checked.prog) = true := by kernel_rfl
theorem disc7_holds_c2 : (mapsRowed Try.pinned.checked.prog) = true := by kernel_rfl
theorem disc7_holds_c3 : (Try.f8.params.all (Try.pinned.checked.prog.readableRec ·)) = true := by kernel_rfl
theorem disc7_holds_c4 : (namedTie Try.pinned.checked.prog Rows.fnExactDiscriminantOfRow.named Rows.fnExactDiscriminantOfSpec.vars) = true := by kernel_rfl
theorem disc7_holds_c5 : (Rows.fnExactDiscriminantOfRow.stops == []) = true := by kernel_rfl
theorem disc7_holds_c6 : (Try.pinned.checked.prog.stops == []) = true := by kernel_rfl
theorem disc7_holds_c7 : (Rows.fnExactDiscriminantOfRow.knobs == []) = true := by kernel_rfl
theorem disc7_holds_c8 : (Try.pinned.checked.prog.stopKnobs == []) = true := by kernel_rfl
theorem disc7_holds_c9 : (Rows.fnExactDiscriminantOfRow.inPlace == Try.pinned.checked.prog.inPlace 8) = true := by kernel_rfl
theorem disc7_holds_c10 : (Rows.fnExactDiscriminantOfRow.unfollowed == Try.pinned.checked.prog.unfollowed 8) = true := by kernel_rfl
theorem disc7_holds_c11 : (Rows.fnExactDiscriminantOfRow.recurses == Try.pinned.checked.prog.recurses 8) = true := by kernel_rfl
theorem disc7_holds_c12 : (Rows.fnExactDiscriminantOfRow.named == Try.pinned.checked.prog.varsNamed 8) = true := by kernel_rfl
theorem disc7_holds_c13 : (Rows.fnExactDiscriminantOfRow.maps == (Try.f8.params.toList ++ Rows.fnExactDiscriminantOfSpec.plain.varTypes Try.pinned.checked.prog).any (Try.pinned.checked.prog.mapsRec ·)) = true := by kernel_rfl
theorem disc7_holds_c14 : (Rows.fnExactDiscriminantOfRow.ifaces == (Try.f8.params.toList ++ Rows.fnExactDiscriminantOfSpec.plain.varTypes Try.pinned.checked.prog).any (Try.pinned.checked.prog.ifacesRec ·)) = true := by kernel_rfl
theorem disc7_holds_c15 : (Rows.fnExactDiscriminantOfRow.mapsOut == Try.pinned.checked.prog.mapsAmong Try.f8.resultTypes.toList) = true := by kernel_rfl
theorem disc7_holds_c16 : (Rows.fnExactDiscriminantOfRow.loops == (Try.f8.params.toList ++ Rows.fnExactDiscriminantOfSpec.plain.varTypes Try.pinned.checked.prog).any (Try.pinned.checked.prog.loopsFrom ·)) = true := by kernel_rfl
theorem disc7_holds_c17 : (Rows.fnExactDiscriminantOfRow.wideKeys == (Try.f8.params.toList ++ Rows.fnExactDiscriminantOfSpec.plain.varTypes Try.pinned.checked.prog ++ Try.f8.resultTypes.toList).any (Try.pinned.checked.prog.wideKeysFrom ·)) = true := by kernel_rfl
theorem disc7_holds_c18 : (Rows.fnExactDiscriminantOfSpec.vars.all (Try.pinned.checked.prog.varReadable ·)) = true := by kernel_rfl
theorem disc7_holds_c19 : (Try.f8.resultTypes.all (fun t => Try.pinned.checked.prog.readableRec t && decide (t < Try.pinned.checked.prog.types.size))) = true := by kernel_rfl
theorem disc7_holds_c20 : (Rows.fnExactDiscriminantOfRow.ifacesOut == Try.f8.resultTypes.toList.any (Try.pinned.checked.prog.ifacesRec ·)) = true := by kernel_rfl
theorem disc7_holds_c21 : (Rows.fnExactDiscriminantOfRow.loopsOut == Try.f8.resultTypes.toList.any (Try.pinned.checked.prog.loopsFrom ·)) = true := by kernel_rfl
theorem disc7_holds_c22 : (Rows.fnExactDiscriminantOfRow.plainKeys == Try.pinned.checked.prog.plainKeys) = true := by kernel_rfl
theorem disc7_holds_c23 : (Rows.fnExactDiscriminantOfRow.shortTexts.isNone) = true := by kernel_rfl
theorem disc7_holds_c24 : (Try.pinned.checked.prog.stopsHeard) = true := by kernel_rfl
theorem disc7_holds_c25 : (Try.pinned.checked.prog.mayEnter) = true := io_enter
theorem disc7_holds_c26 : (Rows.fnExactDiscriminantOfRow.lifted == Try.pinned.checked.prog.liftsFinal) = true := by rw [io_lifts]; kernel_rfl
theorem disc7_holds_c27 : (Try.pinned.checked.prog.make == some Rows.fnExactDiscriminantOfRow.make) = true := by rw [io_make]; kernel_rfl
theorem disc7_holds_c28 : (Rows.fnExactDiscriminantOfRow.kinds == (if Rows.fnExactDiscriminantOfRow.domain.isEmpty then [] else Try.f8.params.toList.map fun t => match Try.pinned.checked.prog.underlying t with | some (.int k) => some k | _ => none)) = true := by kernel_rfl
theorem disc7_holds_c29 : (Rows.fnExactDiscriminantOfRow.pinned == Rows.fnExactDiscriminantOfRow.pinnedBy) = true := by kernel_rfl
theorem disc7_holds_c30 : (Rows.fnExactDiscriminantOfRow.veiled == (Try.f8.params.toList ++ Rows.fnExactDiscriminantOfSpec.plain.varTypes Try.pinned.checked.prog ++ Try.f8.resultTypes.toList).any (Try.pinned.checked.prog.veiledRec ·)) = true := by kernel_rfl
theorem disc7_holds_c31 : (Rows.fnExactDiscriminantOfRow.veiledFits Try.pinned.checked.prog Try.f8.params.toList (Try.f8.params.toList ++ Rows.fnExactDiscriminantOfSpec.plain.varTypes Try.pinned.checked.prog ++ Try.f8.resultTypes.toList)) = true := by kernel_rfl
theorem disc7_holds_and {a b : Bool} (h : a = true) (k : b = true) : (a && b) = true := by rw [h, k]; rfl
theorem disc7_holds_closed : joinedFacts Try.pinned.checked.prog 8 Try.f8 Rows.fnExactDiscriminantOfSpec Rows.fnExactDiscriminantOfRow = true := (disc7_holds_and (disc7_holds_and (disc7_holds_and (disc7_holds_and (disc7_holds_and (disc7_holds_and (disc7_holds_and (disc7_holds_and (disc7_holds_and (disc7_holds_and (disc7_holds_and (disc7_holds_and (disc7_holds_and (disc7_holds_and (disc7_holds_and (disc7_holds_and (disc7_holds_and (disc7_holds_and (disc7_holds_and (disc7_holds_and (disc7_holds_and (disc7_holds_and (disc7_holds_and (disc7_holds_and (disc7_holds_and (disc7_holds_and (disc7_holds_and (disc7_holds_and (disc7_holds_and (disc7_holds_and (disc7_holds_and disc7_holds_c0 disc7_holds_c1) disc7_holds_c2) disc7_holds_c3) disc7_holds_c4) disc7_holds_c5) disc7_holds_c6) disc7_holds_c7) disc7_holds_c8) disc7_holds_c9) disc7_holds_c10) disc7_holds_c11) disc7_holds_c12) disc7_holds_c13) disc7_holds_c14) disc7_holds_c15) disc7_holds_c16) disc7_holds_c17) disc7_holds_c18) disc7_holds_c19) disc7_holds_c20) disc7_holds_c21) disc7_holds_c22) disc7_holds_c23) disc7_holds_c24) disc7_holds_c25) disc7_holds_c26) disc7_holds_c27) disc7_holds_c28) disc7_holds_c29) disc7_holds_c30) disc7_holds_c31)
theorem disc7_holds_named : Try.pinned.checked.prog.funcNamed Rows.fnExactDiscriminantOfRow.func = some 8 := by kernel_rfl
theorem disc7_holds_inst : Try.f8.isInstance Try.pinned.checked.prog Rows.fnExactDiscriminantOfRow.origin Rows.fnExactDiscriminantOfRow.targs := of_decide_eq_true (by kernel_rfl)
theorem disc7_holds_wrap : Try.f8.isWrapper Try.pinned.checked.prog Rows.fnExactDiscriminantOfRow.wrapper Rows.fnExactDiscriminantOfRow.mainSum := by unfold Func.isWrapper; first | (rw [if_pos (by decide +kernel)]; kernel_rfl) | (rw [if_neg (by decide +kernel)]; exact ⟨rfl, rfl⟩)
theorem disc7_holds : Rows.FnExactDiscriminantOfSaid :=
  OpenClaim.holds_of_wide 8 Try.f8 rfl rfl rfl rfl rfl rfl rfl ⟨rfl, rfl, rfl, rfl, rfl⟩ rfl rfl rfl rfl rfl disc7_holds_named Try.func8 disc7_holds_closed disc7_holds_inst disc7_holds_wrap
    (fun os started H enc _ => disc7_holds_lifted os started H enc)
#print axioms disc7_holds
end Go.Proofs.Ytaaajmdneaaeeaa
