/- Rows, and RunsOf of both sides, by value. No condition beyond those typed. Written by mkru16.py. -/
import Derived.Test.YtcgbpcipdanfhaaDoorRu15
namespace Go.Proofs.YtcgbpcipdanfhaaDoor
open Go.RowKit
set_option linter.unusedVariables false
set_option maxRecDepth 100000
set_option linter.unusedSimpArgs false

theorem any_take15 {xs : List Int} {i : Nat} (hi : i < xs.length) (h : (xs.take i).any byo = false) (b : Bool) (hb : byo (xs.getD i 0) = b) : (xs.take (i + 1)).any byo = b := by
  rw [take_succ14 hi, List.any_append, h]
  simp only [List.any_cons, List.any_nil]
  rw [hb]; cases b <;> rfl
theorem any_of15 {xs : List Int} {i : Nat} (hi : i < xs.length) (hb : byo (xs.getD i 0) = true) : xs.any byo = true := by
  rw [getD_at14 hi] at hb
  exact List.any_eq_true.2 ⟨_, List.getElem_mem hi, hb⟩
set_option maxHeartbeats 2000000 in
theorem rowS15 (a : Option Addr) (n c : Nat) (xs : List Int) (w : World) (h : Arg w a n c xs) :
    Calls Tryd.prog 43 #[.slice a n c] w fun e w' => e = .returned (.bool (rB15 xs)) ∧ Below w.heap.size w w' := by
  have HS := hide h.sl
  have HN := hide h.len
  have hm : n ≤ maxLen := Nat.le_trans h.cap h.top
  clear h
  unfold maxLen at hm
  go_enter Tryd.func43, Tryd.ntmps43
  go_wp2
  go_loopw [7] (fun iv wr => ∃ (i : Nat), i ≤ n ∧ iv = .int .i64 i ∧ Hid ((xs.take i).any byo = false) ∧ Hid (Below w.heap.size w wr)) (fun iv _ => n - (intOf iv).toNat)
  case atStart => exact ⟨0, Nat.zero_le _, rfl, hide (by simp), hide (Below.refl _ _)⟩
  case round =>
    obtain ⟨i, hi, rfl, EA, HB⟩ := hrel
    by_cases hlt : i < n
    · have hlt' : (i : Int) < (n : Int) := by omega
      have hil : i < xs.length := by rw [unhide HN]; exact hlt
      rcases unhide HS with e | ⟨b, off, rfl, hb, hc⟩
      · exact absurd (unhide HN) (by rw [e]; simp; omega)
      have e0 := hc i hil
      obtain ⟨y, hy⟩ : ∃ y, y = xs.getD i 0 := ⟨_, rfl⟩
      rw [← hy] at e0
      have E0 : wr.cell? ⟨b, off + i, none⟩ = some (.int .i64 y) := ((unhide HB).cell (p := ⟨b, off + i, none⟩) hb).trans e0
      have EY := hide hy
      clear e0 hc hy
      have CC := hide (fun w1 => l1In_any y 0 255 w1)
      rw [byo_in y] at CC
      cases hp : byo y
      · rw [hp] at CC
        have EN := hide (any_take15 hil (unhide EA) false (by rw [← unhide EY]; exact hp))
        clear hp EY EA
        go_wp2_with fail
        refine (unhide CC _).mono ?_
        rintro e w1 ⟨rfl, rfl⟩
        go_wp2
        go_roundw
        case rel => exact ⟨i + 1, by omega, by go_num, EN, HB⟩
        case measure => simp [intOf]; omega
      · rw [hp] at CC
        have EN := hide (show rB15 xs = false by unfold rB15; rw [any_of15 hil (by rw [← unhide EY]; exact hp)]; simp)
        clear hp EY EA
        go_wp2_with fail
        refine (unhide CC _).mono ?_
        rintro e w1 ⟨rfl, rfl⟩
        go_wp2
        go_ret
        exact ⟨by rw [unhide EN]; rfl, unhide HB⟩
    · obtain rfl : i = n := by omega
      have EL := hide (show rB15 xs = decide (((i : Nat) : Int) ≤ 100) from by
        have := unhide EA
        rw [← unhide HN, List.take_length] at this
        unfold rB15; rw [this, unhide HN]; simp; omega)
      generalize hq : decide (((i : Nat) : Int) ≤ 100) = q at *
      have EH := hide (show decide (i ≤ 100) = q by rw [← hq]; simp; omega)
      cases q
      · have l1 : ¬ ((i : Int) ≤ 100) := of_decide_eq_false hq
        clear hq
        go_wp2
        go_ret
        exact ⟨by rw [unhide EL]; rfl, unhide HB⟩
      · have l1 : (i : Int) ≤ 100 := of_decide_eq_true hq
        clear hq
        go_wp2
        go_ret
        exact ⟨by rw [unhide EL]; rfl, unhide HB⟩
theorem rt_nil15 {B : Nat} {w : World} : RtP B w none 0 0 [] := ⟨rfl, .inl rfl⟩
set_option maxHeartbeats 2000000 in
theorem RunsOfS (a : Option Addr) (n c : Nat) (xs : List Int) (w : World) (h : Arg w a n c xs) (h1 : n ≤ 1048576) :
    Calls Tryd.prog 10 #[.slice a n c] w fun e w' => ∃ a' n' c', e = .returned (.tuple #[.slice a' n' c', .bool (rB15 xs)]) ∧ Below w.heap.size w w' ∧ RtP w.heap.size w' a' n' c' (rV15 xs) ∧ n' ≤ 1048576 := by
  have HA := hide h
  have C1 := hide (fun w (k : Arg w a n c xs) => rowS15 a n c xs w k)
  have C2 := hide (fun w (k : Arg w a n c xs) => runsS a n c xs w k h1)
  have LB := hide (show (rns xs).length ≤ 1048576 by have := rns_len xs; rw [h.len] at this; omega)
  clear h
  cases hg : rB15 xs
  · have EV : rV15 xs = [] := by unfold rV15; rw [hg]; rfl
    rw [EV]
    rw [hg] at C1
    clear hg EV C2 LB
    go_enter Tryd.func10, Tryd.ntmps10
    go_wp2_with fail
    refine (unhide C1 _ (unhide HA)).mono ?_
    rintro e w1 ⟨rfl, hb⟩
    go_wp2_with fail
    go_ret2
    exact ⟨none, 0, 0, rfl, hb, rt_nil15, by omega⟩
  · have EV : rV15 xs = rns xs := by unfold rV15; rw [hg]; rfl
    rw [EV]
    rw [hg] at C1
    clear hg EV
    go_enter Tryd.func10, Tryd.ntmps10
    go_wp2_with fail
    refine (unhide C1 _ (unhide HA)).mono ?_
    rintro e w1 ⟨rfl, hb⟩
    replace HA := hide ((unhide HA).later hb)
    have HB := hide hb
    clear hb
    go_wp2_with fail
    refine (unhide C2 _ (unhide HA)).mono ?_
    rintro e w2 ⟨v, rfl, hb, hr⟩
    have HR := hide (hr.mono (unhide HB).size)
    replace HB := hide (below_on (unhide HB) hb)
    clear hb hr
    obtain ⟨a', c', rfl, r⟩ := (unhide HR).rt
    go_wp2_with fail
    go_ret2
    exact ⟨_, _, _, rfl, unhide HB, r, unhide LB⟩
set_option maxHeartbeats 4000000 in
theorem RunsOfI (a : Option Addr) (n c : Nat) (xs : List Int) (w : World) (h : Arg w a n c xs) (h1 : n ≤ 1048576) :
    Calls Tryd.prog 9 #[.slice a n c] w fun e w' => ∃ a' n' c', e = .returned (.tuple #[.slice a' n' c', .bool (rB15 xs)]) ∧ Below w.heap.size w w' ∧ RtP w.heap.size w' a' n' c' (rV15 xs) ∧ n' ≤ 1048576 := by
  have HA := hide h
  have hl := h.len
  have C1 := hide (fun w (k : Arg w a n c xs) => containsByo a n c xs w k)
  have C2 := hide (fun w (k : Arg w a n c xs) => runsI a n c xs w k h1)
  have LB := hide (show (rns xs).length ≤ 1048576 by have := rns_len xs; rw [h.len] at this; omega)
  clear h
  by_cases hn : (100 : Int) < (n : Int)
  · have hd : decide ((100 : Int) < (n : Int)) = true := decide_eq_true hn
    have hd' : decide (100 < n) = true := decide_eq_true (by omega)
    have EB : rB15 xs = false := by unfold rB15; rw [decide_eq_false (by omega)]; rfl
    have EV : rV15 xs = [] := by unfold rV15; rw [EB]; rfl
    rw [EV, EB]
    clear EV EB C1 C2 LB hl HA
    go_enter Tryd.func9, Tryd.ntmps9
    go_wp2
    go_ret2
    exact ⟨none, 0, 0, rfl, Below.refl _ _, rt_nil15, by omega⟩
  · have hd : decide ((100 : Int) < (n : Int)) = false := decide_eq_false hn
    have hd' : decide (100 < n) = false := decide_eq_false (by omega)
    have EB : rB15 xs = !xs.any byo := by unfold rB15; rw [decide_eq_true (by omega)]; rfl
    clear hn hl
    cases hg : xs.any byo
    · rw [hg] at C1 EB
      have EV : rV15 xs = rns xs := by unfold rV15; rw [EB]; rfl
      rw [EV, EB]
      clear hg EV EB
      go_enter Tryd.func9, Tryd.ntmps9
      go_wp2_with fail
      refine (unhide C1 _ (unhide HA)).mono ?_
      rintro e w1 ⟨rfl, hb⟩
      replace HA := hide ((unhide HA).later hb)
      have HB := hide hb
      clear hb
      go_wp2_with fail
      refine (unhide C2 _ (unhide HA)).mono ?_
      rintro e w2 ⟨v, rfl, hb, hr⟩
      have HR := hide (hr.mono (unhide HB).size)
      replace HB := hide (below_on (unhide HB) hb)
      clear hb hr
      obtain ⟨a', c', rfl, r⟩ := (unhide HR).rt
      go_wp2_with fail
      go_ret2
      exact ⟨_, _, _, rfl, unhide HB, r, unhide LB⟩
    · rw [hg] at C1 EB
      have EV : rV15 xs = [] := by unfold rV15; rw [EB]; rfl
      rw [EV, EB]
      clear hg EV EB C2 LB
      go_enter Tryd.func9, Tryd.ntmps9
      go_wp2_with fail
      refine (unhide C1 _ (unhide HA)).mono ?_
      rintro e w1 ⟨rfl, hb⟩
      go_wp2_with fail
      go_ret2
      exact ⟨none, 0, 0, rfl, hb, rt_nil15, by omega⟩
end Go.Proofs.YtcgbpcipdanfhaaDoor
