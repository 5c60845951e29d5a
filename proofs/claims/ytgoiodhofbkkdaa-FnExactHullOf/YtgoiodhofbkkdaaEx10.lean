/- Chapter 10: SortPts and HullOf of both sides. No condition beyond those typed. No condition beyond those typed. Written by mkex10.py. -/
import Derived.Test.YtgoiodhofbkkdaaHi10
namespace Go.Proofs.Ytgoiodhofbkkdaa
open Go.RowKit
set_option linter.unusedVariables false
set_option maxRecDepth 100000
set_option linter.unusedSimpArgs false

theorem RwP.rt {B : Nat} {w : World} {v : Value} {L : List (Int × Int)} (h : RwP B w v L) : ∃ a c, v = .slice a L.length c ∧ RtP B w a L.length c L := own_rt h.row rfl
theorem RtP.mono {B B' : Nat} {w : World} {a : Option Addr} {n c : Nat} {l : List (Int × Int)} (h : RtP B w a n c l) (hb : B' ≤ B) : RtP B' w a n c l := ⟨h.len, h.own.imp_right (fun ⟨G, e, hB, ho⟩ => ⟨G, e, Nat.le_trans hb hB, ho⟩)⟩
def srV (l : List (Int × Int)) : List (Int × Int) := if fitB l then sortP l else []
def huV (l : List (Int × Int)) : List (Int × Int) := if cloB l then hulV l else []
theorem hul_len (l : List (Int × Int)) : (hulV l).length ≤ 2 * l.length := by
  have h1 := sort_len l
  have h2 := chain_len (sortP l)
  have h3 := chain_len (sortP l).reverse
  unfold hulV
  split
  · omega
  · simp at h3 ⊢; omega
theorem fit_near {l : List (Int × Int)} (h : fitB l = true) : l.length ≤ 16 ∧ ∀ p ∈ l, Near p := by
  unfold fitB at h
  rw [Bool.and_eq_true, decide_eq_true_eq, List.all_eq_true] at h
  exact ⟨h.1, fun p hp => near_of (h.2 p hp)⟩
theorem fit_sp (l : List (Int × Int)) (n : Nat) (hn : l.length = n) : fitB l = (l.all gPt && !(decide ((16 : Int) < (n : Int)))) := by
  unfold fitB
  rw [hn, Bool.and_comm]
  congr 1
  rw [Bool.eq_iff_iff]
  simp
  omega
set_option maxHeartbeats 2000000 in
theorem SortPtsS (a : Option Addr) (n c : Nat) (l : List (Int × Int)) (w : World) (h : ArP w a n c l) (h1 : n ≤ 1048576) :
    Calls Try.prog 16 #[.slice a n c] w fun e w' => ∃ a' n' c', e = .returned (.tuple #[.slice a' n' c', .bool (fitB l)]) ∧ Below w.heap.size w w' ∧ RtP w.heap.size w' a' n' c' (srV l) ∧ n' ≤ 1048576 := by
  have hn := h.len
  have HS := hide h.sl
  have C1 := hide (fun w (k : SlP w a l) => ptsS a n c l w k hn (by unfold maxLen; omega))
  have EF := fit_sp l n hn
  unfold srV
  clear h
  cases hp : l.all gPt
  · rw [hp] at EF C1
    rw [EF]
    simp only [Bool.false_and, Bool.false_eq_true, if_false]
    clear hp EF
    go_enter Try.func16, Try.ntmps16
    go_wp2_with fail
    refine (unhide C1 _ (unhide HS)).mono ?_
    rintro e w1 ⟨rfl, hb⟩
    go_wp2_with fail
    go_ret2
    exact ⟨none, 0, 0, rfl, hb, ⟨rfl, .inl rfl⟩, by omega⟩
  · by_cases hl : n ≤ 16
    · have lt : ¬ ((16 : Int) < (n : Int)) := by omega
      rw [hp, decide_eq_false lt] at EF
      rw [hp] at C1
      replace EF : fitB l = true := EF
      have FN := fit_near EF
      rw [EF]
      simp only [if_true]
      have C2 := hide (fun w (k : SlP w a l) => sortS a n c l w k hn (by omega))
      have LN := hide (sort_len l)
      have HN := hide hn
      generalize sortP l = S at *
      clear hp EF FN hn
      go_enter Try.func16, Try.ntmps16
      go_wp2_with fail
      refine (unhide C1 _ (unhide HS)).mono ?_
      rintro e w1 ⟨rfl, hb⟩
      have HB := hide hb
      replace HS := hide ((unhide HS).later hb)
      clear hb C1
      go_wp2_with fail
      refine (unhide C2 _ (unhide HS)).mono ?_
      rintro e w2 ⟨v, rfl, hb, rw2⟩
      obtain ⟨a', c', rfl, rt⟩ := rw2.rt
      have HB2 := hide (below_on (unhide HB) hb)
      have RT := hide (rt.mono (unhide HB).size)
      clear hb rw2 rt C2
      go_wp2_with fail
      go_ret2
      exact ⟨_, _, _, rfl, unhide HB2, unhide RT, by have := unhide LN; have := unhide HN; omega⟩
    · have lt : (16 : Int) < (n : Int) := by omega
      rw [hp, decide_eq_true lt] at EF
      rw [hp] at C1
      rw [EF]
      simp only [Bool.not_true, Bool.and_false, Bool.false_eq_true, if_false]
      clear hp EF hl
      go_enter Try.func16, Try.ntmps16
      go_wp2_with fail
      refine (unhide C1 _ (unhide HS)).mono ?_
      rintro e w1 ⟨rfl, hb⟩
      go_wp2_with fail
      go_ret2
      exact ⟨none, 0, 0, rfl, hb, ⟨rfl, .inl rfl⟩, by omega⟩
set_option maxHeartbeats 2000000 in
theorem SortPtsI (a : Option Addr) (n c : Nat) (l : List (Int × Int)) (w : World) (h : ArP w a n c l) (h1 : n ≤ 1048576) :
    Calls Try.prog 15 #[.slice a n c] w fun e w' => ∃ a' n' c', e = .returned (.tuple #[.slice a' n' c', .bool (fitB l)]) ∧ Below w.heap.size w w' ∧ RtP w.heap.size w' a' n' c' (srV l) ∧ n' ≤ 1048576 := by
  have hn := h.len
  have HS := hide h.sl
  have C1 := hide (fun w (k : SlP w a l) => fitsI a n c l w k hn (by unfold maxLen; omega))
  unfold srV
  clear h
  cases hp : fitB l
  · rw [hp] at C1
    simp only [Bool.false_eq_true, if_false]
    clear hp
    go_enter Try.func15, Try.ntmps15
    go_wp2_with fail
    refine (unhide C1 _ (unhide HS)).mono ?_
    rintro e w1 ⟨rfl, hb⟩
    go_wp2_with fail
    go_ret2
    exact ⟨none, 0, 0, rfl, hb, ⟨rfl, .inl rfl⟩, by omega⟩
  · rw [hp] at C1
    simp only [if_true]
    have fit := fit_near hp
    have C2 := hide (fun w (k : SlP w a l) => risingI a n c l w k hn (by have := fit.1; omega))
    have LN := hide (sort_len l)
    have HN := hide hn
    generalize sortP l = S at *
    clear hp hn
    go_enter Try.func15, Try.ntmps15
    go_wp2_with fail
    refine (unhide C1 _ (unhide HS)).mono ?_
    rintro e w1 ⟨rfl, hb⟩
    have HB := hide hb
    replace HS := hide ((unhide HS).later hb)
    clear hb C1
    go_wp2_with fail
    refine (unhide C2 _ (unhide HS)).mono ?_
    rintro e w2 ⟨v, rfl, hb, rw2⟩
    obtain ⟨a', c', rfl, rt⟩ := rw2.rt
    have HB2 := hide (below_on (unhide HB) hb)
    have RT := hide (rt.mono (unhide HB).size)
    clear hb rw2 rt C2
    go_wp2_with fail
    go_ret2
    exact ⟨_, _, _, rfl, unhide HB2, unhide RT, by have := unhide LN; have := unhide HN; omega⟩
set_option maxHeartbeats 2000000 in
theorem HullOfI (a : Option Addr) (n c : Nat) (l : List (Int × Int)) (w : World) (h : ArP w a n c l) (h1 : n ≤ 1048576) :
    Calls Try.prog 13 #[.slice a n c] w fun e w' => ∃ a' n' c', e = .returned (.tuple #[.slice a' n' c', .bool (cloB l)]) ∧ Below w.heap.size w w' ∧ RtP w.heap.size w' a' n' c' (huV l) ∧ n' ≤ 1048576 := by
  have hn := h.len
  have HS := hide h.sl
  have C1 := hide (fun w (k : SlP w a l) => cloudI a n c l w k hn (by unfold maxLen; omega))
  unfold huV
  clear h
  cases hp : cloB l
  · rw [hp] at C1
    simp only [Bool.false_eq_true, if_false]
    clear hp
    go_enter Try.func13, Try.ntmps13
    go_wp2_with fail
    refine (unhide C1 _ (unhide HS)).mono ?_
    rintro e w1 ⟨rfl, hb⟩
    go_wp2_with fail
    go_ret2
    exact ⟨none, 0, 0, rfl, hb, ⟨rfl, .inl rfl⟩, by omega⟩
  · rw [hp] at C1
    simp only [if_true]
    have cp := clo_parts hp
    have cn : ∀ p ∈ l, Near p := fun p hq => near_of (cp.2 p hq)
    have C2 := hide (fun w (k : SlP w a l) => hullI a n c l w k hn (by have := cp.1; omega) (by have := cp.1; omega) cn)
    have LN := hide (hul_len l)
    have HN := hide hn
    generalize hulV l = S at *
    clear hp hn
    go_enter Try.func13, Try.ntmps13
    go_wp2_with fail
    refine (unhide C1 _ (unhide HS)).mono ?_
    rintro e w1 ⟨rfl, hb⟩
    have HB := hide hb
    replace HS := hide ((unhide HS).later hb)
    clear hb C1
    go_wp2_with fail
    refine (unhide C2 _ (unhide HS)).mono ?_
    rintro e w2 ⟨v, rfl, hb, rw2⟩
    obtain ⟨a', c', rfl, rt⟩ := rw2.rt
    have HB2 := hide (below_on (unhide HB) hb)
    have RT := hide (rt.mono (unhide HB).size)
    clear hb rw2 rt C2
    go_wp2_with fail
    go_ret2
    exact ⟨_, _, _, rfl, unhide HB2, unhide RT, by have := unhide LN; have := unhide HN; omega⟩
set_option maxHeartbeats 2000000 in
theorem HullOfS (a : Option Addr) (n c : Nat) (l : List (Int × Int)) (w : World) (h : ArP w a n c l) (h1 : n ≤ 1048576) :
    Calls Try.prog 14 #[.slice a n c] w fun e w' => ∃ a' n' c', e = .returned (.tuple #[.slice a' n' c', .bool (cloB l)]) ∧ Below w.heap.size w w' ∧ RtP w.heap.size w' a' n' c' (huV l) ∧ n' ≤ 1048576 := by
  have hn := h.len
  have HS := hide h.sl
  have C1 := hide (fun w (k : SlP w a l) => cloudS a n c l w k hn (by unfold maxLen; omega))
  unfold huV
  clear h
  cases hp : cloB l
  · rw [hp] at C1
    simp only [Bool.false_eq_true, if_false]
    clear hp
    go_enter Try.func14, Try.ntmps14
    go_wp2_with fail
    refine (unhide C1 _ (unhide HS)).mono ?_
    rintro e w1 ⟨rfl, hb⟩
    go_wp2_with fail
    go_ret2
    exact ⟨none, 0, 0, rfl, hb, ⟨rfl, .inl rfl⟩, by omega⟩
  · rw [hp] at C1
    simp only [if_true]
    have cp := clo_parts hp
    have cn : ∀ p ∈ l, Near p := fun p hq => near_of (cp.2 p hq)
    have C2 := hide (fun w (k : SlP w a l) => hullS a n c l w k hn (by have := cp.1; omega) cn)
    have LN := hide (hul_len l)
    have HN := hide hn
    generalize hulV l = S at *
    clear hp hn
    go_enter Try.func14, Try.ntmps14
    go_wp2_with fail
    refine (unhide C1 _ (unhide HS)).mono ?_
    rintro e w1 ⟨rfl, hb⟩
    have HB := hide hb
    replace HS := hide ((unhide HS).later hb)
    clear hb C1
    go_wp2_with fail
    refine (unhide C2 _ (unhide HS)).mono ?_
    rintro e w2 ⟨v, rfl, hb, rw2⟩
    obtain ⟨a', c', rfl, rt⟩ := rw2.rt
    have HB2 := hide (below_on (unhide HB) hb)
    have RT := hide (rt.mono (unhide HB).size)
    clear hb rw2 rt C2
    go_wp2_with fail
    go_ret2
    exact ⟨_, _, _, rfl, unhide HB2, unhide RT, by have := unhide LN; have := unhide HN; omega⟩
end Go.Proofs.Ytgoiodhofbkkdaa
