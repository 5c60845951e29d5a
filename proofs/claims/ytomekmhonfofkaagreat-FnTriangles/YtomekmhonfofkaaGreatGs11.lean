/- Good simple ways, of both sides, by value. No condition beyond those typed. Written by mkgs11.py. -/
import Derived.Test.YtomekmhonfofkaaGreatSimE8
namespace Go.Proofs.YtomekmhonfofkaaGreat
open Go.RowKit
set_option linter.unusedVariables false
set_option maxRecDepth 100000
set_option linter.unusedSimpArgs false

/-- A good simple way. -/
noncomputable def ipB (l : List (Int × Int)) : Bool := wayB l && siI l
theorem ip_parts {l : List (Int × Int)} (h : ipB l = true) : wayB l = true ∧ siI l = true := by
  unfold ipB at h
  exact (Bool.and_eq_true _ _).mp h
set_option maxHeartbeats 2000000 in
theorem gswS (a : Option Addr) (n c : Nat) (l : List (Int × Int)) (w : World) (h : SlP w a l) (hn : l.length = n) (h1 : n ≤ 1048576) :
    Calls Tryz.prog 22 #[.slice a n c] w fun e w' => e = .returned (.bool (ipB l)) ∧ Below w.heap.size w w' := by
  have C1 := hide (fun w (k : SlP w a l) => wayS a n c l w k hn (by unfold maxLen; omega))
  have HS := hide h
  cases hg : wayB l
  · rw [hg] at C1
    have EV : ipB l = false := by unfold ipB; rw [hg]; rfl
    rw [EV]
    clear hg h hn EV
    go_enter Tryz.func22, Tryz.ntmps22
    go_wp2_with fail
    refine (unhide C1 _ (unhide HS)).mono ?_
    rintro e w1 ⟨rfl, hb⟩
    go_wp2_with fail
    go_ret
    exact ⟨rfl, hb⟩
  · rw [hg] at C1
    have wp := way_parts hg
    have C2 := hide (fun w (k : SlP w a l) => simpleS a n c l w k hn (by have := wp.1; rw [hn] at this; omega) (by have := wp.1; rw [hn] at this; omega) wp.2)
    rw [si_eq wp.1.1] at C2
    have EV : ipB l = siI l := by unfold ipB; rw [hg]; rfl
    rw [EV]
    clear hg h hn wp EV
    generalize siI l = k at *
    go_enter Tryz.func22, Tryz.ntmps22
    go_wp2_with fail
    refine (unhide C1 _ (unhide HS)).mono ?_
    rintro e w1 ⟨rfl, hb⟩
    have HS1 := hide ((unhide HS).later hb)
    have HB := hide hb
    clear hb
    go_wp2_with fail
    refine (unhide C2 _ (unhide HS1)).mono ?_
    rintro e w2 ⟨rfl, hb⟩
    replace HB := hide (below_on (unhide HB) hb)
    clear hb
    go_wp2_with fail
    go_ret
    exact ⟨rfl, unhide HB⟩
set_option maxHeartbeats 2000000 in
theorem gswI (a : Option Addr) (n c : Nat) (l : List (Int × Int)) (w : World) (h : SlP w a l) (hn : l.length = n) (h1 : n ≤ 1048576) :
    Calls Tryz.prog 20 #[.slice a n c] w fun e w' => e = .returned (.bool (ipB l)) ∧ Below w.heap.size w w' := by
  have C1 := hide (fun w (k : SlP w a l) => wayI a n c l w k hn (by unfold maxLen; omega))
  have HS := hide h
  cases hg : wayB l
  · rw [hg] at C1
    have EV : ipB l = false := by unfold ipB; rw [hg]; rfl
    rw [EV]
    clear hg h hn EV
    go_enter Tryz.func20, Tryz.ntmps20
    go_wp2_with fail
    refine (unhide C1 _ (unhide HS)).mono ?_
    rintro e w1 ⟨rfl, hb⟩
    go_wp2_with fail
    go_ret
    exact ⟨rfl, hb⟩
  · rw [hg] at C1
    have wp := way_parts hg
    have C2 := hide (fun w (k : SlP w a l) => simpleI a n c l w k hn (by have := wp.1; rw [hn] at this; omega) (by have := wp.1; rw [hn] at this; omega) wp.2)
    have EV : ipB l = siI l := by unfold ipB; rw [hg]; rfl
    rw [EV]
    clear hg h hn wp EV
    generalize siI l = k at *
    go_enter Tryz.func20, Tryz.ntmps20
    go_wp2_with fail
    refine (unhide C1 _ (unhide HS)).mono ?_
    rintro e w1 ⟨rfl, hb⟩
    have HS1 := hide ((unhide HS).later hb)
    have HB := hide hb
    clear hb
    go_wp2_with fail
    refine (unhide C2 _ (unhide HS1)).mono ?_
    rintro e w2 ⟨rfl, hb⟩
    replace HB := hide (below_on (unhide HB) hb)
    clear hb
    go_wp2_with fail
    go_ret
    exact ⟨rfl, unhide HB⟩
end Go.Proofs.YtomekmhonfofkaaGreat
