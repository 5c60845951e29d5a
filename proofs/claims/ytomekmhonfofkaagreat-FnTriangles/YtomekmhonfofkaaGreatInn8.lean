/- IsSimple and InnerPoints of both sides. No condition beyond those typed. Written by mkinn8.py. -/
import Derived.Test.YtomekmhonfofkaaGreatGs11
namespace Go.Proofs.YtomekmhonfofkaaGreat
open Go.RowKit
set_option linter.unusedVariables false
set_option maxRecDepth 100000
set_option linter.unusedSimpArgs false

theorem gmul_bd {u v : Int} (h1 : -1000 ≤ u) (h2 : u ≤ 1000) (h3 : -1000 ≤ v) (h4 : v ≤ 1000) : -1000000 ≤ u * v ∧ u * v ≤ 1000000 := by
  have h := Nat.mul_le_mul (show u.natAbs ≤ 1000 by omega) (show v.natAbs ≤ 1000 by omega)
  rw [← Int.natAbs_mul] at h
  omega
theorem gcr_bd {p q : Int × Int} (hp : gPt p = true) (hq : gPt q = true) : -2000000 ≤ p.1 * q.2 - q.1 * p.2 ∧ p.1 * q.2 - q.1 * p.2 ≤ 2000000 := by
  simp [gPt, inR] at hp hq
  have m1 := @gmul_bd p.1 q.2 (by omega) (by omega) (by omega) (by omega)
  have m2 := @gmul_bd q.1 p.2 (by omega) (by omega) (by omega) (by omega)
  omega
theorem garS_bd {l : List (Int × Int)} (h : ∀ p ∈ l, gPt p = true) : ∀ k, k ≤ l.length → -((k : Int) * 2000000) ≤ arS l k ∧ arS l k ≤ (k : Int) * 2000000
  | 0, _ => by simp [arS]
  | k + 1, hk => by
    have ih := garS_bd h k (by omega)
    have b := gcr_bd (h (l.getD k (0, 0)) (by rw [getD_gt (by omega)]; exact List.getElem_mem _)) (h _ (nxt_mem (by omega) k))
    unfold arS
    omega
theorem way_good {l : List (Int × Int)} (h : wayB l = true) : ∀ p ∈ l, gPt p = true := by
  unfold wayB at h
  exact List.all_eq_true.1 ((Bool.and_eq_true _ _).mp h).2
/-- How many points of the grid lie within, as told. -/
noncomputable def ipV (l : List (Int × Int)) : Int := if ipB l then (((arS l l.length).natAbs : Int) - boS l l.length + 2).tdiv 2 else 0
noncomputable def isV (l : List (Int × Int)) : Bool := if wayB l then siI l else false
set_option maxHeartbeats 2000000 in
theorem IsSimpleS (a : Option Addr) (n c : Nat) (l : List (Int × Int)) (w : World) (h : ArP w a n c l) (h1 : n ≤ 1048576) :
    Calls Tryz.prog 65 #[.slice a n c] w fun e w' => e = .returned (.tuple #[.bool (isV l), .bool (wayB l)]) ∧ Below w.heap.size w w' := by
  have hn := h.len
  have C1 := hide (fun w (k : SlP w a l) => wayS a n c l w k hn (by unfold maxLen; omega))
  have HS := hide h.sl
  cases hg : wayB l
  · rw [hg] at C1
    have EV : isV l = false := by unfold isV; rw [hg]; rfl
    rw [EV]
    clear hg h hn EV
    go_enter Tryz.func65, Tryz.ntmps65
    go_wp2_with fail
    refine (unhide C1 _ (unhide HS)).mono ?_
    rintro e w1 ⟨rfl, hb⟩
    go_wp2_with fail
    go_ret2
    exact ⟨rfl, hb⟩
  · rw [hg] at C1
    have wp := way_parts hg
    have C2 := hide (fun w (k : SlP w a l) => simpleS a n c l w k hn (by have := wp.1; rw [hn] at this; omega) (by have := wp.1; rw [hn] at this; omega) wp.2)
    rw [si_eq wp.1.1] at C2
    have EV : isV l = siI l := by unfold isV; rw [hg]; rfl
    rw [EV]
    clear hg h hn wp EV
    generalize siI l = k at *
    go_enter Tryz.func65, Tryz.ntmps65
    go_wp2_with fail
    refine (unhide C1 _ (unhide HS)).mono ?_
    rintro e w1 ⟨rfl, hb⟩
    have HS1 := hide ((unhide HS).later hb)
    have HB := hide hb
    clear hb
    go_wp2_with fail
    refine (unhide C2 _ (unhide HS1)).mono ?_
    rintro e w2 ⟨rfl, hb⟩
    replace HB := hide (below_on (unhide HB) hb)
    clear hb
    go_wp2_with fail
    go_ret2
    exact ⟨rfl, unhide HB⟩
end Go.Proofs.YtomekmhonfofkaaGreat
