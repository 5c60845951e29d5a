/- IsSimple and InnerPoints of both sides. No condition beyond those typed. Written by mkinn8.py. -/
import Derived.Test.YtblhjeepelgdaaaGs11
namespace Go.Proofs.Ytblhjeepelgdaaa
open Go.RowKit
set_option linter.unusedVariables false
set_option maxRecDepth 100000
set_option linter.unusedSimpArgs false

theorem gmul_bd {u v : Int} (h1 : -1000 ≤ u) (h2 : u ≤ 1000) (h3 : -1000 ≤ v) (h4 : v ≤ 1000) : -1000000 ≤ u * v ∧ u * v ≤ 1000000 := by
  have h := Nat.mul_le_mul (show u.natAbs ≤ 1000 by omega) (show v.natAbs ≤ 1000 by omega)
  rw [← Int.natAbs_mul] at h
  omega
theorem gcr_bd {p q : Int × Int} (hp : gPt p = true) (hq : gPt q = true) : -2000000 ≤ p.1 * q.2 - q.1 * p.2 ∧ p.1 * q.2 - q.1 * p.2 ≤ 2000000 := by
  simp [gPt, inR] at hp hq
  have m1 := @gmul_bd p.1 q.2 (by omega) (by omega) (by omega) (by omega)
  have m2 := @gmul_bd q.1 p.2 (by omega) (by omega) (by omega) (by omega)
  omega
theorem garS_bd {l : List (Int × Int)} (h : ∀ p ∈ l, gPt p = true) : ∀ k, k ≤ l.length → -((k : Int) * 2000000) ≤ arS l k ∧ arS l k ≤ (k : Int) * 2000000
  | 0, _ => by simp [arS]
  | k + 1, hk => by
    have ih := garS_bd h k (by omega)
    have b := gcr_bd (h (l.getD k (0, 0)) (by rw [getD_gt (by omega)]; exact List.getElem_mem _)) (h _ (nxt_mem (by omega) k))
    unfold arS
    omega
theorem way_good {l : List (Int × Int)} (h : wayB l = true) : ∀ p ∈ l, gPt p = true := by
  unfold wayB at h
  exact List.all_eq_true.1 ((Bool.and_eq_true _ _).mp h).2
/-- How many points of the grid lie within, as told. -/
noncomputable def ipV (l : List (Int × Int)) : Int := if ipB l then (((arS l l.length).natAbs : Int) - boS l l.length + 2).tdiv 2 else 0
noncomputable def isV (l : List (Int × Int)) : Bool := if wayB l then siI l else false
set_option maxHeartbeats 2000000 in
theorem IsSimpleS (a : Option Addr) (n c : Nat) (l : List (Int × Int)) (w : World) (h : ArP w a n c l) (h1 : n ≤ 1048576) :
    Calls Try.prog 106 #[.slice a n c] w fun e w' => e = .returned (.tuple #[.bool (isV l), .bool (wayB l)]) ∧ Below w.heap.size w w' := by
  have hn := h.len
  have C1 := hide (fun w (k : SlP w a l) => wayS a n c l w k hn (by unfold maxLen; omega))
  have HS := hide h.sl
  cases hg : wayB l
  · rw [hg] at C1
    have EV : isV l = false := by unfold isV; rw [hg]; rfl
    rw [EV]
    clear hg h hn EV
    go_enter Try.func106, Try.ntmps106
    go_wp2_with fail
    refine (unhide C1 _ (unhide HS)).mono ?_
    rintro e w1 ⟨rfl, hb⟩
    go_wp2_with fail
    go_ret2
    exact ⟨rfl, hb⟩
  · rw [hg] at C1
    have wp := way_parts hg
    have C2 := hide (fun w (k : SlP w a l) => simpleS a n c l w k hn (by have := wp.1; rw [hn] at this; omega) (by have := wp.1; rw [hn] at this; omega) wp.2)
    rw [si_eq wp.1.1] at C2
    have EV : isV l = siI l := by unfold isV; rw [hg]; rfl
    rw [EV]
    clear hg h hn wp EV
    generalize siI l = k at *
    go_enter Try.func106, Try.ntmps106
    go_wp2_with fail
    refine (unhide C1 _ (unhide HS)).mono ?_
    rintro e w1 ⟨rfl, hb⟩
    have HS1 := hide ((unhide HS).later hb)
    have HB := hide hb
    clear hb
    go_wp2_with fail
    refine (unhide C2 _ (unhide HS1)).mono ?_
    rintro e w2 ⟨rfl, hb⟩
    replace HB := hide (below_on (unhide HB) hb)
    clear hb
    go_wp2_with fail
    go_ret2
    exact ⟨rfl, unhide HB⟩
set_option maxHeartbeats 2000000 in
theorem InnerPointsS (a : Option Addr) (n c : Nat) (l : List (Int × Int)) (w : World) (h : ArP w a n c l) (h1 : n ≤ 1048576) :
    Calls Try.prog 43 #[.slice a n c] w fun e w' => e = .returned (.tuple #[.int .i64 (ipV l), .bool (ipB l)]) ∧ Below w.heap.size w w' := by
  have hn := h.len
  have C1 := hide (fun w (k : SlP w a l) => wayS a n c l w k hn (by unfold maxLen; omega))
  have HS := hide h.sl
  cases hg : wayB l
  · rw [hg] at C1
    have EB : ipB l = false := by unfold ipB; rw [hg]; rfl
    have EV : ipV l = 0 := by unfold ipV; rw [EB]; rfl
    rw [EV, EB]
    clear hg h hn EV EB
    go_enter Try.func43, Try.ntmps43
    go_wp2_with fail
    refine (unhide C1 _ (unhide HS)).mono ?_
    rintro e w1 ⟨rfl, hb⟩
    go_wp2_with fail
    go_ret2
    exact ⟨rfl, hb⟩
  · rw [hg] at C1
    have wp := way_parts hg
    have C2 := hide (fun w (k : SlP w a l) => simpleS a n c l w k hn (by have := wp.1; rw [hn] at this; omega) (by have := wp.1; rw [hn] at this; omega) wp.2)
    rw [si_eq wp.1.1] at C2
    cases hs : siI l
    · rw [hs] at C2
      have EB : ipB l = false := by unfold ipB; rw [hg, hs]; rfl
      have EV : ipV l = 0 := by unfold ipV; rw [EB]; rfl
      rw [EV, EB]
      clear hg h hn EV EB wp hs
      go_enter Try.func43, Try.ntmps43
      go_wp2_with fail
      refine (unhide C1 _ (unhide HS)).mono ?_
      rintro e w1 ⟨rfl, hb⟩
      have HS1 := hide ((unhide HS).later hb)
      have HB := hide hb
      clear hb
      go_wp2_with fail
      refine (unhide C2 _ (unhide HS1)).mono ?_
      rintro e w2 ⟨rfl, hb⟩
      replace HB := hide (below_on (unhide HB) hb)
      clear hb
      go_wp2_with fail
      go_ret2
      exact ⟨rfl, unhide HB⟩
    · rw [hs] at C2
      have EB : ipB l = true := by unfold ipB; rw [hg, hs]; rfl
      have EV : ipV l = (((arS l l.length).natAbs : Int) - boS l l.length + 2).tdiv 2 := by unfold ipV; rw [EB]; rfl
      have ba := garS_bd (way_good hg) l.length (Nat.le_refl _)
      have bb := boS_bd wp.2 l.length (Nat.le_refl _)
      have l12 := wp.1
      have CA := hide (fun w (k : SlP w a l) => areaS a n c l w k hn (by have := wp.1; rw [hn] at this; omega) wp.2)
      have CB := hide (fun w (k : SlP w a l) => borderS a n c l w k hn (by have := wp.1; rw [hn] at this; omega) wp.2)
      have CF := hide (fun w => absS8 (arS l l.length) w (by omega) (by omega))
      rw [EV, EB]
      clear hg h hn EV EB wp hs
      generalize arS l l.length = A at *
      generalize boS l l.length = Bo at *
      obtain ⟨N, hN⟩ : ∃ N : Nat, N = A.natAbs := ⟨_, rfl⟩
      rw [← hN] at CF ⊢
      have w1 : IntKind.i64.wrap ((N : Int) - Bo) = (N : Int) - Bo := by rw [IntKind.wrap_i64]; omega
      have w2 : IntKind.i64.wrap ((N : Int) - Bo + 2) = (N : Int) - Bo + 2 := by rw [IntKind.wrap_i64]; omega
      have tq : -100000000 ≤ ((N : Int) - Bo + 2).tdiv 2 ∧ ((N : Int) - Bo + 2).tdiv 2 ≤ 100000000 := by
        have h1 : -100000000 ≤ (N : Int) - Bo + 2 := by omega
        have h2 : (N : Int) - Bo + 2 ≤ 100000000 := by omega
        generalize (N : Int) - Bo + 2 = z at *
        rcases Int.le_total 0 z with hz | hz
        · rw [Int.tdiv_eq_ediv_of_nonneg hz]; omega
        · have : z.tdiv 2 = -((-z).tdiv 2) := by rw [Int.neg_tdiv, Int.neg_neg]
          rw [this, Int.tdiv_eq_ediv_of_nonneg (by omega)]; omega
      have w3 : IntKind.i64.wrap (((N : Int) - Bo + 2).tdiv 2) = ((N : Int) - Bo + 2).tdiv 2 := by rw [IntKind.wrap_i64]; omega
      clear ba bb hN l12 tq
      go_enter Try.func43, Try.ntmps43
      go_wp2_with fail
      refine (unhide C1 _ (unhide HS)).mono ?_
      rintro e w1' ⟨rfl, hb⟩
      have HS1 := hide ((unhide HS).later hb)
      have HB := hide hb
      clear hb
      go_wp2_with fail
      refine (unhide C2 _ (unhide HS1)).mono ?_
      rintro e w2' ⟨rfl, hb⟩
      replace HS1 := hide ((unhide HS1).later hb)
      replace HB := hide (below_on (unhide HB) hb)
      clear hb
      go_wp2_with fail
      refine (unhide CA _ (unhide HS1)).mono ?_
      rintro e w3' ⟨rfl, hb⟩
      replace HS1 := hide ((unhide HS1).later hb)
      replace HB := hide (below_on (unhide HB) hb)
      clear hb
      go_wp2_with fail
      refine (unhide CF _).mono ?_
      rintro e w4' ⟨rfl, rfl⟩
      go_wp2_with fail
      refine (unhide CB _ (unhide HS1)).mono ?_
      rintro e w5' ⟨rfl, hb⟩
      replace HB := hide (below_on (unhide HB) hb)
      clear hb
      go_wp2_with fail
      go_ret2
      exact ⟨rfl, unhide HB⟩
set_option maxHeartbeats 2000000 in
theorem InnerPointsI (a : Option Addr) (n c : Nat) (l : List (Int × Int)) (w : World) (h : ArP w a n c l) (h1 : n ≤ 1048576) :
    Calls Try.prog 44 #[.slice a n c] w fun e w' => e = .returned (.tuple #[.int .i64 (ipV l), .bool (ipB l)]) ∧ Below w.heap.size w w' := by
  have hn := h.len
  have C1 := hide (fun w (k : SlP w a l) => gswI a n c l w k hn (by omega))
  have HS := hide h.sl
  cases hp : ipB l
  · rw [hp] at C1
    have EB := hp
    have EV : ipV l = 0 := by unfold ipV; rw [EB]; rfl
    rw [EV]
    clear hp h hn EV EB
    go_enter Try.func44, Try.ntmps44
    go_wp2_with fail
    refine (unhide C1 _ (unhide HS)).mono ?_
    rintro e w1 ⟨rfl, hb⟩
    go_wp2_with fail
    go_ret2
    exact ⟨rfl, hb⟩
  · rw [hp] at C1
    have hg := (ip_parts hp).1
    have wp := way_parts hg
    · have EB := hp
      have EV : ipV l = (((arS l l.length).natAbs : Int) - boS l l.length + 2).tdiv 2 := by unfold ipV; rw [EB]; rfl
      have ba := garS_bd (way_good hg) l.length (Nat.le_refl _)
      have bb := boS_bd wp.2 l.length (Nat.le_refl _)
      have l12 := wp.1
      have CA := hide (fun w (k : SlP w a l) => areaI a n c l w k hn (by have := wp.1; rw [hn] at this; omega) (by have := wp.1; rw [hn] at this; omega) wp.2)
      have CB := hide (fun w (k : SlP w a l) => borderI a n c l w k hn (by have := wp.1; rw [hn] at this; omega) (by have := wp.1; rw [hn] at this; omega) wp.2)
      have CF := hide (fun w => farI (arS l l.length) w (by omega) (by omega))
      rw [EV]
      clear hg h hn EV EB wp hp
      generalize arS l l.length = A at *
      generalize boS l l.length = Bo at *
      obtain ⟨N, hN⟩ : ∃ N : Nat, N = A.natAbs := ⟨_, rfl⟩
      rw [← hN] at CF ⊢
      have w1 : IntKind.i64.wrap ((N : Int) - Bo) = (N : Int) - Bo := by rw [IntKind.wrap_i64]; omega
      have w2 : IntKind.i64.wrap ((N : Int) - Bo + 2) = (N : Int) - Bo + 2 := by rw [IntKind.wrap_i64]; omega
      have tq : -100000000 ≤ ((N : Int) - Bo + 2).tdiv 2 ∧ ((N : Int) - Bo + 2).tdiv 2 ≤ 100000000 := by
        have h1 : -100000000 ≤ (N : Int) - Bo + 2 := by omega
        have h2 : (N : Int) - Bo + 2 ≤ 100000000 := by omega
        generalize (N : Int) - Bo + 2 = z at *
        rcases Int.le_total 0 z with hz | hz
        · rw [Int.tdiv_eq_ediv_of_nonneg hz]; omega
        · have : z.tdiv 2 = -((-z).tdiv 2) := by rw [Int.neg_tdiv, Int.neg_neg]
          rw [this, Int.tdiv_eq_ediv_of_nonneg (by omega)]; omega
      have w3 : IntKind.i64.wrap (((N : Int) - Bo + 2).tdiv 2) = ((N : Int) - Bo + 2).tdiv 2 := by rw [IntKind.wrap_i64]; omega
      clear ba bb hN l12 tq
      go_enter Try.func44, Try.ntmps44
      go_wp2_with fail
      refine (unhide C1 _ (unhide HS)).mono ?_
      rintro e w1' ⟨rfl, hb⟩
      have HS1 := hide ((unhide HS).later hb)
      have HB := hide hb
      clear hb
      go_wp2_with fail
      refine (unhide CA _ (unhide HS1)).mono ?_
      rintro e w3' ⟨rfl, hb⟩
      replace HS1 := hide ((unhide HS1).later hb)
      replace HB := hide (below_on (unhide HB) hb)
      clear hb
      go_wp2_with fail
      refine (unhide CF _).mono ?_
      rintro e w4' ⟨rfl, rfl⟩
      go_wp2_with fail
      refine (unhide CB _ (unhide HS1)).mono ?_
      rintro e w5' ⟨rfl, hb⟩
      replace HB := hide (below_on (unhide HB) hb)
      clear hb
      go_wp2_with fail
      go_ret2
      exact ⟨rfl, unhide HB⟩
end Go.Proofs.Ytblhjeepelgdaaa
