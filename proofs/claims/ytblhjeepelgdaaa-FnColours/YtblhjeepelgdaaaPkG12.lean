/- Facts over three colours and guards, for FnColours. No condition beyond those typed. -/
import Derived.Test.YtblhjeepelgdaaaPkC12
import Derived.Test.YtblhjeepelgdaaaPkD12
import Derived.Test.YtblhjeepelgdaaaPkE12
namespace Go.Proofs.Ytblhjeepelgdaaa
open Go.RowKit Go.ChangeMaps
set_option linter.unusedVariables false
set_option maxRecDepth 100000
set_option linter.unusedSimpArgs false

/-- The triangles of a good simple way. -/
noncomputable def trV (l : List (Int × Int)) : List (Int × Int × Int) := if ipB l then cutL l (sgZ (arS l l.length)) (l.length - 3) (List.range l.length) else []
set_option maxHeartbeats 4000000 in
theorem TriangulateS (a : Option Addr) (n c : Nat) (l : List (Int × Int)) (w : World) (h : ArP w a n c l) (h1 : n ≤ 1048576) :
    Calls Try.prog 31 #[.slice a n c] w fun e w' => ∃ a' n' c', e = .returned (.tuple #[.slice a' n' c', .bool (ipB l)]) ∧ Below w.heap.size w w' ∧ RtT w.heap.size w' a' n' c' (trV l) ∧ n' ≤ 1048576 := by
  have hn := h.len
  have CG := hide (fun w (k : SlP w a l) => gswS a n c l w k hn h1)
  have HS := hide h.sl
  cases hp : ipB l
  · rw [hp] at CG
    have EV : trV l = [] := by unfold trV; rw [hp]; rfl
    rw [EV]
    clear hp h hn EV
    go_enter Try.func31, Try.ntmps31
    go_wp2_with fail
    refine (unhide CG _ (unhide HS)).mono ?_
    rintro e w1 ⟨rfl, hb⟩
    go_wp2_with fail
    go_ret2
    exact ⟨none, 0, 0, rfl, hb, ⟨rfl, .inl rfl⟩, by omega⟩
  · rw [hp] at CG
    have wp := way_parts (ip_parts hp).1
    have CC := hide (fun w (k : SlP w a l) => cutS a n c l w k hn (by omega) (by omega) wp.2)
    have EV : trV l = cutL l (sgZ (arS l l.length)) (n - 3) (List.range n) := by unfold trV; rw [hp, hn]; rfl
    have TL : (cutL l (sgZ (arS l l.length)) (n - 3) (List.range n)).length ≤ n := by rw [cutL_len]; omega
    rw [EV]
    generalize cutL l (sgZ (arS l l.length)) (n - 3) (List.range n) = T at *
    clear hp h hn wp EV
    go_enter Try.func31, Try.ntmps31
    go_wp2_with fail
    refine (unhide CG _ (unhide HS)).mono ?_
    rintro e w1 ⟨rfl, hb⟩
    replace HS := hide ((unhide HS).later hb)
    have HB := hide hb
    clear hb
    go_wp2_with fail
    refine (unhide CC _ (unhide HS)).mono ?_
    rintro e w2 ⟨v, rfl, hb, rt⟩
    obtain ⟨a', c', rfl, r2⟩ := (rt.mono (unhide HB).size).rt
    have R2 := hide r2
    replace HB := hide (below_on (unhide HB) hb)
    clear hb rt r2
    go_wp2_with fail
    go_ret2
    exact ⟨a', _, c', rfl, unhide HB, unhide R2, by omega⟩
set_option maxHeartbeats 4000000 in
theorem TriangulateI (a : Option Addr) (n c : Nat) (l : List (Int × Int)) (w : World) (h : ArP w a n c l) (h1 : n ≤ 1048576) :
    Calls Try.prog 18 #[.slice a n c] w fun e w' => ∃ a' n' c', e = .returned (.tuple #[.slice a' n' c', .bool (ipB l)]) ∧ Below w.heap.size w w' ∧ RtT w.heap.size w' a' n' c' (trV l) ∧ n' ≤ 1048576 := by
  have hn := h.len
  have CG := hide (fun w (k : SlP w a l) => gswI a n c l w k hn h1)
  have HS := hide h.sl
  cases hp : ipB l
  · rw [hp] at CG
    have EV : trV l = [] := by unfold trV; rw [hp]; rfl
    rw [EV]
    clear hp h hn EV
    go_enter Try.func18, Try.ntmps18
    go_wp2_with fail
    refine (unhide CG _ (unhide HS)).mono ?_
    rintro e w1 ⟨rfl, hb⟩
    go_wp2_with fail
    go_ret2
    exact ⟨none, 0, 0, rfl, hb, ⟨rfl, .inl rfl⟩, by omega⟩
  · rw [hp] at CG
    have wp := way_parts (ip_parts hp).1
    have CC := hide (fun w (k : SlP w a l) => cutI a n c l w k hn hp)
    have EV : trV l = cutL l (sgZ (arS l l.length)) (n - 3) (List.range n) := by unfold trV; rw [hp, hn]; rfl
    have TL : (cutL l (sgZ (arS l l.length)) (n - 3) (List.range n)).length ≤ n := by rw [cutL_len]; omega
    rw [EV]
    generalize cutL l (sgZ (arS l l.length)) (n - 3) (List.range n) = T at *
    clear hp h hn wp EV
    go_enter Try.func18, Try.ntmps18
    go_wp2_with fail
    refine (unhide CG _ (unhide HS)).mono ?_
    rintro e w1 ⟨rfl, hb⟩
    replace HS := hide ((unhide HS).later hb)
    have HB := hide hb
    clear hb
    go_wp2_with fail
    refine (unhide CC _ (unhide HS)).mono ?_
    rintro e w2 ⟨v, rfl, hb, rt⟩
    obtain ⟨a', c', rfl, r2⟩ := (rt.mono (unhide HB).size).rt
    have R2 := hide r2
    replace HB := hide (below_on (unhide HB) hb)
    clear hb rt r2
    go_wp2_with fail
    go_ret2
    exact ⟨a', _, c', rfl, unhide HB, unhide R2, by omega⟩
end Go.Proofs.Ytblhjeepelgdaaa
namespace Go.Proofs.Ytblhjeepelgdaaa
open Go.RowKit Go.ChangeMaps
set_option linter.unusedVariables false
set_option maxRecDepth 100000
set_option linter.unusedSimpArgs false

/-- The colours of a good simple way. -/
noncomputable def coV (l : List (Int × Int)) : List Int := if ipB l then clV (cutL l (sgZ (arS l l.length)) (l.length - 3) (List.range l.length)) l.length else []
set_option maxHeartbeats 4000000 in
theorem ColourThreeS (a : Option Addr) (n c : Nat) (l : List (Int × Int)) (w : World) (h : ArP w a n c l) (h1 : n ≤ 1048576) :
    Calls Try.prog 14 #[.slice a n c] w fun e w' => ∃ a' n' c', e = .returned (.tuple #[.slice a' n' c', .bool (ipB l)]) ∧ Below w.heap.size w w' ∧ RtI w.heap.size w' a' n' c' (coV l) ∧ n' ≤ 1048576 := by
  have hn := h.len
  have CG := hide (fun w (k : SlP w a l) => gswS a n c l w k hn h1)
  have HS := hide h.sl
  cases hp : ipB l
  · rw [hp] at CG
    have EV : coV l = [] := by unfold coV; rw [hp]; rfl
    rw [EV]
    clear hp h hn EV
    go_enter Try.func14, Try.ntmps14
    go_wp2_with fail
    refine (unhide CG _ (unhide HS)).mono ?_
    rintro e w1 ⟨rfl, hb⟩
    go_wp2_with fail
    go_ret2
    exact ⟨none, 0, 0, rfl, hb, ⟨rfl, .inl rfl⟩, by omega⟩
  · rw [hp] at CG
    have wp := way_parts (ip_parts hp).1
    have CC := hide (fun w (k : SlP w a l) => colS11 a n c l w k hn (by omega) (by omega) wp.2)
    have EV : coV l = clV (cutL l (sgZ (arS l l.length)) (n - 3) (List.range n)) n := by unfold coV; rw [hp, hn]; rfl
    have TL : (clV (cutL l (sgZ (arS l l.length)) (n - 3) (List.range n)) n).length ≤ n := by unfold clV; rw [colF_len, col1_len]; omega
    rw [EV]
    generalize clV (cutL l (sgZ (arS l l.length)) (n - 3) (List.range n)) n = T at *
    clear hp h hn wp EV
    go_enter Try.func14, Try.ntmps14
    go_wp2_with fail
    refine (unhide CG _ (unhide HS)).mono ?_
    rintro e w1 ⟨rfl, hb⟩
    replace HS := hide ((unhide HS).later hb)
    have HB := hide hb
    clear hb
    go_wp2_with fail
    refine (unhide CC _ (unhide HS)).mono ?_
    rintro e w2 ⟨v, rfl, hb, rt⟩
    obtain ⟨a', c', rfl, r2⟩ := (rt.mono (unhide HB).size).rt
    have R2 := hide r2
    replace HB := hide (below_on (unhide HB) hb)
    clear hb rt r2
    go_wp2_with fail
    go_ret2
    exact ⟨a', _, c', rfl, unhide HB, unhide R2, by omega⟩
set_option maxHeartbeats 4000000 in
theorem ColourThreeI (a : Option Addr) (n c : Nat) (l : List (Int × Int)) (w : World) (h : ArP w a n c l) (h1 : n ≤ 1048576) :
    Calls Try.prog 13 #[.slice a n c] w fun e w' => ∃ a' n' c', e = .returned (.tuple #[.slice a' n' c', .bool (ipB l)]) ∧ Below w.heap.size w w' ∧ RtI w.heap.size w' a' n' c' (coV l) ∧ n' ≤ 1048576 := by
  have hn := h.len
  have CG := hide (fun w (k : SlP w a l) => gswI a n c l w k hn h1)
  have HS := hide h.sl
  cases hp : ipB l
  · rw [hp] at CG
    have EV : coV l = [] := by unfold coV; rw [hp]; rfl
    rw [EV]
    clear hp h hn EV
    go_enter Try.func13, Try.ntmps13
    go_wp2_with fail
    refine (unhide CG _ (unhide HS)).mono ?_
    rintro e w1 ⟨rfl, hb⟩
    go_wp2_with fail
    go_ret2
    exact ⟨none, 0, 0, rfl, hb, ⟨rfl, .inl rfl⟩, by omega⟩
  · rw [hp] at CG
    have wp := way_parts (ip_parts hp).1
    have CC := hide (fun w (k : SlP w a l) => colI11 a n c l w k hn hp)
    have EV : coV l = clV (cutL l (sgZ (arS l l.length)) (n - 3) (List.range n)) n := by unfold coV; rw [hp, hn]; rfl
    have TL : (clV (cutL l (sgZ (arS l l.length)) (n - 3) (List.range n)) n).length ≤ n := by unfold clV; rw [colF_len, col1_len]; omega
    rw [EV]
    generalize clV (cutL l (sgZ (arS l l.length)) (n - 3) (List.range n)) n = T at *
    clear hp h hn wp EV
    go_enter Try.func13, Try.ntmps13
    go_wp2_with fail
    refine (unhide CG _ (unhide HS)).mono ?_
    rintro e w1 ⟨rfl, hb⟩
    replace HS := hide ((unhide HS).later hb)
    have HB := hide hb
    clear hb
    go_wp2_with fail
    refine (unhide CC _ (unhide HS)).mono ?_
    rintro e w2 ⟨v, rfl, hb, rt⟩
    obtain ⟨a', c', rfl, r2⟩ := (rt.mono (unhide HB).size).rt
    have R2 := hide r2
    replace HB := hide (below_on (unhide HB) hb)
    clear hb rt r2
    go_wp2_with fail
    go_ret2
    exact ⟨a', _, c', rfl, unhide HB, unhide R2, by omega⟩
end Go.Proofs.Ytblhjeepelgdaaa
namespace Go.Proofs.Ytblhjeepelgdaaa
open Go.RowKit
set_option linter.unusedVariables false
set_option maxRecDepth 100000
set_option linter.unusedSimpArgs false

theorem cnt_sum {C : List Int} : ∀ m, (∀ k, k < m → Is3 (C.getD k 0)) → cntU C 0 m + cntU C 1 m + cntU C 2 m = m
  | 0, _ => rfl
  | m + 1, h => by
    have k := cnt_sum m (fun j hj => h j (by omega))
    rw [cntU_succ, cntU_succ, cntU_succ]
    rcases h m (by omega) with e | e | e <;> rw [e] <;> simp <;> omega
theorem idxs_len (C : List Int) (c : Int) : (idxs C c).length = cntU C c C.length := rfl
theorem rar_third {C : List Int} (h : ∀ k, k < C.length → Is3 (C.getD k 0)) : 3 * (idxs C (rarV C)).length ≤ C.length := by
  have s := cnt_sum C.length h
  unfold rarV
  dsimp only
  by_cases h1 : cntU C 1 C.length < cntU C 0 C.length
  · rw [if_pos h1]
    by_cases h2 : cntU C 2 C.length < cntU C 1 C.length
    · rw [if_pos h2, idxs_len]; omega
    · rw [if_neg h2, idxs_len]; omega
  · rw [if_neg h1]
    by_cases h2 : cntU C 2 C.length < cntU C 0 C.length
    · rw [if_pos h2, idxs_len]; omega
    · rw [if_neg h2, idxs_len]; omega
theorem rar_is (C : List Int) : Is3 (rarV C) := by
  unfold rarV Is3
  dsimp only
  by_cases h1 : cntU C 1 C.length < cntU C 0 C.length
  · rw [if_pos h1]
    by_cases h2 : cntU C 2 C.length < cntU C 1 C.length
    · rw [if_pos h2]; simp
    · rw [if_neg h2]; simp
  · rw [if_neg h1]
    by_cases h2 : cntU C 2 C.length < cntU C 0 C.length
    · rw [if_pos h2]; simp
    · rw [if_neg h2]; simp
theorem mem_idxs {C : List Int} {c : Int} {k : Nat} (h : k < C.length) (e : C.getD k 0 = c) : k ∈ idxs C c := by
  unfold idxs
  exact List.mem_filter.2 ⟨List.mem_range.2 h, by rw [e]; exact beq_self_eq_true _⟩
/-- Of a triangle's three colours one is any given one. -/
theorem one_three {a b c r : Int} (ha : Is3 a) (hb : Is3 b) (hc : Is3 c) (hr : Is3 r) (h1 : a ≠ b) (h2 : b ≠ c) (h3 : a ≠ c) : r = a ∨ r = b ∨ r = c := by
  unfold Is3 at *
  omega
theorem col_facts {l : List (Int × Int)} (h : ipB l = true) : ∀ q ∈ trV l, ∃ x y z : Nat, q = ((x : Int), (y : Int), (z : Int)) ∧ (x < l.length ∧ y < l.length ∧ z < l.length) ∧ (guC l).getD x 0 ≠ (guC l).getD y 0 ∧ (guC l).getD y 0 ≠ (guC l).getD z 0 ∧ (guC l).getD x 0 ≠ (guC l).getD z 0 := by
  intro q hq
  unfold trV at hq
  rw [h] at hq
  have w3 := (way_parts (ip_parts h).1).1.1
  obtain ⟨x, y, z, e, hx, hy, hz, k⟩ := (col_ok (l := l) (t := sgZ (arS l l.length)) (n := l.length) (l.length - 3) (List.range l.length) (by rw [List.length_range]; omega) (fun x hx => List.mem_range.1 hx) List.pairwise_lt_range).2 q hq
  exact ⟨x, y, z, e, ⟨List.mem_range.1 hx, List.mem_range.1 hy, List.mem_range.1 hz⟩, k⟩
theorem guC_len (l : List (Int × Int)) : (guC l).length = l.length := clV_len _ _
theorem guC_is3 {l : List (Int × Int)} (h : ipB l = true) : ∀ k, k < (guC l).length → Is3 ((guC l).getD k 0) := fun k hk => by
  have w3 := (way_parts (ip_parts h).1).1.1
  exact guC_is rfl w3 _ k (by rw [guC_len] at hk; exact hk)
theorem coV_gu {l : List (Int × Int)} (h : ipB l = true) : coV l = guC l := by unfold coV guC; rw [h]; rfl
theorem gua_third {l : List (Int × Int)} (h : ipB l = true) : 3 * (guV l).length ≤ l.length := by
  unfold guV
  rw [h]
  have k := rar_third (guC_is3 h)
  rw [guC_len] at k
  simpa [cI] using k
theorem gua_range {l : List (Int × Int)} : ∀ k ∈ guV l, cnB l.length k = true := by
  intro k hk
  unfold guV at hk
  split at hk
  · unfold cI idxs at hk
    obtain ⟨j, hj, rfl⟩ := List.mem_map.1 hk
    have := List.mem_range.1 (List.mem_filter.1 hj).1
    rw [guC_len] at this
    unfold cnB
    rw [decide_eq_true (by omega), decide_eq_true (by omega)]
    rfl
  · simp at hk
theorem gua_sees {l : List (Int × Int)} (h : ipB l = true) : ∀ q ∈ trV l, trB l.length q = true ∧ ∃ k ∈ guV l, hsB k q = true := by
  intro q hq
  obtain ⟨x, y, z, rfl, ⟨hx, hy, hz⟩, h1, h2, h3⟩ := col_facts h q hq
  refine ⟨?_, ?_⟩
  · unfold trB cnB
    simp only
    rw [decide_eq_true (by omega), decide_eq_true (by omega), decide_eq_true (by omega), decide_eq_true (by omega), decide_eq_true (by omega), decide_eq_true (by omega)]
    rfl
  · have gl := guC_len l
    have i3 := guC_is3 h
    have key : ∀ j : Nat, j < l.length → (guC l).getD j 0 = rarV (guC l) → ((j : Nat) : Int) ∈ guV l := fun j hj e => by
      unfold guV
      rw [h]
      exact List.mem_map.2 ⟨j, mem_idxs (by omega) e, rfl⟩
    rcases one_three (i3 x (by omega)) (i3 y (by omega)) (i3 z (by omega)) (rar_is (guC l)) h1 h2 h3 with e | e | e
    · exact ⟨_, key x hx e.symm, by simp [hsB]⟩
    · exact ⟨_, key y hy e.symm, by simp [hsB]⟩
    · exact ⟨_, key z hz e.symm, by simp [hsB]⟩
end Go.Proofs.Ytblhjeepelgdaaa
