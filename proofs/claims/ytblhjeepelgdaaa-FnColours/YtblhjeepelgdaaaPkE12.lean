/- GuardsOf of the specification. No condition beyond those typed. -/
import Derived.Test.YtblhjeepelgdaaaPkD12
namespace Go.Proofs.Ytblhjeepelgdaaa
open Go.RowKit Go.ChangeMaps
set_option linter.unusedVariables false
set_option maxRecDepth 100000
set_option linter.unusedSimpArgs false

theorem clV_cons (q : Int × Int × Int) (T : List (Int × Int × Int)) (n : Nat) (h : T ≠ []) : clV (q :: T) n = colO q (clV T n) := by
  unfold clV
  rw [List.dropLast_cons_of_ne_nil h, colF_cons]
  congr 2
  cases T with
  | nil => exact absurd rfl h
  | cons a T => simp
theorem clV_len (T : List (Int × Int × Int)) (n : Nat) : (clV T n).length = n := by unfold clV; rw [colF_len, col1_len]
theorem er_at {L : List Nat} {e j : Nat} : (L.eraseIdx e).getD j 0 = if j < e then L.getD j 0 else L.getD (j + 1) 0 := by
  rw [List.getD_eq_getElem?_getD, List.getElem?_eraseIdx]
  split <;> rw [List.getD_eq_getElem?_getD]
/-- Who is next to whom stays, but for the one that is struck out. -/
theorem er_next {L : List Nat} {N e i : Nat} (hN : L.length = N) (h3 : 3 ≤ N) (he : e < N) (hi : i < N) (h1 : i ≠ e) (h2 : (i + 1) % N ≠ e) : ∃ j, j < N - 1 ∧ (L.eraseIdx e).getD j 0 = L.getD i 0 ∧ aft (L.eraseIdx e) j = aft L i := by
  have hl : (L.eraseIdx e).length = N - 1 := by rw [List.length_eraseIdx, if_pos (by omega), hN]
  unfold aft
  rw [hl, hN]
  by_cases c1 : i + 1 = N
  · rw [c1, Nat.mod_self] at h2 ⊢
    refine ⟨N - 2, by omega, ?_, ?_⟩
    · rw [er_at, if_neg (by omega), show N - 2 + 1 = i by omega]
    · rw [show N - 2 + 1 = N - 1 by omega, Nat.mod_self, er_at, if_pos (by omega)]
  · rw [Nat.mod_eq_of_lt (by omega)] at h2 ⊢
    by_cases c2 : i < e
    · refine ⟨i, by omega, by rw [er_at, if_pos c2], ?_⟩
      rw [Nat.mod_eq_of_lt (by omega), er_at, if_pos (by omega)]
    · refine ⟨i - 1, by omega, ?_, ?_⟩
      · rw [er_at, if_neg (by omega), show i - 1 + 1 = i by omega]
      · rw [Nat.mod_eq_of_lt (by omega), er_at, if_neg (by omega), show i - 1 + 1 + 1 = i + 1 by omega]
/-- Behind one that is struck out its neighbours are next to each other. -/
theorem er_join {L : List Nat} {N e : Nat} (hN : L.length = N) (h3 : 3 ≤ N) (he : e < N) : ∃ j, j < N - 1 ∧ (L.eraseIdx e).getD j 0 = bef L e ∧ aft (L.eraseIdx e) j = aft L e := by
  have hl : (L.eraseIdx e).length = N - 1 := by rw [List.length_eraseIdx, if_pos (by omega), hN]
  unfold aft bef
  rw [hl, hN]
  by_cases c0 : e = 0
  · subst c0
    rw [Nat.mod_eq_of_lt (show 0 + N - 1 < N by omega), Nat.mod_eq_of_lt (show 0 + 1 < N by omega)]
    refine ⟨N - 2, by omega, ?_, ?_⟩
    · rw [er_at, if_neg (by omega), show N - 2 + 1 = 0 + N - 1 by omega]
    · rw [show N - 2 + 1 = N - 1 by omega, Nat.mod_self, er_at, if_neg (by omega)]
  · rw [show e + N - 1 = e - 1 + N by omega, Nat.add_mod_right, Nat.mod_eq_of_lt (show e - 1 < N by omega)]
    refine ⟨e - 1, by omega, by rw [er_at, if_pos (by omega)], ?_⟩
    rw [show e - 1 + 1 = e by omega]
    by_cases c1 : e + 1 = N
    · rw [c1, Nat.mod_self, show e = N - 1 by omega, Nat.mod_self, er_at, if_pos (by omega)]
    · rw [Nat.mod_eq_of_lt (show e + 1 < N by omega), Nat.mod_eq_of_lt (show e < N - 1 by omega), er_at, if_neg (by omega)]
def Is3 (c : Int) : Prop := c = 0 ∨ c = 1 ∨ c = 2
/-- Each corner left has one of three colours, another one than the next. -/
structure Col3 (C : List Int) (L : List Nat) : Prop where
  is : ∀ k ∈ L, Is3 (C.getD k 0)
  ne : ∀ i, i < L.length → C.getD (L.getD i 0) 0 ≠ C.getD (aft L i) 0
theorem set_get {C : List Int} {i j : Nat} {v : Int} (hi : i < C.length) : (C.set i v).getD j 0 = if i = j then v else C.getD j 0 := by
  rw [List.getD_eq_getElem?_getD, List.getElem?_set]
  by_cases e : i = j
  · rw [if_pos e, if_pos e, if_pos hi]; rfl
  · rw [if_neg e, if_neg e, List.getD_eq_getElem?_getD]
theorem up_at {L : List Nat} (h : L.Pairwise (· < ·)) {i j : Nat} (hi : i < L.length) (hj : j < L.length) (e : L.getD i 0 = L.getD j 0) : i = j := by
  rw [List.getD_eq_getElem?_getD, List.getD_eq_getElem?_getD, List.getElem?_eq_getElem hi, List.getElem?_eq_getElem hj] at e
  simp only [Option.getD_some] at e
  rcases Nat.lt_trichotomy i j with k | k | k
  · have := List.pairwise_iff_getElem.1 h i j hi hj k; omega
  · exact k
  · have := List.pairwise_iff_getElem.1 h j i hj hi k; omega
/-- Three colours do. -/
theorem col_ok {l : List (Int × Int)} {t : Int} {n : Nat} : ∀ (k : Nat) (L : List Nat), L.length = k + 3 → (∀ x ∈ L, x < n) → L.Pairwise (· < ·) →
    Col3 (clV (cutL l t k L) n) L ∧ ∀ q ∈ cutL l t k L, ∃ x y z : Nat, q = ((x : Int), (y : Int), (z : Int)) ∧ x ∈ L ∧ y ∈ L ∧ z ∈ L ∧ (clV (cutL l t k L) n).getD x 0 ≠ (clV (cutL l t k L) n).getD y 0 ∧ (clV (cutL l t k L) n).getD y 0 ≠ (clV (cutL l t k L) n).getD z 0 ∧ (clV (cutL l t k L) n).getD x 0 ≠ (clV (cutL l t k L) n).getD z 0
  | 0, L, hl, hL, hu => by
    obtain ⟨x, y, z, rfl⟩ : ∃ x y z, L = [x, y, z] := by
      match L, hl with
      | [x, y, z], _ => exact ⟨x, y, z, rfl⟩
    have hx := hL x (by simp)
    have hy := hL y (by simp)
    have hz := hL z (by simp)
    have hxy : x < y := by simp at hu; omega
    have hyz : y < z := by simp at hu; omega
    have eC : clV (cutL l t 0 [x, y, z]) n = ((List.replicate n (0 : Int)).set y 1).set z 2 := by
      simp [clV, cutL, colF, col1]
    have g : ∀ j, j < n → (((List.replicate n (0 : Int)).set y 1).set z 2).getD j 0 = if z = j then 2 else if y = j then 1 else 0 := fun j hj => by
      rw [set_get (by simp; omega), set_get (by simp; omega)]
      have : (List.replicate n (0 : Int)).getD j 0 = 0 := by rw [List.getD_eq_getElem?_getD, List.getElem?_replicate]; split <;> rfl
      rw [this]
    rw [eC]
    have gx : (((List.replicate n (0 : Int)).set y 1).set z 2).getD x 0 = 0 := by rw [g x hx, if_neg (by omega), if_neg (by omega)]
    have gy : (((List.replicate n (0 : Int)).set y 1).set z 2).getD y 0 = 1 := by rw [g y hy, if_neg (by omega), if_pos rfl]
    have gz : (((List.replicate n (0 : Int)).set y 1).set z 2).getD z 0 = 2 := by rw [g z hz, if_pos rfl]
    refine ⟨⟨fun k hk => ?_, fun i hi => ?_⟩, fun q hq => ?_⟩
    · simp only [List.mem_cons, List.not_mem_nil, or_false] at hk
      rcases hk with rfl | rfl | rfl
      · exact .inl gx
      · exact .inr (.inl gy)
      · exact .inr (.inr gz)
    · match i, hi with
      | 0, _ => show _ ≠ (((List.replicate n (0 : Int)).set y 1).set z 2).getD y 0; rw [show [x, y, z].getD 0 0 = x from rfl, gx, gy]; decide
      | 1, _ => show _ ≠ (((List.replicate n (0 : Int)).set y 1).set z 2).getD z 0; rw [show [x, y, z].getD 1 0 = y from rfl, gy, gz]; decide
      | 2, _ => rw [show aft [x, y, z] 2 = x by simp [aft], show [x, y, z].getD 2 0 = z from rfl, gz, gx]; decide
    · simp only [cutL, List.mem_singleton] at hq
      exact ⟨x, y, z, hq, by simp, by simp, by simp, by rw [gx, gy]; decide, by rw [gy, gz]; decide, by rw [gx, gz]; decide⟩
  | k + 1, L, hl, hL, hu => by
    have e := fstE_lt (l := l) (L := L) (t := t) (by omega)
    generalize he : fstE l L t = ee at e
    have hsub := List.eraseIdx_sublist L ee
    have ih := col_ok (l := l) (t := t) (n := n) k (L.eraseIdx ee) (by rw [List.length_eraseIdx, if_pos e]; omega) (fun x hx => hL x (List.mem_of_mem_eraseIdx hx)) (hu.sublist hsub)
    have eC : clV (cutL l t (k + 1) L) n = colO (triE L ee) (clV (cutL l t k (L.eraseIdx ee)) n) := by
      rw [cutL, he, clV_cons _ _ _ (by intro h; have := cutL_len l t k (L.eraseIdx ee); rw [h] at this; simp at this)]
    have eT : cutL l t (k + 1) L = triE L ee :: cutL l t k (L.eraseIdx ee) := by rw [cutL, he]
    rw [eC, eT]
    have CL := clV_len (cutL l t k (L.eraseIdx ee)) n
    generalize clV (cutL l t k (L.eraseIdx ee)) n = C at *
    obtain ⟨c3, tr⟩ := ih
    have yn := hL _ (mem_at e)
    have eO : colO (triE L ee) C = C.set (L.getD ee 0) (3 - C.getD (bef L ee) 0 - C.getD (aft L ee) 0) := by simp [colO, triE]
    have G : ∀ j, (colO (triE L ee) C).getD j 0 = if L.getD ee 0 = j then 3 - C.getD (bef L ee) 0 - C.getD (aft L ee) 0 else C.getD j 0 := fun j => by rw [eO, set_get (by rw [CL]; exact yn)]
    obtain ⟨j, hj, j1, j2⟩ := er_join (L := L) (N := k + 4) (by omega) (by omega) (by omega : ee < k + 4)
    have hel : (L.eraseIdx ee).length = k + 3 := by rw [List.length_eraseIdx, if_pos e]; omega
    have mb : bef L ee ∈ L.eraseIdx ee := by rw [← j1]; exact mem_at (by omega)
    have ma : aft L ee ∈ L.eraseIdx ee := by rw [← j2]; exact aft_mem (by omega)
    have nj := c3.ne j (by omega)
    rw [j1, j2] at nj
    have ib := c3.is _ mb
    have ia := c3.is _ ma
    have v3 : Is3 (3 - C.getD (bef L ee) 0 - C.getD (aft L ee) 0) := by unfold Is3 at *; omega
    have vb : 3 - C.getD (bef L ee) 0 - C.getD (aft L ee) 0 ≠ C.getD (bef L ee) 0 := by unfold Is3 at *; omega
    have va : 3 - C.getD (bef L ee) 0 - C.getD (aft L ee) 0 ≠ C.getD (aft L ee) 0 := by unfold Is3 at *; omega
    have ny : ∀ x ∈ L.eraseIdx ee, L.getD ee 0 ≠ x := fun x hx he => by
      obtain ⟨m, hm, hm2⟩ := List.getElem_of_mem hx
      have h3 : (L.eraseIdx ee).getD m 0 = x := by rw [List.getD_eq_getElem?_getD, List.getElem?_eq_getElem hm]; exact hm2
      rw [er_at] at h3
      rw [← he] at h3
      split at h3
      · have := up_at hu (show m < L.length by omega) e h3; omega
      · have := up_at hu (show m + 1 < L.length by omega) e h3; omega
    have gb : (colO (triE L ee) C).getD (bef L ee) 0 = C.getD (bef L ee) 0 := by rw [G, if_neg (ny _ mb)]
    have ga : (colO (triE L ee) C).getD (aft L ee) 0 = C.getD (aft L ee) 0 := by rw [G, if_neg (ny _ ma)]
    have gy : (colO (triE L ee) C).getD (L.getD ee 0) 0 = 3 - C.getD (bef L ee) 0 - C.getD (aft L ee) 0 := by rw [G, if_pos rfl]
    refine ⟨⟨fun x hx => ?_, fun i hi => ?_⟩, fun q hq => ?_⟩
    · rw [G]
      by_cases c : L.getD ee 0 = x
      · rw [if_pos c]; exact v3
      · rw [if_neg c]
        apply c3.is
        obtain ⟨m, hm, rfl⟩ : ∃ m, m < L.length ∧ L.getD m 0 = x := by
          obtain ⟨m, hm, h2⟩ := List.getElem_of_mem hx
          exact ⟨m, hm, by rw [List.getD_eq_getElem?_getD, List.getElem?_eq_getElem hm]; exact h2⟩
        have hme : m ≠ ee := fun h => c (by rw [h])
        by_cases cm : m < ee
        · have := mem_at (L := L.eraseIdx ee) (i := m) (by omega)
          rw [er_at, if_pos cm] at this; exact this
        · have := mem_at (L := L.eraseIdx ee) (i := m - 1) (by omega)
          rw [er_at, if_neg (by omega), show m - 1 + 1 = m by omega] at this; exact this
    · by_cases c1 : i = ee
      · subst c1; rw [gy, ga]; exact va
      · by_cases c2 : (i + 1) % L.length = ee
        · have ea : aft L i = L.getD ee 0 := by unfold aft; rw [c2]
          have eb : L.getD i 0 = bef L ee := by
            unfold bef
            congr 1
            by_cases w : i + 1 = L.length
            · rw [w, Nat.mod_self] at c2
              subst c2
              rw [Nat.mod_eq_of_lt (by omega)]; omega
            · rw [Nat.mod_eq_of_lt (by omega)] at c2
              rw [← c2, show i + 1 + L.length - 1 = i + L.length by omega, Nat.add_mod_right, Nat.mod_eq_of_lt hi]
          rw [ea, eb, gy, gb]; exact fun h => vb h.symm
        · obtain ⟨m, hm, m1, m2⟩ := er_next (L := L) (N := L.length) rfl (by omega) e hi c1 c2
          have h := c3.ne m (by omega)
          rw [m1, m2] at h
          have x1 : L.getD i 0 ∈ L.eraseIdx ee := by rw [← m1]; exact mem_at (by omega)
          have x2 : aft L i ∈ L.eraseIdx ee := by rw [← m2]; exact aft_mem (by omega)
          rw [G, G, if_neg (ny _ x1), if_neg (ny _ x2)]
          exact h
    · rcases List.mem_cons.1 hq with rfl | hq
      · exact ⟨bef L ee, L.getD ee 0, aft L ee, rfl, List.mem_of_mem_eraseIdx mb, mem_at e, List.mem_of_mem_eraseIdx ma, by rw [gb, gy]; exact fun h => vb h.symm, by rw [gy, ga]; exact va, by rw [gb, ga]; exact nj⟩
      · obtain ⟨x, y, z, h1, h2, h3, h4, h5, h6, h7⟩ := tr q hq
        exact ⟨x, y, z, h1, List.mem_of_mem_eraseIdx h2, List.mem_of_mem_eraseIdx h3, List.mem_of_mem_eraseIdx h4, by rw [G, G, if_neg (ny _ h2), if_neg (ny _ h3)]; exact h5, by rw [G, G, if_neg (ny _ h3), if_neg (ny _ h4)]; exact h6, by rw [G, G, if_neg (ny _ h2), if_neg (ny _ h4)]; exact h7⟩
end Go.Proofs.Ytblhjeepelgdaaa
namespace Go.Proofs.Ytblhjeepelgdaaa
open Go.RowKit Go.ChangeMaps
set_option linter.unusedVariables false
set_option maxRecDepth 100000
set_option linter.unusedSimpArgs false

/-- The numbers of those with a colour. -/
def idxs (C : List Int) (c : Int) : List Nat := (List.range C.length).filter (fun k => C.getD k 0 == c)
def cntU (C : List Int) (c : Int) (m : Nat) : Nat := ((List.range m).filter (fun k => C.getD k 0 == c)).length
theorem cntU_succ (C : List Int) (c : Int) (m : Nat) : cntU C c (m + 1) = cntU C c m + (if C.getD m 0 = c then 1 else 0) := by
  unfold cntU
  rw [List.range_succ, List.filter_append, List.length_append]
  by_cases h : C.getD m 0 = c
  · have hb : (C.getD m 0 == c) = true := by rw [h]; exact beq_self_eq_true c
    rw [if_pos h, List.filter_cons_of_pos (p := fun k => C.getD k 0 == c) hb]; rfl
  · have hb : ¬ ((C.getD m 0 == c) = true) := by rw [beq_iff_eq]; exact h
    rw [if_neg h, List.filter_cons_of_neg (p := fun k => C.getD k 0 == c) hb]; rfl
theorem cntU_le (C : List Int) (c : Int) (m : Nat) : cntU C c m ≤ m := by
  unfold cntU
  exact Nat.le_trans (List.length_filter_le _ _) (by simp)
/-- The rarest colour, the least where as few have two. -/
def rarV (C : List Int) : Int :=
  let r := if cntU C 1 C.length < cntU C 0 C.length then (1 : Int) else 0
  if cntU C 2 C.length < cntU C r C.length then 2 else r
set_option maxHeartbeats 8000000 in
theorem numsI (ai : Option Addr) (n d : Nat) (C : List Int) (c : Int) (w : World) (h : Sl w ai C) (hn : C.length = n) (h12 : n ≤ 1000) :
    Calls Try.prog 50 #[.slice ai n d, .int .i64 c] w fun e w' => ∃ v, e = .returned v ∧ Below w.heap.size w w' ∧ RwI w.heap.size w' v (cI (idxs C c)) := by
  obtain ⟨i0, hi0, hz0, hz1, hz2⟩ := info_parts Try.info3
  have EV : idxs C c = (List.range n).filter (fun k => C.getD k 0 == c) := by unfold idxs; rw [hn]
  rw [EV]
  have al : Below w.heap.size w (w.alloc (.cells #[] 3)) := (Below.refl _ _).alloc (Nat.le_refl _) _
  have E2 := hide (emptyR w)
  have S1 := hide (h.later (Nat.le_refl _) al)
  have AL := hide al
  have SH := hide h
  clear EV al h
  have HN := hide hn
  clear hn
  go_enter Try.func50, Try.ntmps50
  go_wp2
  go_loopw [5, 11] (fun v iv wr => ∃ i : Nat, i ≤ n ∧ iv = .int .i64 i ∧ Hid (RwI w.heap.size wr v (cI ((List.range i).filter (fun k => C.getD k 0 == c)))) ∧ Hid (Below w.heap.size w wr)) (fun _ iv _ => n - (intOf iv).toNat)
  case atStart => exact ⟨0, Nat.zero_le _, rfl, E2, AL⟩
  case round =>
    obtain ⟨i, hi, rfl, HR, HW⟩ := hrel
    by_cases hlt : i < n
    · have hlt' : (i : Int) < (n : Int) := by omega
      obtain ⟨q, off, rfl, c0⟩ := ((unhide SH).later (Nat.le_refl _) (unhide HW)).at (k := i) (by rw [unhide HN]; exact hlt)
      have LF := filt_len (f := fun k => C.getD k 0 == c) i
      have FY : Hid ((C.getD i 0 == c) = true → cI ((List.range (i + 1)).filter (fun k => C.getD k 0 == c)) = cI ((List.range i).filter (fun k => C.getD k 0 == c)) ++ [(i : Int)]) := hide (fun e => filt_yes (f := fun k => C.getD k 0 == c) e)
      have FN : Hid ((C.getD i 0 == c) = false → (List.range (i + 1)).filter (fun k => C.getD k 0 == c) = (List.range i).filter (fun k => C.getD k 0 == c)) := hide (fun e => filt_no (f := fun k => C.getD k 0 == c) e)
      have HR0 := HR
      generalize cI ((List.range i).filter (fun k => C.getD k 0 == c)) = LS at FY HR LF
      generalize C.getD i 0 = y at *
      cases hy : (y == c)
      · have RN := HR0
        rw [← unhide FN hy] at RN
        clear FY FN HR HR0
        go_wp2
        go_roundw
        case rel => exact ⟨i + 1, by omega, by go_num, RN, HW⟩
        case measure => simp [intOf]; omega
      · have RE := hide (unhide FY hy)
        clear FY FN HR0
        go_wp2_with (at_builtin; refine wpList_append_own _ rfl (.tmp 19) (.tmp 21) 25 rfl w.heap.size 3 i0 (.int .i64 0) 1 8 Try.underlying25 hi0 hz0 hz1 hz2 rfl (by decide) _ _ _ rfl ((unhide HR).row.alloc _) ⟨_, 0, none⟩ 1 1 [.int .i64 (i : Int)] rfl rfl (new_cellI _ _) (fun u hu => by simp at hu; subst hu; rfl) (by unfold maxLen; omega) (by omega) (by have := (unhide HW).size; simp; omega) ?_)
        intro v' w6 hown hgr _
        have RN : Hid (RwI w.heap.size w6 v' (cI ((List.range (i + 1)).filter (fun k => C.getD k 0 == c)))) := hide (by rw [unhide RE]; exact RwI.snoc hown)
        have HWN := hide (owns_belowR (unhide HW) (unhide HW).size (unhide HR).row hgr)
        clear hown hgr HR
        go_wp2
        go_roundw
        case rel => exact ⟨i + 1, by omega, by go_num, RN, HWN⟩
        case measure => simp [intOf]; omega
    · obtain rfl : i = n := by omega
      go_wp2
      go_ret
      exact ⟨_, rfl, unhide HW, unhide HR⟩
/-- Three counters in a block. -/
structure Ct3 (w : World) (M : Nat) (T : TypeId) (a b c : Int) : Prop where
  blk : w.heap[M]? = some (.cells #[.int .i64 a, .int .i64 b, .int .i64 c] T (0, 0))
theorem Ct3.cell {w : World} {M : Nat} {T : TypeId} {a b c : Int} (h : Ct3 w M T a b c) : w.cell? ⟨M, 0, none⟩ = some (.int .i64 a) ∧ w.cell? ⟨M, 1, none⟩ = some (.int .i64 b) ∧ w.cell? ⟨M, 2, none⟩ = some (.int .i64 c) := by
  simp [World.cell?, h.blk]
theorem Ct3.fz {w : World} {M : Nat} {T : TypeId} {a b c : Int} (h : Ct3 w M T a b c) (o : Nat) : w.frozen? ⟨M, o, none⟩ = false := by simp [World.frozen?, h.blk]
theorem Ct3.set0 {w : World} {M : Nat} {T : TypeId} {a b c : Int} (h : Ct3 w M T a b c) (x : Int) : Ct3 (w.setCell ⟨M, 0, none⟩ (.int .i64 x)) M T x b c := ⟨by simp [World.setCell, Array.getElem?_modify, h.blk]⟩
theorem Ct3.set1 {w : World} {M : Nat} {T : TypeId} {a b c : Int} (h : Ct3 w M T a b c) (x : Int) : Ct3 (w.setCell ⟨M, 1, none⟩ (.int .i64 x)) M T a x c := ⟨by simp [World.setCell, Array.getElem?_modify, h.blk]⟩
theorem Ct3.set2 {w : World} {M : Nat} {T : TypeId} {a b c : Int} (h : Ct3 w M T a b c) (x : Int) : Ct3 (w.setCell ⟨M, 2, none⟩ (.int .i64 x)) M T a b x := ⟨by simp [World.setCell, Array.getElem?_modify, h.blk]⟩
theorem Ct3.new (w : World) (T : TypeId) (a b c : Int) : Ct3 (w.alloc (.cells #[.int .i64 a, .int .i64 b, .int .i64 c] T)) w.heap.size T a b c := ⟨by show (w.heap.push _)[w.heap.size]? = _; simp⟩
theorem Ct3.drew {w : World} {M : Nat} {T : TypeId} {a b c : Int} (h : Ct3 w M T a b c) : Ct3 w.drew M T a b c := ⟨h.blk⟩
set_option maxHeartbeats 8000000 in
theorem rareI (ai : Option Addr) (n d : Nat) (C : List Int) (w : World) (h : Sl w ai C) (hn : C.length = n) (h12 : n ≤ 1000) (h3 : ∀ k, k < n → Is3 (C.getD k 0)) :
    Calls Try.prog 51 #[.slice ai n d] w fun e w' => e = .returned (.int .i64 (rarV C)) ∧ Below w.heap.size w w' := by
  have SH := hide h
  have HN := hide hn
  have H3 := hide h3
  have RV : Hid (rarV C = (if cntU C 2 n < cntU C (if cntU C 1 n < cntU C 0 n then (1 : Int) else 0) n then 2 else (if cntU C 1 n < cntU C 0 n then (1 : Int) else 0))) := hide (by unfold rarV; rw [hn])
  clear h hn h3
  go_enter Try.func51, Try.ntmps51
  go_wp2
  have C0 := hide (Ct3.new w 91 0 0 0)
  have B0 := hide ((Below.refl w.heap.size w).alloc (Nat.le_refl _) (.cells #[.int .i64 0, .int .i64 0, .int .i64 0] 91))
  generalize w.alloc (.cells #[.int .i64 0, .int .i64 0, .int .i64 0] 91) = w1 at *
  obtain ⟨M, hM⟩ : ∃ M, M = w.heap.size := ⟨_, rfl⟩
  have MG : Hid (w.heap.size ≤ M) := hide (by omega)
  rw [← hM] at C0 ⊢
  clear hM
  go_loopw [11] (fun iv wr => ∃ i : Nat, i ≤ n ∧ iv = .int .i64 i ∧ Hid (Ct3 wr M 91 (cntU C 0 i : Int) (cntU C 1 i : Int) (cntU C 2 i : Int)) ∧ Hid (Below w.heap.size w wr)) (fun iv _ => n - (intOf iv).toNat)
  case atStart => exact ⟨0, Nat.zero_le _, rfl, C0, B0⟩
  case round =>
    clear C0 B0
    obtain ⟨i, hi, rfl, HC, HW⟩ := hrel
    by_cases hlt : i < n
    · have hlt' : (i : Int) < (n : Int) := by omega
      obtain ⟨q, off, rfl, c0⟩ := ((unhide SH).later (Nat.le_refl _) (unhide HW)).at (k := i) (by rw [unhide HN]; exact hlt)
      have D0 := hide (cntU_succ C 0 i)
      have D1 := hide (cntU_succ C 1 i)
      have D2 := hide (cntU_succ C 2 i)
      have i3 := unhide H3 i hlt
      rcases i3 with hy | hy | hy
      · rw [hy] at c0 D0 D1 D2
        have wv : IntKind.i64.wrap ((cntU C 0 i : Int) + 1) = (cntU C 0 (i + 1) : Int) := by rw [unhide D0, if_pos rfl, IntKind.wrap_i64]; have := cntU_le C 0 i; omega
        have k0 := (unhide HC).cell.1
        have k1 := (unhide HC).cell.2.1
        have k2 := (unhide HC).cell.2.2
        have fz := (unhide HC).fz 0
        have HN2 := (unhide HC).set0 (cntU C 0 (i + 1) : Int)
        rw [show (cntU C 1 i : Int) = (cntU C 1 (i + 1) : Int) by rw [unhide D1, if_neg (by decide)]; rfl, show (cntU C 2 i : Int) = (cntU C 2 (i + 1) : Int) by rw [unhide D2, if_neg (by decide)]; rfl] at HN2
        have HN3 := hide HN2
        have HW2 := hide (((But.refl M (M + 1) wr).set (p := ⟨M, 0, none⟩) (Nat.le_refl _) (Nat.lt_succ_self _) (.int .i64 (cntU C 0 (i + 1) : Int))).below (unhide HW) (unhide MG) (unhide HW).size)
        clear HN2 HC HW D0 D1 D2 hy
        go_upto_region 5 with fail
        first | go_region | skip
        go_wp2
        go_roundw
        case rel => exact ⟨i + 1, by omega, by go_num, HN3, HW2⟩
        case measure => simp [intOf]; omega
      · rw [hy] at c0 D0 D1 D2
        have wv : IntKind.i64.wrap ((cntU C 1 i : Int) + 1) = (cntU C 1 (i + 1) : Int) := by rw [unhide D1, if_pos rfl, IntKind.wrap_i64]; have := cntU_le C 1 i; omega
        have k0 := (unhide HC).cell.1
        have k1 := (unhide HC).cell.2.1
        have k2 := (unhide HC).cell.2.2
        have fz := (unhide HC).fz 1
        have HN2 := (unhide HC).set1 (cntU C 1 (i + 1) : Int)
        rw [show (cntU C 2 i : Int) = (cntU C 2 (i + 1) : Int) by rw [unhide D2, if_neg (by decide)]; rfl, show (cntU C 0 i : Int) = (cntU C 0 (i + 1) : Int) by rw [unhide D0, if_neg (by decide)]; rfl] at HN2
        have HN3 := hide HN2
        have HW2 := hide (((But.refl M (M + 1) wr).set (p := ⟨M, 1, none⟩) (Nat.le_refl _) (Nat.lt_succ_self _) (.int .i64 (cntU C 1 (i + 1) : Int))).below (unhide HW) (unhide MG) (unhide HW).size)
        clear HN2 HC HW D0 D1 D2 hy
        go_upto_region 5 with fail
        first | go_region | skip
        go_wp2
        go_roundw
        case rel => exact ⟨i + 1, by omega, by go_num, HN3, HW2⟩
        case measure => simp [intOf]; omega
      · rw [hy] at c0 D0 D1 D2
        have wv : IntKind.i64.wrap ((cntU C 2 i : Int) + 1) = (cntU C 2 (i + 1) : Int) := by rw [unhide D2, if_pos rfl, IntKind.wrap_i64]; have := cntU_le C 2 i; omega
        have k0 := (unhide HC).cell.1
        have k1 := (unhide HC).cell.2.1
        have k2 := (unhide HC).cell.2.2
        have fz := (unhide HC).fz 2
        have HN2 := (unhide HC).set2 (cntU C 2 (i + 1) : Int)
        rw [show (cntU C 0 i : Int) = (cntU C 0 (i + 1) : Int) by rw [unhide D0, if_neg (by decide)]; rfl, show (cntU C 1 i : Int) = (cntU C 1 (i + 1) : Int) by rw [unhide D1, if_neg (by decide)]; rfl] at HN2
        have HN3 := hide HN2
        have HW2 := hide (((But.refl M (M + 1) wr).set (p := ⟨M, 2, none⟩) (Nat.le_refl _) (Nat.lt_succ_self _) (.int .i64 (cntU C 2 (i + 1) : Int))).below (unhide HW) (unhide MG) (unhide HW).size)
        clear HN2 HC HW D0 D1 D2 hy
        go_upto_region 5 with fail
        first | go_region | skip
        go_wp2
        go_roundw
        case rel => exact ⟨i + 1, by omega, by go_num, HN3, HW2⟩
        case measure => simp [intOf]; omega
    · obtain rfl : i = n := by omega
      have a0 := cntU_le C 0 i
      have RR0 := RV
      generalize e0 : cntU C 0 i = A0 at *
      generalize e1 : cntU C 1 i = A1 at *
      generalize e2 : cntU C 2 i = A2 at *
      go_upto_region 9 with fail
      by_cases h1 : A1 < A0
      · have RR1 : Hid (rarV C = if A2 < A1 then 2 else 1) := hide (by rw [unhide RR0, if_pos h1, e1])
        clear RR0 RV e0 e1 e2
        by_cases h2 : A2 < A1
        · have RR : Hid (rarV C = 2) := hide (by rw [unhide RR1, if_pos h2])
          clear RR1
          have d0 : decide (A0 < A0) = false := decide_eq_false (by omega)
          have d0' : ¬ ((A0 : Int) < (A0 : Int)) := by omega
          have d1 : decide (A1 < A0) = true := decide_eq_true (by omega)
          have d1' : ((A1 : Int) < (A0 : Int)) := by omega
          have d2 : decide (A2 < A1) = true := decide_eq_true (by omega)
          have d2' : ((A2 : Int) < (A1 : Int)) := by omega
          go_loopw [21, 6] (fun jv rv wr => Hid (Ct3 wr M 91 (A0 : Int) (A1 : Int) (A2 : Int)) ∧ Hid (Below w.heap.size w wr) ∧ ((jv = .int .i64 0 ∧ rv = .int .i64 0) ∨ (jv = .int .i64 1 ∧ rv = .int .i64 0) ∨ (jv = .int .i64 2 ∧ rv = .int .i64 1) ∨ (jv = .int .i64 3 ∧ rv = .int .i64 2))) (fun jv _ _ => 3 - (intOf jv).toNat)
          case atStart => exact ⟨HC, HW, .inl ⟨rfl, rfl⟩⟩
          case round =>
            clear HC HW
            obtain ⟨HC, HW, hc⟩ := hrel
            have k0 := (unhide HC).cell.1
            have k1 := (unhide HC).cell.2.1
            have k2 := (unhide HC).cell.2.2
            have HC2 := hide (unhide HC).drew
            have HW2 := hide (unhide HW).drew
            rcases hc with ⟨rfl, rfl⟩ | ⟨rfl, rfl⟩ | ⟨rfl, rfl⟩ | ⟨rfl, rfl⟩
            · go_upto_region 11 with fail
              go_region
              clear k0 k1 k2 HC HW
              generalize wr.drew = wd at *
              go_wp2
              go_roundw
              case rel => exact ⟨HC2, HW2, .inr (.inl ⟨by go_num, rfl⟩)⟩
              case measure => (try simp [intOf]); (try omega)
            · go_upto_region 11 with fail
              go_region
              clear k0 k1 k2 HC HW
              generalize wr.drew = wd at *
              go_wp2
              go_roundw
              case rel => exact ⟨HC2, HW2, .inr (.inr (.inl ⟨by go_num, rfl⟩))⟩
              case measure => (try simp [intOf]); (try omega)
            · go_upto_region 11 with fail
              go_region
              clear k0 k1 k2 HC HW
              generalize wr.drew = wd at *
              go_wp2
              go_roundw
              case rel => exact ⟨HC2, HW2, .inr (.inr (.inr ⟨by go_num, rfl⟩))⟩
              case measure => (try simp [intOf]); (try omega)
            · go_wp2
              go_ret
              exact ⟨by rw [unhide RR]; rfl, unhide HW⟩
        · have RR : Hid (rarV C = 1) := hide (by rw [unhide RR1, if_neg h2])
          clear RR1
          have d0 : decide (A0 < A0) = false := decide_eq_false (by omega)
          have d0' : ¬ ((A0 : Int) < (A0 : Int)) := by omega
          have d1 : decide (A1 < A0) = true := decide_eq_true (by omega)
          have d1' : ((A1 : Int) < (A0 : Int)) := by omega
          have d2 : decide (A2 < A1) = false := decide_eq_false (by omega)
          have d2' : ¬ ((A2 : Int) < (A1 : Int)) := by omega
          go_loopw [21, 6] (fun jv rv wr => Hid (Ct3 wr M 91 (A0 : Int) (A1 : Int) (A2 : Int)) ∧ Hid (Below w.heap.size w wr) ∧ ((jv = .int .i64 0 ∧ rv = .int .i64 0) ∨ (jv = .int .i64 1 ∧ rv = .int .i64 0) ∨ (jv = .int .i64 2 ∧ rv = .int .i64 1) ∨ (jv = .int .i64 3 ∧ rv = .int .i64 1))) (fun jv _ _ => 3 - (intOf jv).toNat)
          case atStart => exact ⟨HC, HW, .inl ⟨rfl, rfl⟩⟩
          case round =>
            clear HC HW
            obtain ⟨HC, HW, hc⟩ := hrel
            have k0 := (unhide HC).cell.1
            have k1 := (unhide HC).cell.2.1
            have k2 := (unhide HC).cell.2.2
            have HC2 := hide (unhide HC).drew
            have HW2 := hide (unhide HW).drew
            rcases hc with ⟨rfl, rfl⟩ | ⟨rfl, rfl⟩ | ⟨rfl, rfl⟩ | ⟨rfl, rfl⟩
            · go_upto_region 11 with fail
              go_region
              clear k0 k1 k2 HC HW
              generalize wr.drew = wd at *
              go_wp2
              go_roundw
              case rel => exact ⟨HC2, HW2, .inr (.inl ⟨by go_num, rfl⟩)⟩
              case measure => (try simp [intOf]); (try omega)
            · go_upto_region 11 with fail
              go_region
              clear k0 k1 k2 HC HW
              generalize wr.drew = wd at *
              go_wp2
              go_roundw
              case rel => exact ⟨HC2, HW2, .inr (.inr (.inl ⟨by go_num, rfl⟩))⟩
              case measure => (try simp [intOf]); (try omega)
            · go_upto_region 11 with fail
              go_region
              clear k0 k1 k2 HC HW
              generalize wr.drew = wd at *
              go_wp2
              go_roundw
              case rel => exact ⟨HC2, HW2, .inr (.inr (.inr ⟨by go_num, rfl⟩))⟩
              case measure => (try simp [intOf]); (try omega)
            · go_wp2
              go_ret
              exact ⟨by rw [unhide RR]; rfl, unhide HW⟩
      · have RR1 : Hid (rarV C = if A2 < A0 then 2 else 0) := hide (by rw [unhide RR0, if_neg h1, e0])
        clear RR0 RV e0 e1 e2
        by_cases h2 : A2 < A0
        · have RR : Hid (rarV C = 2) := hide (by rw [unhide RR1, if_pos h2])
          clear RR1
          have d0 : decide (A0 < A0) = false := decide_eq_false (by omega)
          have d0' : ¬ ((A0 : Int) < (A0 : Int)) := by omega
          have d1 : decide (A1 < A0) = false := decide_eq_false (by omega)
          have d1' : ¬ ((A1 : Int) < (A0 : Int)) := by omega
          have d2 : decide (A2 < A0) = true := decide_eq_true (by omega)
          have d2' : ((A2 : Int) < (A0 : Int)) := by omega
          go_loopw [21, 6] (fun jv rv wr => Hid (Ct3 wr M 91 (A0 : Int) (A1 : Int) (A2 : Int)) ∧ Hid (Below w.heap.size w wr) ∧ ((jv = .int .i64 0 ∧ rv = .int .i64 0) ∨ (jv = .int .i64 1 ∧ rv = .int .i64 0) ∨ (jv = .int .i64 2 ∧ rv = .int .i64 0) ∨ (jv = .int .i64 3 ∧ rv = .int .i64 2))) (fun jv _ _ => 3 - (intOf jv).toNat)
          case atStart => exact ⟨HC, HW, .inl ⟨rfl, rfl⟩⟩
          case round =>
            clear HC HW
            obtain ⟨HC, HW, hc⟩ := hrel
            have k0 := (unhide HC).cell.1
            have k1 := (unhide HC).cell.2.1
            have k2 := (unhide HC).cell.2.2
            have HC2 := hide (unhide HC).drew
            have HW2 := hide (unhide HW).drew
            rcases hc with ⟨rfl, rfl⟩ | ⟨rfl, rfl⟩ | ⟨rfl, rfl⟩ | ⟨rfl, rfl⟩
            · go_upto_region 11 with fail
              go_region
              clear k0 k1 k2 HC HW
              generalize wr.drew = wd at *
              go_wp2
              go_roundw
              case rel => exact ⟨HC2, HW2, .inr (.inl ⟨by go_num, rfl⟩)⟩
              case measure => (try simp [intOf]); (try omega)
            · go_upto_region 11 with fail
              go_region
              clear k0 k1 k2 HC HW
              generalize wr.drew = wd at *
              go_wp2
              go_roundw
              case rel => exact ⟨HC2, HW2, .inr (.inr (.inl ⟨by go_num, rfl⟩))⟩
              case measure => (try simp [intOf]); (try omega)
            · go_upto_region 11 with fail
              go_region
              clear k0 k1 k2 HC HW
              generalize wr.drew = wd at *
              go_wp2
              go_roundw
              case rel => exact ⟨HC2, HW2, .inr (.inr (.inr ⟨by go_num, rfl⟩))⟩
              case measure => (try simp [intOf]); (try omega)
            · go_wp2
              go_ret
              exact ⟨by rw [unhide RR]; rfl, unhide HW⟩
        · have RR : Hid (rarV C = 0) := hide (by rw [unhide RR1, if_neg h2])
          clear RR1
          have d0 : decide (A0 < A0) = false := decide_eq_false (by omega)
          have d0' : ¬ ((A0 : Int) < (A0 : Int)) := by omega
          have d1 : decide (A1 < A0) = false := decide_eq_false (by omega)
          have d1' : ¬ ((A1 : Int) < (A0 : Int)) := by omega
          have d2 : decide (A2 < A0) = false := decide_eq_false (by omega)
          have d2' : ¬ ((A2 : Int) < (A0 : Int)) := by omega
          go_loopw [21, 6] (fun jv rv wr => Hid (Ct3 wr M 91 (A0 : Int) (A1 : Int) (A2 : Int)) ∧ Hid (Below w.heap.size w wr) ∧ ((jv = .int .i64 0 ∧ rv = .int .i64 0) ∨ (jv = .int .i64 1 ∧ rv = .int .i64 0) ∨ (jv = .int .i64 2 ∧ rv = .int .i64 0) ∨ (jv = .int .i64 3 ∧ rv = .int .i64 0))) (fun jv _ _ => 3 - (intOf jv).toNat)
          case atStart => exact ⟨HC, HW, .inl ⟨rfl, rfl⟩⟩
          case round =>
            clear HC HW
            obtain ⟨HC, HW, hc⟩ := hrel
            have k0 := (unhide HC).cell.1
            have k1 := (unhide HC).cell.2.1
            have k2 := (unhide HC).cell.2.2
            have HC2 := hide (unhide HC).drew
            have HW2 := hide (unhide HW).drew
            rcases hc with ⟨rfl, rfl⟩ | ⟨rfl, rfl⟩ | ⟨rfl, rfl⟩ | ⟨rfl, rfl⟩
            · go_upto_region 11 with fail
              go_region
              clear k0 k1 k2 HC HW
              generalize wr.drew = wd at *
              go_wp2
              go_roundw
              case rel => exact ⟨HC2, HW2, .inr (.inl ⟨by go_num, rfl⟩)⟩
              case measure => (try simp [intOf]); (try omega)
            · go_upto_region 11 with fail
              go_region
              clear k0 k1 k2 HC HW
              generalize wr.drew = wd at *
              go_wp2
              go_roundw
              case rel => exact ⟨HC2, HW2, .inr (.inr (.inl ⟨by go_num, rfl⟩))⟩
              case measure => (try simp [intOf]); (try omega)
            · go_upto_region 11 with fail
              go_region
              clear k0 k1 k2 HC HW
              generalize wr.drew = wd at *
              go_wp2
              go_roundw
              case rel => exact ⟨HC2, HW2, .inr (.inr (.inr ⟨by go_num, rfl⟩))⟩
              case measure => (try simp [intOf]); (try omega)
            · go_wp2
              go_ret
              exact ⟨by rw [unhide RR]; rfl, unhide HW⟩
/-- The guards of a good simple way: the corners of the rarest colour. -/
noncomputable def guC (l : List (Int × Int)) : List Int := clV (cutL l (sgZ (arS l l.length)) (l.length - 3) (List.range l.length)) l.length
noncomputable def guV (l : List (Int × Int)) : List Int := if ipB l then cI (idxs (guC l) (rarV (guC l))) else []
theorem guC_is {l : List (Int × Int)} {n : Nat} (hn : l.length = n) (h3 : 3 ≤ n) (t : Int) : ∀ k, k < n → Is3 ((clV (cutL l t (n - 3) (List.range n)) n).getD k 0) := fun k hk =>
  (col_ok (l := l) (t := t) (n := n) (n - 3) (List.range n) (by simp; omega) (fun x hx => List.mem_range.1 hx) List.pairwise_lt_range).1.is k (List.mem_range.2 hk)
set_option maxHeartbeats 4000000 in
theorem GuardsOfI (a : Option Addr) (n c : Nat) (l : List (Int × Int)) (w : World) (h : ArP w a n c l) (h1 : n ≤ 1048576) :
    Calls Try.prog 15 #[.slice a n c] w fun e w' => ∃ a' n' c', e = .returned (.tuple #[.slice a' n' c', .bool (ipB l)]) ∧ Below w.heap.size w w' ∧ RtI w.heap.size w' a' n' c' (guV l) ∧ n' ≤ 1048576 := by
  have hn := h.len
  have CG := hide (fun w (k : SlP w a l) => gswI a n c l w k hn h1)
  have HS := hide h.sl
  cases hp : ipB l
  · rw [hp] at CG
    have EV : guV l = [] := by unfold guV; rw [hp]; rfl
    rw [EV]
    clear hp h hn EV
    go_enter Try.func15, Try.ntmps15
    go_wp2_with fail
    refine (unhide CG _ (unhide HS)).mono ?_
    rintro e w1 ⟨rfl, hb⟩
    go_wp2_with fail
    go_ret2
    exact ⟨none, 0, 0, rfl, hb, ⟨rfl, .inl rfl⟩, by omega⟩
  · rw [hp] at CG
    have wp := way_parts (ip_parts hp).1
    have CC := hide (fun w (k : SlP w a l) => colI11 a n c l w k hn hp)
    have EG : guC l = clV (cutL l (sgZ (arS l l.length)) (n - 3) (List.range n)) n := by unfold guC; rw [hn]
    have EV : guV l = cI (idxs (guC l) (rarV (guC l))) := by unfold guV; rw [hp]; rfl
    have GL : (guC l).length = n := by rw [EG, clV_len]
    have G3 : Hid (∀ k, k < n → Is3 ((guC l).getD k 0)) := hide (by rw [EG]; exact guC_is hn (by omega) _)
    rw [← EG] at CC
    rw [EV]
    have n12 : n ≤ 12 := by omega
    generalize guC l = C at *
    clear hp h hn wp EV EG
    go_enter Try.func15, Try.ntmps15
    go_wp2_with fail
    refine (unhide CG _ (unhide HS)).mono ?_
    rintro e w1 ⟨rfl, hb⟩
    replace HS := hide ((unhide HS).later hb)
    have HB := hide hb
    clear hb
    go_wp2_with fail
    refine (unhide CC _ (unhide HS)).mono ?_
    rintro e w2 ⟨v, rfl, hb, rt⟩
    obtain ⟨a4, c4, rfl, s4⟩ := rt.sl
    rw [GL]
    have S4 := hide s4
    replace HB := hide (below_on (unhide HB) hb)
    clear hb rt s4 CC CG HS
    go_wp2_with fail
    refine (rareI a4 n c4 C _ (unhide S4) GL (by omega) (unhide G3)).mono ?_
    rintro e w3 ⟨rfl, hb⟩
    replace S4 := hide ((unhide S4).later (Nat.le_refl _) hb)
    replace HB := hide (below_on (unhide HB) hb)
    clear hb
    go_wp2_with fail
    refine (numsI a4 n c4 C (rarV C) _ (unhide S4) GL (by omega)).mono ?_
    rintro e w4 ⟨v, rfl, hb, rt⟩
    obtain ⟨a', c', rfl, r2⟩ := (rt.mono (unhide HB).size).rt
    have LL : (cI (idxs C (rarV C))).length ≤ n := by rw [cI_len]; unfold idxs; exact Nat.le_trans (List.length_filter_le _ _) (by simp; omega)
    have R2 := hide r2
    replace HB := hide (below_on (unhide HB) hb)
    clear hb rt r2
    go_wp2_with fail
    go_ret2
    exact ⟨a', _, c', rfl, unhide HB, unhide R2, by omega⟩
end Go.Proofs.Ytblhjeepelgdaaa
namespace Go.Proofs.Ytblhjeepelgdaaa
open Go.RowKit Go.ChangeMaps
set_option linter.unusedVariables false
set_option maxRecDepth 100000
set_option linter.unusedSimpArgs false

/-- What is best behind the colours from m on. -/
def bstV (C : List Int) : Nat → List Nat
  | 0 => if (idxs C 0).length ≤ (if (idxs C 1).length ≤ (idxs C 2).length then idxs C 1 else idxs C 2).length then idxs C 0 else (if (idxs C 1).length ≤ (idxs C 2).length then idxs C 1 else idxs C 2)
  | 1 => if (idxs C 1).length ≤ (idxs C 2).length then idxs C 1 else idxs C 2
  | 2 => idxs C 2
  | _ => []
theorem bst_rar (C : List Int) : bstV C 0 = idxs C (rarV C) := by
  have e : ∀ c, cntU C c C.length = (idxs C c).length := fun c => rfl
  unfold bstV rarV
  simp only [e]
  by_cases h1 : (idxs C 1).length < (idxs C 0).length
  · rw [if_pos h1]
    by_cases h2 : (idxs C 2).length < (idxs C 1).length
    · rw [if_pos h2, if_neg (show ¬ (idxs C 1).length ≤ (idxs C 2).length by omega), if_neg (by omega)]
    · rw [if_neg h2, if_pos (show (idxs C 1).length ≤ (idxs C 2).length by omega), if_neg (by omega)]
  · rw [if_neg h1]
    by_cases h2 : (idxs C 2).length < (idxs C 0).length
    · rw [if_pos h2, if_neg (show ¬ (idxs C 1).length ≤ (idxs C 2).length by omega), if_neg (by omega)]
    · rw [if_neg h2]
      by_cases h3 : (idxs C 1).length ≤ (idxs C 2).length
      · rw [if_pos h3, if_pos (by omega)]
      · rw [if_neg h3, if_pos (by omega)]
theorem bst_step (C : List Int) (m : Nat) (hm : m < 3) : bstV C m = if m = 2 ∨ (idxs C (m : Int)).length ≤ (bstV C (m + 1)).length then idxs C (m : Int) else bstV C (m + 1) := by
  match m, hm with
  | 0, _ => simp [bstV]
  | 1, _ => simp [bstV]
  | 2, _ => simp [bstV]
theorem bst_len (C : List Int) : ∀ m, (bstV C m).length ≤ C.length := by
  have h : ∀ c, (idxs C c).length ≤ C.length := fun c => Nat.le_trans (List.length_filter_le _ _) (by simp)
  have h1 : bstV C 1 = idxs C 1 ∨ bstV C 1 = idxs C 2 := by
    unfold bstV
    by_cases c : (idxs C 1).length ≤ (idxs C 2).length
    · rw [if_pos c]; exact .inl rfl
    · rw [if_neg c]; exact .inr rfl
  have h0 : bstV C 0 = idxs C 0 ∨ bstV C 0 = bstV C 1 := by
    show (if (idxs C 0).length ≤ (bstV C 1).length then idxs C 0 else bstV C 1) = _ ∨ (if (idxs C 0).length ≤ (bstV C 1).length then idxs C 0 else bstV C 1) = _
    by_cases c : (idxs C 0).length ≤ (bstV C 1).length
    · rw [if_pos c]; exact .inl rfl
    · rw [if_neg c]; exact .inr rfl
  intro m
  match m with
  | 0 => rcases h0 with e | e <;> rw [e]; exact h 0; rcases h1 with e | e <;> rw [e]; exact h 1; exact h 2
  | 1 => rcases h1 with e | e <;> rw [e]; exact h 1; exact h 2
  | 2 => exact h 2
  | m + 3 => simp [bstV]
set_option maxHeartbeats 8000000 in
theorem GuardsOfS (a : Option Addr) (n c : Nat) (l : List (Int × Int)) (w : World) (h : ArP w a n c l) (h1 : n ≤ 1048576) :
    Calls Try.prog 16 #[.slice a n c] w fun e w' => ∃ a' n' c', e = .returned (.tuple #[.slice a' n' c', .bool (ipB l)]) ∧ Below w.heap.size w w' ∧ RtI w.heap.size w' a' n' c' (guV l) ∧ n' ≤ 1048576 := by
  obtain ⟨i0, hi0, hz0, hz1, hz2⟩ := info_parts Try.info3
  have hn := h.len
  have CG := hide (fun w (k : SlP w a l) => gswS a n c l w k hn h1)
  have HS := hide h.sl
  cases hp : ipB l
  · rw [hp] at CG
    have EV : guV l = [] := by unfold guV; rw [hp]; rfl
    rw [EV]
    clear hp h hn EV
    go_enter Try.func16, Try.ntmps16
    go_wp2_with fail
    refine (unhide CG _ (unhide HS)).mono ?_
    rintro e w1 ⟨rfl, hb⟩
    go_wp2_with fail
    go_ret2
    exact ⟨none, 0, 0, rfl, hb, ⟨rfl, .inl rfl⟩, by omega⟩
  · rw [hp] at CG
    have wp := way_parts (ip_parts hp).1
    have CC := hide (fun w (k : SlP w a l) => colS11 a n c l w k hn (by omega) (by omega) wp.2)
    have EG : guC l = clV (cutL l (sgZ (arS l l.length)) (n - 3) (List.range n)) n := by unfold guC; rw [hn]
    have EV : guV l = cI (bstV (guC l) 0) := by unfold guV; rw [hp, bst_rar]; rfl
    have GL : (guC l).length = n := by rw [EG, clV_len]
    rw [← EG] at CC
    rw [EV]
    have n12 : n ≤ 12 := by omega
    generalize guC l = C at *
    clear hp h hn wp EV EG
    have HG := hide GL
    go_enter Try.func16, Try.ntmps16
    go_wp2_with fail
    refine (unhide CG _ (unhide HS)).mono ?_
    rintro e w1 ⟨rfl, hb⟩
    replace HS := hide ((unhide HS).later hb)
    have HB := hide hb
    clear hb
    go_wp2_with fail
    refine (unhide CC _ (unhide HS)).mono ?_
    rintro e w2 ⟨v, rfl, hb, rt⟩
    obtain ⟨a4, c4, rfl, s4⟩ := rt.sl
    rw [GL]
    have S4 := hide s4
    replace HB := hide (below_on (unhide HB) hb)
    clear hb rt s4 CC CG HS GL
    go_wp2_with fail
    go_loopw [5, 6] (fun bv cv wr => ∃ m : Nat, m ≤ 3 ∧ cv = .int .i64 ((m : Int) - 1) ∧ Hid (RwI w2.heap.size wr bv (cI (bstV C m))) ∧ Hid (Below w2.heap.size w2 wr)) (fun _ cv _ => ((intOf cv) + 1).toNat)
    case atStart => exact ⟨3, Nat.le_refl _, by go_num, hide (RwI.nil _ _), hide (Below.refl _ _)⟩
    case round =>
      obtain ⟨m, hm, rfl, HR, HW⟩ := hrel
      by_cases hm0 : m = 0
      · subst hm0
        obtain ⟨a', c', rfl, r2⟩ := ((unhide HR).mono (unhide HB).size).rt
        have LL : (cI (bstV C 0)).length ≤ n := by rw [cI_len, ← unhide HG]; exact bst_len C 0
        have R2 := hide r2
        clear r2 HR
        go_wp2
        go_ret2
        exact ⟨a', _, c', rfl, below_on (unhide HB) (unhide HW), unhide R2, by omega⟩
      · obtain ⟨p, hp⟩ : ∃ p, m = p + 1 := ⟨m - 1, by omega⟩
        have ip : (m : Int) - 1 = (p : Int) := by omega
        rw [ip]
        have wp1 : IntKind.i64.wrap ((p : Int) - 1) = (p : Int) - 1 := by rw [IntKind.wrap_i64]; omega
        have p3 : p < 3 := by omega
        have p0 : (0 : Int) ≤ (p : Int) := by omega
        have BS := hide (bst_step C p p3)
        rw [← hp] at BS
        have EI : Hid (idxs C (p : Int) = (List.range n).filter (fun k => C.getD k 0 == (p : Int))) := hide (by unfold idxs; rw [unhide HG])
        have BL : (bstV C m).length ≤ n := by rw [← unhide HG]; exact bst_len C m
        clear ip hp hm0
        obtain ⟨wp, hwp⟩ : ∃ x, x = wr := ⟨_, rfl⟩
        subst hwp
        go_upto_region 10 with fail
        go_loopw [7, 21] (fun v iv wr => ∃ i : Nat, i ≤ n ∧ iv = .int .i64 i ∧ Hid (RwI wp.heap.size wr v (cI ((List.range i).filter (fun k => C.getD k 0 == (p : Int))))) ∧ Hid (Below wp.heap.size wp wr)) (fun _ iv _ => n - (intOf iv).toNat)
        case atStart => exact ⟨0, Nat.zero_le _, rfl, hide (RwI.nil _ _), hide (Below.refl _ _)⟩
        case round =>
          obtain ⟨i, hi, rfl, HI, HX⟩ := hrel
          by_cases hlt : i < n
          · have hlt' : (i : Int) < (n : Int) := by omega
            obtain ⟨q, off, rfl, c0⟩ := (((unhide S4).later (Nat.le_refl _) (unhide HW)).later (Nat.le_refl _) (unhide HX)).at (k := i) (by rw [unhide HG]; exact hlt)
            have LF := filt_len (f := fun k => C.getD k 0 == (p : Int)) i
            have FY : Hid ((C.getD i 0 == (p : Int)) = true → cI ((List.range (i + 1)).filter (fun k => C.getD k 0 == (p : Int))) = cI ((List.range i).filter (fun k => C.getD k 0 == (p : Int))) ++ [(i : Int)]) := hide (fun e => filt_yes (f := fun k => C.getD k 0 == (p : Int)) e)
            have FN : Hid ((C.getD i 0 == (p : Int)) = false → (List.range (i + 1)).filter (fun k => C.getD k 0 == (p : Int)) = (List.range i).filter (fun k => C.getD k 0 == (p : Int))) := hide (fun e => filt_no (f := fun k => C.getD k 0 == (p : Int)) e)
            have HR0 := HI
            generalize cI ((List.range i).filter (fun k => C.getD k 0 == (p : Int))) = LS at FY HI LF
            generalize C.getD i 0 = y at *
            cases hy : (y == (p : Int))
            · have RN := HR0
              rw [← unhide FN hy] at RN
              clear FY FN HI HR0
              go_wp2
              go_roundw
              case rel => exact ⟨i + 1, by omega, by go_num, RN, HX⟩
              case measure => simp [intOf]; omega
            · have RE := hide (unhide FY hy)
              clear FY FN HR0
              go_wp2_with (at_builtin; refine wpList_append_own _ rfl (.tmp 29) (.tmp 31) 25 rfl wp.heap.size 3 i0 (.int .i64 0) 1 8 Try.underlying25 hi0 hz0 hz1 hz2 rfl (by decide) _ _ _ rfl ((unhide HI).row.alloc _) ⟨_, 0, none⟩ 1 1 [.int .i64 (i : Int)] rfl rfl (new_cellI _ _) (fun u hu => by simp at hu; subst hu; rfl) (by unfold maxLen; omega) (by omega) (by have := (unhide HX).size; simp; omega) ?_)
              intro v' w6 hown hgr _
              have RN : Hid (RwI wp.heap.size w6 v' (cI ((List.range (i + 1)).filter (fun k => C.getD k 0 == (p : Int))))) := hide (by rw [unhide RE]; exact RwI.snoc hown)
              have HWN := hide (owns_belowR (unhide HX) (unhide HX).size (unhide HI).row hgr)
              clear hown hgr HI
              go_wp2
              go_roundw
              case rel => exact ⟨i + 1, by omega, by go_num, RN, HWN⟩
              case measure => simp [intOf]; omega
          · obtain rfl : i = n := by omega
            rw [← unhide EI] at HI
            have RB := hide ((unhide HR).later (unhide HX))
            have HWX := hide (below_on (unhide HW) (unhide HX))
            have RI := hide ((unhide HI).mono (unhide HW).size)
            have IL : (idxs C (p : Int)).length ≤ i := by rw [unhide EI]; exact Nat.le_trans (List.length_filter_le _ _) (by simp)
            obtain ⟨a7, c7, rfl, _⟩ := (unhide RI).sl
            rw [cI_len] at RI ⊢
            obtain ⟨a5, c5, hv5, _⟩ := (unhide RB).sl
            rw [cI_len] at hv5
            subst hv5
            have yes : Hid ((p = 2 ∨ (idxs C (p : Int)).length ≤ (bstV C m).length) → bstV C p = idxs C (p : Int)) := hide (fun h => by rw [unhide BS, if_pos h])
            have no : Hid (¬ (p = 2 ∨ (idxs C (p : Int)).length ≤ (bstV C m).length) → bstV C p = bstV C m) := hide (fun h => by rw [unhide BS, if_neg h])
            have hpm : p ≤ 3 := by omega
            clear BS EI HI HR HW HX
            generalize hA : (idxs C (p : Int)).length = A at *
            generalize hD : (bstV C m).length = Dn at *
            by_cases h2 : p = 2
            · have BE := unhide yes (.inl h2)
              rw [← BE] at RI
              have d2 : ((p : Int) == 2) = true := by rw [h2]; rfl
              subst h2
              clear yes no BE
              go_wp2
              go_roundw
              case rel => exact ⟨2, hpm, by go_num, RI, HWX⟩
              case measure => (try simp [intOf]); (try omega)
            · have d2 : ((p : Int) == 2) = false := by rw [beq_eq_false_iff_ne]; omega
              have d2' : ¬ ((p : Int) = 2) := by omega
              by_cases h4 : A ≤ Dn
              · have BE := unhide yes (.inr h4)
                rw [← BE] at RI
                have d4 : decide (A ≤ Dn) = true := decide_eq_true h4
                have d4' : (A : Int) ≤ (Dn : Int) := by omega
                clear yes no BE
                go_wp2
                go_roundw
                case rel => exact ⟨p, hpm, by go_num, RI, HWX⟩
                case measure => (try simp [intOf]); (try omega)
              · have BE := unhide no (fun h => h.elim h2 h4)
                rw [← BE] at RB
                have d4 : decide (A ≤ Dn) = false := decide_eq_false h4
                have d4' : ¬ ((A : Int) ≤ (Dn : Int)) := by omega
                clear yes no BE
                go_wp2
                go_roundw
                case rel => exact ⟨p, hpm, by go_num, RB, HWX⟩
                case measure => (try simp [intOf]); (try omega)
end Go.Proofs.Ytblhjeepelgdaaa
