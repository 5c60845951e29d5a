/- slices.Equal and slices.Index over points. No condition beyond those typed. No condition beyond those typed. Written by mkcx10.py. -/
import Derived.Test.YtgoiodhofbkkdaaHi10
namespace Go.Proofs.Ytgoiodhofbkkdaa
open Go.RowKit
set_option linter.unusedVariables false
set_option maxRecDepth 100000
set_option linter.unusedSimpArgs false

set_option maxHeartbeats 4000000 in
theorem sameI (a b : Option Addr) (n c m d : Nat) (l k : List (Int × Int)) (w : World) (h : SlP w a l) (h' : SlP w b k) (hn : l.length = n) (hm : k.length = m) (h1 : n ≤ 1048576) :
    Calls Try.prog 53 #[.slice a n c, .slice b m d] w fun e w' => e = .returned (.bool (decide (l = k))) ∧ Below w.heap.size w w' := by
  have HS := hide h
  have HS' := hide h'
  have HN := hide hn
  have HM := hide hm
  clear h hn h' hm
  by_cases hnm : n = m
  · subst hnm
    have nn : ((n : Int) != (n : Int)) = false := by simp
    go_enter Try.func53, Try.ntmps53
    go_wp2
    go_loopw [13] (fun iv wr => ∃ (i : Nat), i ≤ n ∧ iv = .int .i64 i ∧ Hid (∀ j, j < i → l.getD j (0, 0) = k.getD j (0, 0)) ∧ Hid (Below w.heap.size w wr)) (fun iv _ => n - (intOf iv).toNat)
    case atStart => exact ⟨0, Nat.zero_le _, rfl, hide (fun j hj => absurd hj (by omega)), hide (Below.refl _ _)⟩
    case round =>
      obtain ⟨i, hi, rfl, HE, HB⟩ := hrel
      by_cases hlt : i < n
      · have hlt' : (i : Int) < (n : Int) := by omega
        rcases (unhide HS) with e | ⟨b, off, rfl, hb, hc⟩
        · exact absurd (unhide HN) (by rw [e]; simp; omega)
        have e0 := hc i (by rw [unhide HN]; exact hlt)
        rcases (unhide HS') with e | ⟨b', off', rfl, hb', hc'⟩
        · exact absurd (unhide HM) (by rw [e]; simp; omega)
        have f0 := hc' i (by rw [unhide HM]; exact hlt)
        rw [← getD_gt (by rw [unhide HN]; exact hlt)] at e0
        rw [← getD_gt (by rw [unhide HM]; exact hlt)] at f0
        have HX : Hid (l.getD i (0, 0) ≠ k.getD i (0, 0) → decide (l = k) = false) := hide (fun hne => decide_eq_false (fun e => hne (by rw [e])))
        have HY : Hid (l.getD i (0, 0) = k.getD i (0, 0) → ∀ j, j < i + 1 → l.getD j (0, 0) = k.getD j (0, 0)) := hide (fun he j hj => by
          by_cases hji : j = i
          · subst hji; exact he
          · exact unhide HE j (by omega))
        generalize l.getD i (0, 0) = x at *
        generalize k.getD i (0, 0) = y at *
        clear hc hc' HE
        have E0 : wr.cell? ⟨b, off + i * 2, none⟩ = some (.int .i64 x.1) := ((unhide HB).cell (p := ⟨b, off + i * 2, none⟩) hb).trans (e0.1)
        have E1 : wr.cell? ⟨b, off + i * 2 + 1, none⟩ = some (.int .i64 x.2) := ((unhide HB).cell (p := ⟨b, off + i * 2 + 1, none⟩) hb).trans (e0.2)
        have F0 : wr.cell? ⟨b', off' + i * 2, none⟩ = some (.int .i64 y.1) := ((unhide HB).cell (p := ⟨b', off' + i * 2, none⟩) hb').trans (f0.1)
        have F1 : wr.cell? ⟨b', off' + i * 2 + 1, none⟩ = some (.int .i64 y.2) := ((unhide HB).cell (p := ⟨b', off' + i * 2 + 1, none⟩) hb').trans (f0.2)
        clear e0 f0
        by_cases h1 : x.1 = y.1
        · by_cases h2 : x.2 = y.2
          · have hxy : x = y := Prod.ext h1 h2
            have HZ := hide (unhide HY hxy)
            subst hxy
            have q1 : (x.1 == x.1) = true := by simp
            have q2 : (x.2 == x.2) = true := by simp
            clear h1 h2 HX HY
            go_upto_region 6 with fail
            go_region
            clear E0 F0 E1 F1
            go_wp2
            go_roundw
            case rel => exact ⟨i + 1, by omega, by go_num, HZ, hide (unhide HB).drew⟩
            case measure => simp [intOf]; omega
          · have EF := hide (unhide HX (fun e => h2 (by rw [e])))
            have q1 : (x.1 == y.1) = true := by simp [h1]
            have q2 : (x.2 == y.2) = false := by simp [h2]
            clear h1 h2 HX HY
            go_upto_region 6 with fail
            go_region
            clear E0 F0 E1 F1
            go_wp2
            go_ret
            exact ⟨by rw [unhide EF]; rfl, (unhide HB).drew⟩
        · have EF := hide (unhide HX (fun e => h1 (by rw [e])))
          have q1 : (x.1 == y.1) = false := by simp [h1]
          clear h1 HX HY
          go_upto_region 6 with fail
          go_region
          clear E0 F0 E1 F1
          go_wp2
          go_ret
          exact ⟨by rw [unhide EF]; rfl, (unhide HB).drew⟩
      · obtain rfl : i = n := by omega
        have EF : Hid (decide (l = k) = true) := hide (decide_eq_true (by
          apply List.ext_getElem
          · rw [unhide HN, unhide HM]
          · intro j h2 h3
            have := unhide HE j (by rw [← unhide HN]; exact h2)
            rw [getD_gt h2, getD_gt h3] at this
            exact this))
        go_wp2
        go_ret
        exact ⟨by rw [unhide EF]; rfl, unhide HB⟩
  · have EF : Hid (decide (l = k) = false) := hide (decide_eq_false (fun e => hnm (by rw [← unhide HN, ← unhide HM, e])))
    have nn : ((n : Int) != (m : Int)) = true := by simp; omega
    go_enter Try.func53, Try.ntmps53
    go_wp2
    go_ret
    exact ⟨by rw [unhide EF]; rfl, Below.refl _ _⟩
/-- Where it is first. -/
def ixP (l : List (Int × Int)) (p : Int × Int) : Nat := (l.takeWhile (fun q => decide (q ≠ p))).length
theorem ix_eq {p : Int × Int} : ∀ {l : List (Int × Int)} {k : Nat}, (∀ j, j < k → l.getD j (0, 0) ≠ p) → k < l.length → l.getD k (0, 0) = p → ixP l p = k
  | [], k, _, h, _ => by simp at h
  | q :: r, 0, _, _, h2 => by
    have : q = p := by simpa using h2
    simp [ixP, this]
  | q :: r, k + 1, h1, hk, h2 => by
    have h0 : q ≠ p := by simpa using h1 0 (by omega)
    have ih := ix_eq (p := p) (l := r) (k := k) (fun j hj => by simpa using h1 (j + 1) (by omega)) (by simp at hk; omega) (by simpa using h2)
    unfold ixP at ih ⊢
    rw [List.takeWhile_cons, if_pos (by simp [h0]), List.length_cons, ih]
set_option maxHeartbeats 4000000 in
theorem indexI (a : Option Addr) (n c : Nat) (l : List (Int × Int)) (p : Int × Int) (w : World) (h : SlP w a l) (hn : l.length = n) (h1 : n ≤ 1048576) (hp : p ∈ l) :
    Calls Try.prog 88 #[.slice a n c, .agg #[.int .i64 p.1, .int .i64 p.2]] w fun e w' => e = .returned (.int .i64 (ixP l p)) ∧ Below w.heap.size w w' := by
  have HS := hide h
  have HN := hide hn
  have HP := hide hp
  have KP : Hid ((w.alloc (.cells #[.int .i64 p.1, .int .i64 p.2] 31)).cell? ⟨w.heap.size, 0, none⟩ = some (.int .i64 p.1) ∧ (w.alloc (.cells #[.int .i64 p.1, .int .i64 p.2] 31)).cell? ⟨w.heap.size, 1, none⟩ = some (.int .i64 p.2)) := hide (by simp [go_sem])
  have ltX : w.heap.size < (w.alloc (.cells #[.int .i64 p.1, .int .i64 p.2] 31)).heap.size := by simp
  have HB0 : Hid (Below w.heap.size w (w.alloc (.cells #[.int .i64 p.1, .int .i64 p.2] 31))) := hide ((Below.refl _ _).alloc (Nat.le_refl _) _)
  clear h hn hp
  go_enter Try.func88, Try.ntmps88
  go_upto_region 1 with fail
  generalize w.alloc (.cells #[.int .i64 p.1, .int .i64 p.2] 31) = w2 at *
  generalize hPX : w.heap.size = PX at *
  replace HB0 : Hid (Below w.heap.size w w2) := hide (by rw [hPX]; exact unhide HB0)
  clear hPX
  go_wp2
  go_loopw [8] (fun iv wr => ∃ i : Nat, i ≤ n ∧ iv = .int .i64 i ∧ Hid (∀ j, j < i → l.getD j (0, 0) ≠ p) ∧ Hid (Below w2.heap.size w2 wr)) (fun iv _ => n - (intOf iv).toNat)
  case atStart => exact ⟨0, Nat.zero_le _, rfl, hide (fun j hj => absurd hj (by omega)), hide (Below.refl _ _)⟩
  case round =>
    obtain ⟨i, hi, rfl, HI, HB⟩ := hrel
    have e0 : wr.cell? ⟨PX, 0, none⟩ = some (.int .i64 p.1) := ((unhide HB).cell (p := ⟨PX, 0, none⟩) ltX).trans (unhide KP).1
    have e1 : wr.cell? ⟨PX, 1, none⟩ = some (.int .i64 p.2) := ((unhide HB).cell (p := ⟨PX, 1, none⟩) ltX).trans (unhide KP).2
    by_cases hlt : i < n
    · have hlt' : (i : Int) < (n : Int) := by omega
      rcases (unhide HS) with e | ⟨b, off, rfl, hb, hc⟩
      · exact absurd (unhide HN) (by rw [e]; simp; omega)
      have bw : b < w2.heap.size := Nat.lt_of_lt_of_le hb (unhide HB0).size
      have c0 := hc i (by rw [unhide HN]; exact hlt)
      rw [← getD_gt (by rw [unhide HN]; exact hlt)] at c0
      have HF : Hid (l.getD i (0, 0) = p → ixP l p = i) := hide (fun e => ix_eq (unhide HI) (by rw [unhide HN]; exact hlt) e)
      have HE : Hid (l.getD i (0, 0) ≠ p → ∀ j, j < i + 1 → l.getD j (0, 0) ≠ p) := hide (fun e j hj => by
        by_cases h : j = i
        · rw [h]; exact e
        · exact unhide HI j (by omega))
      generalize l.getD i (0, 0) = q at *
      have E0 : wr.cell? ⟨b, off + i * 2, none⟩ = some (.int .i64 q.1) := ((unhide HB).cell (p := ⟨b, off + i * 2, none⟩) bw).trans (((unhide HB0).cell (p := ⟨b, off + i * 2, none⟩) hb).trans c0.1)
      have E1 : wr.cell? ⟨b, off + i * 2 + 1, none⟩ = some (.int .i64 q.2) := ((unhide HB).cell (p := ⟨b, off + i * 2 + 1, none⟩) bw).trans (((unhide HB0).cell (p := ⟨b, off + i * 2 + 1, none⟩) hb).trans c0.2)
      clear c0 hc HI
      by_cases hx : p.1 = q.1
      · by_cases hy : p.2 = q.2
        · have he : q = p := Prod.ext hx.symm hy.symm
          have HX := hide (unhide HF he)
          have HW := hide (below_on (unhide HB0) (unhide HB))
          have q1 : (p.1 == q.1) = true := by simp [hx]
          have q2 : (p.2 == q.2) = true := by simp [hy]
          clear hx hy he HF HE
          go_upto_region 4 with fail
          go_region
          clear E0 E1 e0 e1
          replace HW := hide (unhide HW).drew
          generalize wr.drew = w5 at *
          go_wp2
          go_ret
          exact ⟨by rw [unhide HX]; rfl, unhide HW⟩
        · have he : q ≠ p := fun e => hy (by rw [e])
          have HX := hide (unhide HE he)
          have q1 : (p.1 == q.1) = true := by simp [hx]
          have q2 : (p.2 == q.2) = false := by simp [hy]
          clear hx hy he HF HE
          go_upto_region 4 with fail
          go_region
          clear E0 E1 e0 e1
          replace HB := hide (unhide HB).drew
          generalize wr.drew = w5 at *
          go_wp2
          go_roundw
          case rel => exact ⟨i + 1, by omega, by go_num, HX, HB⟩
          case measure => simp [intOf]; omega
      · have he : q ≠ p := fun e => hx (by rw [e])
        have HX := hide (unhide HE he)
        have q1 : (p.1 == q.1) = false := by simp [hx]
        clear hx he HF HE
        cases q2 : (p.2 == q.2)
        all_goals
          go_upto_region 4 with fail
          go_region
          clear E0 E1 e0 e1
          replace HB := hide (unhide HB).drew
          generalize wr.drew = w5 at *
          go_wp2
          go_roundw
          case rel => exact ⟨i + 1, by omega, by go_num, HX, HB⟩
          case measure => simp [intOf]; omega
    · obtain rfl : i = n := by omega
      obtain ⟨j, hj, e⟩ := List.mem_iff_getElem.1 (unhide HP)
      exact absurd (by rw [getD_gt hj]; exact e) (unhide HI j (by rw [← unhide HN]; exact hj))
/-- The least one comes first. -/
theorem leK_least (l : List (Int × Int)) : ∀ i, 0 < l.length → i ≤ l.length → (∀ j, j < i → ltP (l.getD j (0, 0)) (l.getD (leK l i) (0, 0)) = false) ∧ ∀ j, j < leK l i → l.getD j (0, 0) ≠ l.getD (leK l i) (0, 0)
  | 0, _, _ => ⟨fun j hj => absurd hj (by omega), fun j hj => absurd hj (by simp [leK])⟩
  | i + 1, h, hi => by
    obtain ⟨h1, h2⟩ := leK_least l i h (by omega)
    unfold leK
    cases hl : ltP (l.getD i (0, 0)) (l.getD (leK l i) (0, 0))
    · simp only [Bool.false_eq_true, if_false]
      refine ⟨fun j hj => ?_, h2⟩
      by_cases e : j = i
      · rw [e]; exact hl
      · exact h1 j (by omega)
    · simp only [if_true]
      refine ⟨fun j hj => ?_, fun j hj => ?_⟩
      · by_cases e : j = i
        · rw [e]; exact ltP_irr _
        · cases hx : ltP (l.getD j (0, 0)) (l.getD i (0, 0))
          · rfl
          · have := h1 j (by omega)
            rw [ltP_trans hx hl] at this
            cases this
      · intro e
        have := h1 j hj
        rw [e, hl] at this
        cases this
theorem sort_head {l : List (Int × Int)} (h : l ≠ []) : (sortP l).getD 0 (0, 0) ∈ l ∧ ∀ x ∈ l, ltP x ((sortP l).getD 0 (0, 0)) = false := by
  have hr := sortP_rise l
  have hm : ∀ x, x ∈ sortP l ↔ x ∈ l := fun x => sortP_mem
  match hs : sortP l, sort_ne h with
  | q :: r, _ =>
    rw [hs] at hr hm
    refine ⟨(hm q).1 (by simp), fun x hx => ?_⟩
    rcases List.mem_cons.1 ((hm x).2 hx) with rfl | hx'
    · exact ltP_irr _
    · have k := (List.pairwise_cons.1 hr).1 x hx'
      cases hy : ltP x q
      · exact hy
      · have := ltP_trans k hy
        rw [ltP_irr] at this
        cases this
theorem least_ix {l : List (Int × Int)} (h : l ≠ []) : ixP l ((sortP l).getD 0 (0, 0)) = leK l l.length := by
  have h0 : 0 < l.length := List.length_pos_iff.2 h
  obtain ⟨h1, h2⟩ := leK_least l l.length h0 (Nat.le_refl _)
  have hk := leK_lt l l.length h0 (Nat.le_refl _)
  obtain ⟨s1, s2⟩ := sort_head h
  have e : l.getD (leK l l.length) (0, 0) = (sortP l).getD 0 (0, 0) := by
    cases hx : decide (l.getD (leK l l.length) (0, 0) = (sortP l).getD 0 (0, 0))
    · have hne := of_decide_eq_false hx
      have a := s2 (l.getD (leK l l.length) (0, 0)) (by rw [getD_gt hk]; exact List.getElem_mem hk)
      have b := ltP_tri a hne
      obtain ⟨j, hj, ej⟩ := List.mem_iff_getElem.1 s1
      have := h1 j hj
      rw [getD_gt hj, ej, b] at this
      cases this
    · exact of_decide_eq_true hx
  rw [← e]
  exact ix_eq h2 hk rfl
theorem pop_last (p : Int × Int) : ∀ s : List (Int × Int), (popP p s).getLast? = s.getLast?
  | [] => rfl
  | [_] => rfl
  | q :: r :: s => by
    unfold popP
    split
    · rw [pop_last p (r :: s)]; simp [List.getLast?_cons_cons]
    · rfl
theorem chR_last (x : Int × Int) : ∀ (l s : List (Int × Int)), s.getLast? = some x → (l.foldl (fun s p => p :: popP p s) s).getLast? = some x
  | [], s, h => h
  | p :: l, s, h => by
    rw [List.foldl_cons]
    refine chR_last x l _ ?_
    have e := pop_last p s
    rw [h] at e
    cases hq : popP p s with
    | nil => rw [hq] at e; cases e
    | cons y z => rw [hq] at e; rw [List.getLast?_cons_cons]; exact e
theorem chain_head (x : Int × Int) (l : List (Int × Int)) : (chainP (x :: l)).head? = some x := by
  unfold chainP chR
  rw [List.head?_reverse, List.foldl_cons]
  exact chR_last x l _ rfl
theorem chR_top (p : Int × Int) (l : List (Int × Int)) : (chR (l ++ [p])).head? = some p := by rw [chR_snoc]; rfl
theorem chain_long (x y : Int × Int) (l : List (Int × Int)) : 2 ≤ (chainP (x :: y :: l)).length := by
  rcases List.eq_nil_or_concat (y :: l) with e | ⟨L, p, e⟩
  · cases e
  · rw [e, List.concat_eq_append]
    unfold chainP
    rw [List.length_reverse, show x :: (L ++ [p]) = (x :: L) ++ [p] from rfl, chR_snoc]
    have hn : popP p (chR (x :: L)) ≠ [] := by
      intro h
      have := pop_last p (chR (x :: L))
      rw [h] at this
      have k := chR_last x L [x] rfl
      rw [show chR (x :: L) = L.foldl (fun s p => p :: popP p s) [x] from rfl, k] at this
      cases this
    have := List.length_pos_iff.2 hn
    simp
    omega
theorem hul_head {l : List (Int × Int)} (h : l ≠ []) : (hulV l).getD 0 (0, 0) = (sortP l).getD 0 (0, 0) ∧ hulV l ≠ [] := by
  unfold hulV
  match hs : sortP l, sort_ne h with
  | [a], _ => exact ⟨rfl, by simp⟩
  | [a, b], _ => exact ⟨rfl, by simp⟩
  | a :: b :: c :: t, _ =>
    rw [if_neg (by simp)]
    have h1 := chain_head a (b :: c :: t)
    have h2 := chain_long a b (c :: t)
    match hc : chainP (a :: b :: c :: t), h1, h2 with
    | x :: y :: z, h1, _ =>
      simp at h1
      subst h1
      exact ⟨by simp [List.dropLast], by simp [List.dropLast]⟩
/-- Whether it is its hull, begun somewhere. -/
def cvV (l : List (Int × Int)) : Bool := decide (hulV l = l.drop (leK l l.length) ++ l.take (leK l l.length))
end Go.Proofs.Ytgoiodhofbkkdaa
