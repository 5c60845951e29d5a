/- slices.BinarySearchFunc over points that rise. No condition beyond those typed. No condition beyond those typed. Written by mkbs10.py. -/
import Derived.Test.YtgoiodhofbkkdaaIns10
namespace Go.Proofs.Ytgoiodhofbkkdaa
open Go.RowKit
set_option linter.unusedVariables false
set_option maxRecDepth 100000
set_option linter.unusedSimpArgs false

def fnd (L : List (Int × Int)) (p : Int × Int) : Bool := decide (posP L p < L.length) && decide (L.getD (posP L p) (0, 0) = p)
theorem rise_get {L : List (Int × Int)} (h : Rise L) {i j : Nat} (hij : i < j) (hj : j < L.length) : ltP (L.getD i (0, 0)) (L.getD j (0, 0)) = true := by
  rw [getD_gt (by omega), getD_gt hj]
  exact List.pairwise_iff_getElem.1 h i j (by omega) hj hij
theorem low_side {L : List (Int × Int)} {p : Int × Int} (h : Rise L) {m : Nat} (hm : m < L.length) (hl : ltP (L.getD m (0, 0)) p = true) : ∀ k, k < m + 1 → ltP (L.getD k (0, 0)) p = true := fun k hk => by
  by_cases e : k = m
  · rw [e]; exact hl
  · exact ltP_trans (rise_get h (by omega) hm) hl
theorem high_side {L : List (Int × Int)} {p : Int × Int} (h : Rise L) {m : Nat} (hl : ltP (L.getD m (0, 0)) p = false) : ∀ k, m ≤ k → k < L.length → ltP (L.getD k (0, 0)) p = false := fun k hk hkl => by
  by_cases e : k = m
  · rw [e]; exact hl
  · cases hx : ltP (L.getD k (0, 0)) p
    · rfl
    · rw [ltP_trans (rise_get h (by omega) hkl) hx] at hl; cases hl
set_option maxHeartbeats 8000000 in
theorem bsI (a : Option Addr) (n c : Nat) (L : List (Int × Int)) (p : Int × Int) (w : World) (h : SlP w a L) (hn : L.length = n) (h1 : n ≤ 100) (hr : Rise L) :
    Calls Try.prog 98 #[.slice a n c, .agg #[.int .i64 p.1, .int .i64 p.2], .func (Fn.func 75) #[] #[]] w fun e w' => e = .returned (.tuple #[.int .i64 (posP L p), .bool (fnd L p)]) ∧ Below w.heap.size w w' := by
  have HS := hide h
  have HN := hide hn
  have HR := hide hr
  have KP : Hid ((w.alloc (.cells #[.int .i64 p.1, .int .i64 p.2] 31)).cell? ⟨w.heap.size, 0, none⟩ = some (.int .i64 p.1) ∧ (w.alloc (.cells #[.int .i64 p.1, .int .i64 p.2] 31)).cell? ⟨w.heap.size, 1, none⟩ = some (.int .i64 p.2)) := hide (by simp [go_sem])
  have ltX : w.heap.size < (w.alloc (.cells #[.int .i64 p.1, .int .i64 p.2] 31)).heap.size := by simp
  have HB0 : Hid (Below w.heap.size w (w.alloc (.cells #[.int .i64 p.1, .int .i64 p.2] 31))) := hide ((Below.refl _ _).alloc (Nat.le_refl _) _)
  clear h hn hr
  go_enter Try.func98, Try.ntmps98
  go_upto_region 1 with fail
  generalize w.alloc (.cells #[.int .i64 p.1, .int .i64 p.2] 31) = w2 at *
  generalize hPX : w.heap.size = PX at *
  replace HB0 : Hid (Below w.heap.size w w2) := hide (by rw [hPX]; exact unhide HB0)
  clear hPX
  go_wp2
  go_loopw [9, 10] (fun iv jv wr => ∃ i j : Nat, i ≤ j ∧ j ≤ n ∧ iv = .int .i64 i ∧ jv = .int .i64 j ∧ Hid ((∀ k, k < i → ltP (L.getD k (0, 0)) p = true) ∧ (∀ k, j ≤ k → k < L.length → ltP (L.getD k (0, 0)) p = false)) ∧ Hid (Below w2.heap.size w2 wr)) (fun iv jv _ => (intOf jv - intOf iv).toNat)
  case atStart => exact ⟨0, n, Nat.zero_le _, Nat.le_refl _, rfl, rfl, hide ⟨fun k hk => absurd hk (by omega), fun k hk hl => absurd hl (by rw [unhide HN]; omega)⟩, hide (Below.refl _ _)⟩
  case round =>
    obtain ⟨i, j, hij, hjn, rfl, rfl, HI, HB⟩ := hrel
    have e0 : wr.cell? ⟨PX, 0, none⟩ = some (.int .i64 p.1) := ((unhide HB).cell (p := ⟨PX, 0, none⟩) ltX).trans (unhide KP).1
    have e1 : wr.cell? ⟨PX, 1, none⟩ = some (.int .i64 p.2) := ((unhide HB).cell (p := ⟨PX, 1, none⟩) ltX).trans (unhide KP).2
    by_cases hlt : i < j
    · have hlt' : (i : Int) < (j : Int) := by omega
      rcases (unhide HS) with e | ⟨b, off, rfl, hb, hc⟩
      · exact absurd (unhide HN) (by rw [e]; simp; omega)
      obtain ⟨m, hm⟩ : ∃ m, m = (i + j) / 2 := ⟨_, rfl⟩
      have mi : i ≤ m := by omega
      have mj : m < j := by omega
      have ml : m < L.length := by rw [unhide HN]; omega
      have mn : (m : Int) < (n : Int) := by omega
      have EM : Hid (((i : Int) + (j : Int)) / 2 = (m : Int)) := hide (by omega)
      clear hm
      have u1 : IntKind.i64.wrap ((i : Int) + (j : Int)) = ((i + j : Nat) : Int) := by rw [IntKind.wrap_i64]; omega
      have c0 := (hc m ml).1
      have c1 := (hc m ml).2
      rw [← getD_gt ml] at c0 c1
      have bw : b < w2.heap.size := Nat.lt_of_lt_of_le hb (unhide HB0).size
      replace c0 := ((unhide HB).cell (p := ⟨b, off + m * 2, none⟩) bw).trans (((unhide HB0).cell (p := ⟨b, off + m * 2, none⟩) hb).trans c0)
      replace c1 := ((unhide HB).cell (p := ⟨b, off + m * 2 + 1, none⟩) bw).trans (((unhide HB0).cell (p := ⟨b, off + m * 2 + 1, none⟩) hb).trans c1)
      have CC := hide (fun w => cmpPI (L.getD m (0, 0)) p w)
      have EL := hide (cmP_lt (L.getD m (0, 0)) p)
      have LO := hide (fun h => low_side (p := p) (unhide HR) ml h)
      have HO := hide (fun h => high_side (p := p) (unhide HR) (m := m) h)
      generalize L.getD m (0, 0) = q at *
      generalize cmP q p = k at *
      clear hc
      go_upto_region 5 with fail
      rw [unhide EM]
      have HX0 : Hid True := hide trivial
      go_region_held3 (fun w' => w'.cell? ⟨b, off + m * 2, none⟩ = some (.int .i64 q.1) ∧ w'.cell? ⟨b, off + m * 2 + 1, none⟩ = some (.int .i64 q.2) ∧ w'.cell? ⟨PX, 0, none⟩ = some (.int .i64 p.1) ∧ w'.cell? ⟨PX, 1, none⟩ = some (.int .i64 p.2))
        (with_reducible (first | exact ⟨c0, c1, e0, e1⟩ | exact ⟨cdP c0, cdP c1, cdP e0, cdP e1⟩ | fail))
        (first
        | (have chk := HX0; refine (unhide CC _).mono ?_; rintro e w5 ⟨rfl, hb1⟩; have hbx := below_of_drew hb1; replace c0 := cell_later hbx c0; replace c1 := cell_later hbx c1; replace e0 := cell_later hbx e0; replace e1 := cell_later hbx e1; replace HB := hide (below_on (unhide HB) hbx); clear hb1 hbx HX0 chk)
        | fail)
      clear c0 c1 e0 e1 CC
      cases hq : ltP q p
      · have dk : ¬ k < 0 := of_decide_eq_false ((unhide EL).trans hq)
        have HQ := hide hq
        clear hq
        go_wp2
        go_roundw
        case rel => exact ⟨i, m, mi, by omega, rfl, rfl, hide ⟨(unhide HI).1, unhide HO (unhide HQ)⟩, HB⟩
        case measure => simp [intOf]; omega
      · have dk : k < 0 := of_decide_eq_true ((unhide EL).trans hq)
        have HQ := hide hq
        clear hq
        go_wp2
        go_roundw
        case rel => exact ⟨m + 1, j, by omega, hjn, by go_num, rfl, hide ⟨unhide LO (unhide HQ), (unhide HI).2⟩, HB⟩
        case measure => simp [intOf]; omega
    · obtain rfl : j = i := by omega
      have EP : Hid (posP L p = j) := hide (pos_eq (unhide HI).1 (by rw [unhide HN]; exact hjn) (by
        by_cases e : j = L.length
        · exact .inl e
        · exact .inr ((unhide HI).2 j (Nat.le_refl _) (by rw [unhide HN] at e ⊢; omega))))
      have EF : Hid (fnd L p = (decide (j < n) && decide (L.getD j (0, 0) = p))) := hide (by unfold fnd; rw [unhide EP, unhide HN])
      have CQ := hide (cmP_eq (L.getD j (0, 0)) p)
      have HBW := hide (below_on (unhide HB0) (unhide HB))
      by_cases hjl : j < n
      · have jl : j < L.length := by rw [unhide HN]; exact hjl
        have jn : (j : Int) < (n : Int) := by omega
        rcases (unhide HS) with e | ⟨b, off, rfl, hb, hc⟩
        · exact absurd (unhide HN) (by rw [e]; simp; omega)
        have c0 := (hc j jl).1
        have c1 := (hc j jl).2
        rw [← getD_gt jl] at c0 c1
        have bw : b < w2.heap.size := Nat.lt_of_lt_of_le hb (unhide HB0).size
        replace c0 := ((unhide HB).cell (p := ⟨b, off + j * 2, none⟩) bw).trans (((unhide HB0).cell (p := ⟨b, off + j * 2, none⟩) hb).trans c0)
        replace c1 := ((unhide HB).cell (p := ⟨b, off + j * 2 + 1, none⟩) bw).trans (((unhide HB0).cell (p := ⟨b, off + j * 2 + 1, none⟩) hb).trans c1)
        have CC := hide (fun w => cmpPI (L.getD j (0, 0)) p w)
        rw [decide_eq_true hjl, Bool.true_and] at EF
        generalize L.getD j (0, 0) = q at *
        generalize cmP q p = k at *
        clear hc
        have djn : decide ((j : Int) < (n : Int)) = true := decide_eq_true jn
        have djn2 : decide (j < n) = true := decide_eq_true hjl
        cases hq : decide (q = p)
        · rw [hq] at CQ EF
          have kz : (k == 0) = false := by have := of_decide_eq_false (unhide CQ); simp [this]
          have CQ2 := CQ
          clear hq CQ
          go_upto_region 8 with fail
          have HX0 : Hid True := hide trivial
          go_region_held3 (fun w' => w'.cell? ⟨b, off + j * 2, none⟩ = some (.int .i64 q.1) ∧ w'.cell? ⟨b, off + j * 2 + 1, none⟩ = some (.int .i64 q.2) ∧ w'.cell? ⟨PX, 0, none⟩ = some (.int .i64 p.1) ∧ w'.cell? ⟨PX, 1, none⟩ = some (.int .i64 p.2))
            (with_reducible (first | exact ⟨c0, c1, e0, e1⟩ | exact ⟨cdP c0, cdP c1, cdP e0, cdP e1⟩ | fail))
            (first
            | (have chk := HX0; refine (unhide CC _).mono ?_; rintro e w5 ⟨rfl, hb1⟩; have hbx := below_of_drew hb1; replace c0 := cell_later hbx c0; replace c1 := cell_later hbx c1; replace e0 := cell_later hbx e0; replace e1 := cell_later hbx e1; replace HBW := hide (below_on (unhide HBW) hbx); clear hb1 hbx HX0 chk)
            | fail)
          clear c0 c1 e0 e1 CC
          go_wp2
          go_ret2
          exact ⟨by rw [unhide EP, unhide EF]; rfl, unhide HBW⟩
        · rw [hq] at CQ EF
          have kz : (k == 0) = true := by have := of_decide_eq_true (unhide CQ); simp [this]
          have CQ2 := CQ
          clear hq CQ
          go_upto_region 8 with fail
          have HX0 : Hid True := hide trivial
          go_region_held3 (fun w' => w'.cell? ⟨b, off + j * 2, none⟩ = some (.int .i64 q.1) ∧ w'.cell? ⟨b, off + j * 2 + 1, none⟩ = some (.int .i64 q.2) ∧ w'.cell? ⟨PX, 0, none⟩ = some (.int .i64 p.1) ∧ w'.cell? ⟨PX, 1, none⟩ = some (.int .i64 p.2))
            (with_reducible (first | exact ⟨c0, c1, e0, e1⟩ | exact ⟨cdP c0, cdP c1, cdP e0, cdP e1⟩ | fail))
            (first
            | (have chk := HX0; refine (unhide CC _).mono ?_; rintro e w5 ⟨rfl, hb1⟩; have hbx := below_of_drew hb1; replace c0 := cell_later hbx c0; replace c1 := cell_later hbx c1; replace e0 := cell_later hbx e0; replace e1 := cell_later hbx e1; replace HBW := hide (below_on (unhide HBW) hbx); clear hb1 hbx HX0 chk)
            | fail)
          clear c0 c1 e0 e1 CC
          go_wp2
          go_ret2
          exact ⟨by rw [unhide EP, unhide EF]; rfl, unhide HBW⟩
      · obtain rfl : j = n := by omega
        rw [decide_eq_false (by omega), Bool.false_and] at EF
        clear CQ
        go_upto_region 8 with fail
        refine wp_region_held_drew (S := fun w' => w'.cell? ⟨PX, 0, none⟩ = some (.int .i64 p.1) ∧ w'.cell? ⟨PX, 1, none⟩ = some (.int .i64 p.2)) (by kernel_rfl) ⟨e0, e1⟩ (fun hHeld => ?_)
        simp only [List.size_toArray, List.length_cons, List.length_nil, Nat.reduceAdd, Array.replicate_succ, Array.replicate_zero, List.push_toArray, List.nil_append, List.cons_append]
        refine wpAnyH_take (i := 0) (v := .int .i64 (j : Int)) rfl (by kernel_rfl) (by kernel_rfl) (by kernel_rfl) (fun _ _ _ h => h) (Or.inl ⟨by rfl, by intro w hSw; (try dsimp only at hSw); go_simp⟩) hHeld ?_
        simp only [List.getElem_toArray, List.getElem_cons_zero, List.getElem_cons_succ, Act.put, List.setIfInBounds_toArray, List.set_cons_zero, List.set_cons_succ]
        refine wpAnyH_take (i := 1) (v := .int .i64 (j : Int)) rfl (by kernel_rfl) (by kernel_rfl) (by kernel_rfl) (fun _ _ _ h => h) (Or.inl ⟨by rfl, by intro w hSw; (try dsimp only at hSw); go_simp⟩) hHeld ?_
        simp only [List.getElem_toArray, List.getElem_cons_zero, List.getElem_cons_succ, Act.put, List.setIfInBounds_toArray, List.set_cons_zero, List.set_cons_succ]
        refine wpAnyH_take (i := 2) (v := .int .i64 (j : Int)) rfl (by kernel_rfl) (by kernel_rfl) (by kernel_rfl) (fun _ _ _ h => h) (Or.inl ⟨by rfl, by intro w hSw; (try dsimp only at hSw); go_simp⟩) hHeld ?_
        simp only [List.getElem_toArray, List.getElem_cons_zero, List.getElem_cons_succ, Act.put, List.setIfInBounds_toArray, List.set_cons_zero, List.set_cons_succ]
        refine wpAnyH_take (i := 3) (v := .bool false) rfl (by kernel_rfl) (by kernel_rfl) (by kernel_rfl) (fun _ _ _ h => h) (Or.inl ⟨by rfl, by intro w hSw; (try dsimp only at hSw); go_simp⟩) hHeld ?_
        simp only [List.getElem_toArray, List.getElem_cons_zero, List.getElem_cons_succ, Act.put, List.setIfInBounds_toArray, List.set_cons_zero, List.set_cons_succ]
        refine wpAnyH_take (i := 4) (v := .bool false) rfl (by kernel_rfl) (by kernel_rfl) (by kernel_rfl) (fun _ _ _ h => h) (Or.inl ⟨by rfl, by intro w hSw; (try dsimp only at hSw); go_simp⟩) hHeld ?_
        simp only [List.getElem_toArray, List.getElem_cons_zero, List.getElem_cons_succ, Act.put, List.setIfInBounds_toArray, List.set_cons_zero, List.set_cons_succ]
        refine wpAnyH_take (i := 5) (v := undef) rfl (by kernel_rfl) (by kernel_rfl) (by kernel_rfl) (fun _ _ _ h => h) (Or.inr ⟨by kernel_rfl, rfl⟩) hHeld ?_
        simp only [List.getElem_toArray, List.getElem_cons_zero, List.getElem_cons_succ, Act.put, List.setIfInBounds_toArray, List.set_cons_zero, List.set_cons_succ]
        refine wpAnyH_take (i := 6) (v := undef) rfl (by kernel_rfl) (by kernel_rfl) (by kernel_rfl) (fun _ _ _ h => h) (Or.inr ⟨by kernel_rfl, rfl⟩) hHeld ?_
        simp only [List.getElem_toArray, List.getElem_cons_zero, List.getElem_cons_succ, Act.put, List.setIfInBounds_toArray, List.set_cons_zero, List.set_cons_succ]
        refine wpAnyH_take (i := 7) (v := undef) rfl (by kernel_rfl) (by kernel_rfl) (by kernel_rfl) (fun _ _ _ h => h) (Or.inr ⟨by kernel_rfl, rfl⟩) hHeld ?_
        simp only [List.getElem_toArray, List.getElem_cons_zero, List.getElem_cons_succ, Act.put, List.setIfInBounds_toArray, List.set_cons_zero, List.set_cons_succ]
        refine wpAnyH_take (i := 8) (v := undef) rfl (by kernel_rfl) (by kernel_rfl) (by kernel_rfl) (fun _ _ _ h => h) (Or.inr ⟨by kernel_rfl, rfl⟩) hHeld ?_
        simp only [List.getElem_toArray, List.getElem_cons_zero, List.getElem_cons_succ, Act.put, List.setIfInBounds_toArray, List.set_cons_zero, List.set_cons_succ]
        refine wpAnyH_take (i := 9) (v := undef) rfl (by kernel_rfl) (by kernel_rfl) (by kernel_rfl) (fun _ _ _ h => h) (Or.inr ⟨by kernel_rfl, rfl⟩) hHeld ?_
        simp only [List.getElem_toArray, List.getElem_cons_zero, List.getElem_cons_succ, Act.put, List.setIfInBounds_toArray, List.set_cons_zero, List.set_cons_succ]
        refine wpAnyH_take (i := 10) (v := undef) rfl (by kernel_rfl) (by kernel_rfl) (by kernel_rfl) (fun _ _ _ h => h) (Or.inr ⟨by kernel_rfl, rfl⟩) hHeld ?_
        simp only [List.getElem_toArray, List.getElem_cons_zero, List.getElem_cons_succ, Act.put, List.setIfInBounds_toArray, List.set_cons_zero, List.set_cons_succ]
        refine wpAnyH_take (i := 11) (v := undef) rfl (by kernel_rfl) (by kernel_rfl) (by kernel_rfl) (fun _ _ _ h => h) (Or.inr ⟨by kernel_rfl, rfl⟩) hHeld ?_
        simp only [List.getElem_toArray, List.getElem_cons_zero, List.getElem_cons_succ, Act.put, List.setIfInBounds_toArray, List.set_cons_zero, List.set_cons_succ]
        refine wpAnyH_take (i := 12) (v := undef) rfl (by kernel_rfl) (by kernel_rfl) (by kernel_rfl) (fun _ _ _ h => h) (Or.inr ⟨by kernel_rfl, rfl⟩) hHeld ?_
        simp only [List.getElem_toArray, List.getElem_cons_zero, List.getElem_cons_succ, Act.put, List.setIfInBounds_toArray, List.set_cons_zero, List.set_cons_succ]
        refine wpAnyH_take (i := 13) (v := .bool false) rfl (by kernel_rfl) (by kernel_rfl) (by kernel_rfl) (fun _ _ _ h => h) (Or.inl ⟨by rfl, by intro w hSw; (try dsimp only at hSw); go_simp⟩) hHeld ?_
        simp only [List.getElem_toArray, List.getElem_cons_zero, List.getElem_cons_succ, Act.put, List.setIfInBounds_toArray, List.set_cons_zero, List.set_cons_succ]
        refine wpAnyH_take (i := 14) (v := .int .i64 (j : Int)) rfl (by kernel_rfl) (by kernel_rfl) (by kernel_rfl) (fun _ _ _ h => h) (Or.inl ⟨by rfl, by intro w hSw; (try dsimp only at hSw); go_simp⟩) hHeld ?_
        simp only [List.getElem_toArray, List.getElem_cons_zero, List.getElem_cons_succ, Act.put, List.setIfInBounds_toArray, List.set_cons_zero, List.set_cons_succ]
        refine wpAnyH_take (i := 15) (v := .bool false) rfl (by kernel_rfl) (by kernel_rfl) (by kernel_rfl) (fun _ _ _ h => h) (Or.inl ⟨by rfl, by intro w hSw; (try dsimp only at hSw); go_simp⟩) hHeld ?_
        simp only [List.getElem_toArray, List.getElem_cons_zero, List.getElem_cons_succ, Act.put, List.setIfInBounds_toArray, List.set_cons_zero, List.set_cons_succ]
        refine wpAnyH_done (by kernel_rfl) ?_ _
        clear hHeld
        replace HBW := hide (unhide HBW).drew
        generalize wr.drew = w5 at *
        go_wp2
        go_ret2
        exact ⟨by rw [unhide EP, unhide EF]; rfl, unhide HBW⟩
end Go.Proofs.Ytgoiodhofbkkdaa
