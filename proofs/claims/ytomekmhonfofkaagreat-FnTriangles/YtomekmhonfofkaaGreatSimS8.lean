/- l8Simple of the specification. No condition beyond those typed. Written by mksims8.py. -/
import Derived.Test.YtomekmhonfofkaaGreatSim8
namespace Go.Proofs.YtomekmhonfofkaaGreat
open Go.RowKit
set_option linter.unusedVariables false
set_option maxRecDepth 100000
set_option linter.unusedSimpArgs false

theorem eql_ne8 {p q : Int × Int} (h : ¬ p = q) (w : World) : (binOp .eql 37 (.agg #[.int .i64 p.1, .int .i64 p.2]) (.agg #[.int .i64 q.1, .int .i64 q.2])).run Tryz.prog w = .ok (.bool false) w := by
  rcases ne_pt h with h1 | ⟨h1, h2⟩
  · go_simp
  · go_simp
def RowOk (l : List (Int × Int)) (i : Nat) : Prop := l.getD i (0, 0) ≠ nxt l i ∧ onV (nxt l i) (nxt l (i + 1)) (l.getD i (0, 0)) = false ∧ onV (l.getD i (0, 0)) (nxt l i) (nxt l (i + 1)) = false
def PairOk (l : List (Int × Int)) (i k : Nat) : Prop := (k + 1) % l.length ≠ i → meV (l.getD i (0, 0)) (nxt l i) (l.getD k (0, 0)) (nxt l k) = false
def SimP (l : List (Int × Int)) (m : Nat) : Prop := ∀ i, i < m → RowOk l i ∧ ∀ k, i + 2 ≤ k → k < l.length → PairOk l i k
noncomputable def siS (l : List (Int × Int)) : Bool := @decide (SimP l l.length) (Classical.propDecidable _)
theorem siS_true {l : List (Int × Int)} (k : SimP l l.length) : siS l = true := by unfold siS; exact @decide_eq_true _ (Classical.propDecidable _) k
theorem siS_false {l : List (Int × Int)} (k : ¬ SimP l l.length) : siS l = false := by unfold siS; exact @decide_eq_false _ (Classical.propDecidable _) k
set_option maxHeartbeats 16000000 in
theorem simpleS (a : Option Addr) (n c : Nat) (l : List (Int × Int)) (w : World) (h : SlP w a l) (hn : l.length = n) (h0 : 0 < n) (h1 : n ≤ 1048000) (hg : ∀ p ∈ l, Near p) :
    Calls Tryz.prog 51 #[.slice a n c] w fun e w' => e = .returned (.bool (siS l)) ∧ Below w.heap.size w w' := by
  have HS := hide h
  have HN := hide hn
  have HG := hide hg
  clear h hn hg
  have z1 : ((n : Int) == 0) = false := by simp; omega
  have z2 : (n : Int) ≠ 0 := by omega
  have z3 : ¬ n = 0 := by omega
  go_enter Tryz.func51, Tryz.ntmps51
  go_wp2
  go_loopw [4] (fun iv wr => ∃ i : Nat, i ≤ n ∧ iv = .int .i64 i ∧ Hid (SimP l i) ∧ Hid (Below w.heap.size w wr)) (fun iv _ => n - (intOf iv).toNat)
  case atStart => exact ⟨0, Nat.zero_le _, rfl, hide (fun i hi => absurd hi (by omega)), hide (Below.refl _ _)⟩
  case round =>
    obtain ⟨i, hi, rfl, HA, HB⟩ := hrel
    by_cases hlt : i < n
    · have hlt' : (i : Int) < (n : Int) := by omega
      obtain ⟨wo, hwo⟩ : ∃ x, x = wr := ⟨_, rfl⟩
      subst hwo
      have HSo := hide ((unhide HS).later (unhide HB))
      have CN := hide (fun w (k : SlP w a l) => nextS a n c i l w k (unhide HN) h0 (by omega) (by omega))
      have CN1 := hide (fun w (k : SlP w a l) => nextS a n c (i + 1) l w k (unhide HN) h0 (by omega) (by omega))
      have ei1 : ((i + 1 : Nat) : Int) = (i : Int) + 1 := by omega
      rw [ei1] at CN1
      clear ei1
      have wi1 : IntKind.i64.wrap ((i : Int) + 1) = (i : Int) + 1 := by rw [IntKind.wrap_i64]; omega
      have wi2 : IntKind.i64.wrap ((i : Int) + 2) = (i : Int) + 2 := by rw [IntKind.wrap_i64]; omega
      have np := getD_near (unhide HG) i
      have nq := unhide HG _ (nxt_mem (l := l) (by rw [unhide HN]; omega) i)
      have nr := unhide HG _ (nxt_mem (l := l) (by rw [unhide HN]; omega) (i + 1))
      obtain ⟨p, hpe⟩ : ∃ p, l.getD i (0, 0) = p := ⟨_, rfl⟩
      obtain ⟨q, hqe⟩ : ∃ q, nxt l i = q := ⟨_, rfl⟩
      obtain ⟨r, hre⟩ : ∃ r, nxt l (i + 1) = r := ⟨_, rfl⟩
      have PE := hide (And.intro hpe (And.intro hqe hre))
      rw [hpe] at np
      rw [hqe] at nq CN
      rw [hre] at nr CN1
      have C1 := hide (fun w => onS8 q r p w nq nr np)
      have C2 := hide (fun w => onS8 p q r w np nq nr)
      have NPQ := hide (And.intro np nq)
      rcases (unhide HSo) with e | ⟨b, off, rfl, hbo, hc⟩
      · exact absurd (unhide HN) (by rw [e]; simp; omega)
      have e0 := hc i (by rw [unhide HN]; exact hlt)
      rw [← getD_gt (by rw [unhide HN]; exact hlt), hpe] at e0
      have E0 := e0.1
      have E1 := e0.2
      clear np nq nr hpe hqe hre hc e0
      have al : Below wo.heap.size wo (wo.alloc (.cells #[.int .i64 p.1, .int .i64 p.2] 37)) := (Below.refl _ _).alloc (Nat.le_refl _) _
      have a0 : (wo.alloc (.cells #[.int .i64 p.1, .int .i64 p.2] 37)).cell? ⟨wo.heap.size, 0, none⟩ = some (.int .i64 p.1) := by simp [go_sem]
      have a1 : (wo.alloc (.cells #[.int .i64 p.1, .int .i64 p.2] 37)).cell? ⟨wo.heap.size, 1, none⟩ = some (.int .i64 p.2) := by simp [go_sem]
      have KA := hide (And.intro a0 a1)
      have HS1 := hide ((unhide HSo).later al)
      have HB1 := hide (below_on (unhide HB) al)
      clear al a0 a1
      go_wp2_with fail
      refine (unhide CN _ (unhide HS1)).mono ?_
      rintro e w1 ⟨rfl, hb⟩
      have al : Below w1.heap.size w1 (w1.alloc (.cells #[.int .i64 q.1, .int .i64 q.2] 37)) := (Below.refl _ _).alloc (Nat.le_refl _) _
      have a0 := cell_later al (cell_later hb (unhide KA).1)
      have a1 := cell_later al (cell_later hb (unhide KA).2)
      have b0 : (w1.alloc (.cells #[.int .i64 q.1, .int .i64 q.2] 37)).cell? ⟨w1.heap.size, 0, none⟩ = some (.int .i64 q.1) := by simp [go_sem]
      have b1 : (w1.alloc (.cells #[.int .i64 q.1, .int .i64 q.2] 37)).cell? ⟨w1.heap.size, 1, none⟩ = some (.int .i64 q.2) := by simp [go_sem]
      have HS2 := hide (((unhide HS1).later hb).later al)
      have HB2 := hide (below_on (below_on (unhide HB1) hb) al)
      have lta : wo.heap.size < w1.heap.size := World.block_lt_of_cell? _ _ (cell_later hb (unhide KA).1)
      clear al hb E0 E1 KA HS1 HB1 HSo HB
      go_upto_region 7 with fail
      generalize w1.alloc (.cells #[.int .i64 q.1, .int .i64 q.2] 37) = w3 at *
      have ltA : wo.heap.size < w3.heap.size := World.block_lt_of_cell? _ _ a0
      have ltB : w1.heap.size < w3.heap.size := World.block_lt_of_cell? _ _ b0
      by_cases hpq : p = q
      · obtain ⟨q1, q2⟩ := eq_pt hpq
        have HPQ := hide hpq
        clear hpq
        refine wp_region_held_drew (S := fun w' => w'.cell? ⟨wo.heap.size, 0, none⟩ = some (.int .i64 p.1) ∧ w'.cell? ⟨wo.heap.size, 1, none⟩ = some (.int .i64 p.2) ∧ w'.cell? ⟨w1.heap.size, 0, none⟩ = some (.int .i64 q.1) ∧ w'.cell? ⟨w1.heap.size, 1, none⟩ = some (.int .i64 q.2)) (by kernel_rfl) ⟨a0, a1, b0, b1⟩ (fun hHeld => ?_)
        simp only [List.size_toArray, List.length_cons, List.length_nil, Nat.reduceAdd, Array.replicate_succ, Array.replicate_zero, List.push_toArray, List.nil_append, List.cons_append]
        refine wpAnyH_take (i := 0) (v := .agg #[.int .i64 p.1, .int .i64 p.2]) rfl (by kernel_rfl) (by kernel_rfl) (by kernel_rfl) (fun _ _ _ h => h) (Or.inl ⟨by rfl, by intro w hSw; (try dsimp only at hSw); go_simp⟩) hHeld ?_
        simp only [Act.put, List.setIfInBounds_toArray, List.set_cons_zero, List.set_cons_succ]
        refine wpAnyH_take (i := 1) (v := .agg #[.int .i64 q.1, .int .i64 q.2]) rfl (by kernel_rfl) (by kernel_rfl) (by kernel_rfl) (fun _ _ _ h => h) (Or.inl ⟨by rfl, by intro w hSw; (try dsimp only at hSw); go_simp⟩) hHeld ?_
        simp only [Act.put, List.setIfInBounds_toArray, List.set_cons_zero, List.set_cons_succ]
        refine wpAnyH_take (i := 2) (v := .bool true) rfl (by kernel_rfl) (by kernel_rfl) (by kernel_rfl) (fun _ _ _ h => h) (Or.inl ⟨by rfl, by intro w hSw; (try dsimp only at hSw); go_simp⟩) hHeld ?_
        simp only [Act.put, List.setIfInBounds_toArray, List.set_cons_zero, List.set_cons_succ]
        refine wpAnyH_take (i := 3) (v := .bool true) rfl (by kernel_rfl) (by kernel_rfl) (by kernel_rfl) (fun _ _ _ h => h) (Or.inl ⟨by rfl, by intro w hSw; (try dsimp only at hSw); go_simp⟩) hHeld ?_
        simp only [Act.put, List.setIfInBounds_toArray, List.set_cons_zero, List.set_cons_succ]
        refine wpAnyH_take (i := 4) (v := undef) rfl (by kernel_rfl) (by kernel_rfl) (by kernel_rfl) (fun _ _ _ h => h) (Or.inr ⟨by kernel_rfl, rfl⟩) hHeld ?_
        simp only [Act.put, List.setIfInBounds_toArray, List.set_cons_zero, List.set_cons_succ]
        refine wpAnyH_take (i := 5) (v := undef) rfl (by kernel_rfl) (by kernel_rfl) (by kernel_rfl) (fun _ _ _ h => h) (Or.inr ⟨by kernel_rfl, rfl⟩) hHeld ?_
        simp only [Act.put, List.setIfInBounds_toArray, List.set_cons_zero, List.set_cons_succ]
        refine wpAnyH_take (i := 6) (v := undef) rfl (by kernel_rfl) (by kernel_rfl) (by kernel_rfl) (fun _ _ _ h => h) (Or.inr ⟨by kernel_rfl, rfl⟩) hHeld ?_
        simp only [Act.put, List.setIfInBounds_toArray, List.set_cons_zero, List.set_cons_succ]
        refine wpAnyH_take (i := 7) (v := undef) rfl (by kernel_rfl) (by kernel_rfl) (by kernel_rfl) (fun _ _ _ h => h) (Or.inr ⟨by kernel_rfl, rfl⟩) hHeld ?_
        simp only [Act.put, List.setIfInBounds_toArray, List.set_cons_zero, List.set_cons_succ]
        refine wpAnyH_take (i := 8) (v := undef) rfl (by kernel_rfl) (by kernel_rfl) (by kernel_rfl) (fun _ _ _ h => h) (Or.inr ⟨by kernel_rfl, rfl⟩) hHeld ?_
        simp only [Act.put, List.setIfInBounds_toArray, List.set_cons_zero, List.set_cons_succ]
        refine wpAnyH_take (i := 9) (v := undef) rfl (by kernel_rfl) (by kernel_rfl) (by kernel_rfl) (fun _ _ _ h => h) (Or.inr ⟨by kernel_rfl, rfl⟩) hHeld ?_
        simp only [Act.put, List.setIfInBounds_toArray, List.set_cons_zero, List.set_cons_succ]
        refine wpAnyH_take (i := 10) (v := undef) rfl (by kernel_rfl) (by kernel_rfl) (by kernel_rfl) (fun _ _ _ h => h) (Or.inr ⟨by kernel_rfl, rfl⟩) hHeld ?_
        simp only [Act.put, List.setIfInBounds_toArray, List.set_cons_zero, List.set_cons_succ]
        refine wpAnyH_ready (rs := [11]) (by kernel_rfl) (by simp) (AllReadyH.cons rfl (fun K hK => ?_) AllReadyH.nil)
        go_simp
        refine hK.out _ _ ⟨a0, a1, b0, b1⟩ (fun hHeld2 => ?_)
        clear hK K hHeld
        have hHeld := hHeld2
        clear hHeld2
        simp only [Act.put, List.setIfInBounds_toArray, List.set_cons_zero, List.set_cons_succ]
        refine wpAnyH_take (i := 12) (v := .bool true) rfl (by kernel_rfl) (by kernel_rfl) (by kernel_rfl) (fun _ _ _ h => h) (Or.inl ⟨by rfl, by intro w hSw; (try dsimp only at hSw); go_simp⟩) hHeld ?_
        simp only [Act.put, List.setIfInBounds_toArray, List.set_cons_zero, List.set_cons_succ]
        refine wpAnyH_take (i := 13) (v := undef) rfl (by kernel_rfl) (by kernel_rfl) (by kernel_rfl) (fun _ _ _ h => h) (Or.inr ⟨by kernel_rfl, rfl⟩) hHeld ?_
        simp only [Act.put, List.setIfInBounds_toArray, List.set_cons_zero, List.set_cons_succ]
        refine wpAnyH_take (i := 14) (v := undef) rfl (by kernel_rfl) (by kernel_rfl) (by kernel_rfl) (fun _ _ _ h => h) (Or.inr ⟨by kernel_rfl, rfl⟩) hHeld ?_
        simp only [Act.put, List.setIfInBounds_toArray, List.set_cons_zero, List.set_cons_succ]
        refine wpAnyH_take (i := 15) (v := undef) rfl (by kernel_rfl) (by kernel_rfl) (by kernel_rfl) (fun _ _ _ h => h) (Or.inr ⟨by kernel_rfl, rfl⟩) hHeld ?_
        simp only [Act.put, List.setIfInBounds_toArray, List.set_cons_zero, List.set_cons_succ]
        refine wpAnyH_take (i := 16) (v := undef) rfl (by kernel_rfl) (by kernel_rfl) (by kernel_rfl) (fun _ _ _ h => h) (Or.inr ⟨by kernel_rfl, rfl⟩) hHeld ?_
        simp only [Act.put, List.setIfInBounds_toArray, List.set_cons_zero, List.set_cons_succ]
        refine wpAnyH_take (i := 17) (v := undef) rfl (by kernel_rfl) (by kernel_rfl) (by kernel_rfl) (fun _ _ _ h => h) (Or.inr ⟨by kernel_rfl, rfl⟩) hHeld ?_
        simp only [Act.put, List.setIfInBounds_toArray, List.set_cons_zero, List.set_cons_succ]
        refine wpAnyH_take (i := 18) (v := undef) rfl (by kernel_rfl) (by kernel_rfl) (by kernel_rfl) (fun _ _ _ h => h) (Or.inr ⟨by kernel_rfl, rfl⟩) hHeld ?_
        simp only [Act.put, List.setIfInBounds_toArray, List.set_cons_zero, List.set_cons_succ]
        refine wpAnyH_take (i := 19) (v := undef) rfl (by kernel_rfl) (by kernel_rfl) (by kernel_rfl) (fun _ _ _ h => h) (Or.inr ⟨by kernel_rfl, rfl⟩) hHeld ?_
        simp only [Act.put, List.setIfInBounds_toArray, List.set_cons_zero, List.set_cons_succ]
        refine wpAnyH_ready (rs := [20]) (by kernel_rfl) (by simp) (AllReadyH.cons rfl (fun K hK => ?_) AllReadyH.nil)
        go_simp
        refine hK.out _ _ ⟨a0, a1, b0, b1⟩ (fun hHeld2 => ?_)
        clear hK K hHeld
        have hHeld := hHeld2
        clear hHeld2
        simp only [Act.put, List.setIfInBounds_toArray, List.set_cons_zero, List.set_cons_succ]
        refine wpAnyH_done (by kernel_rfl) ?_ _
        clear hHeld
        skip
        have HF : Hid (siS l = false) := hide (siS_false (fun k => by have := (k i (by rw [unhide HN]; exact hlt)).1.1; rw [(unhide PE).1, (unhide PE).2.1] at this; exact this (unhide HPQ)))
        clear a0 a1 b0 b1
        go_wp2_with fail
        go_ret
        exact ⟨by rw [unhide HF]; rfl, (unhide HB2).drew⟩
      · have HPQ := hide hpq
        have qq := fun w => eql_ne8 hpq w
        clear hpq
        cases hv1 : onV q r p
        · rw [hv1] at C1
          generalize hv2e : onV p q r = v2 at C2
          have HV1 := hide hv1
          have HV2 := hide hv2e
          clear hv1 hv2e
          have HX0 : Hid True := hide trivial
          go_region_held3 (fun w' => w'.cell? ⟨wo.heap.size, 0, none⟩ = some (.int .i64 p.1) ∧ w'.cell? ⟨wo.heap.size, 1, none⟩ = some (.int .i64 p.2) ∧ w'.cell? ⟨w1.heap.size, 0, none⟩ = some (.int .i64 q.1) ∧ w'.cell? ⟨w1.heap.size, 1, none⟩ = some (.int .i64 q.2))
            (with_reducible (first | exact ⟨a0, a1, b0, b1⟩ | exact ⟨cdP a0, cdP a1, cdP b0, cdP b1⟩ | fail))
            (first
            | (have chk := HX0; go_at_call 56; refine (unhide CN1 _ ((unhide HS2).later (Below.refl _ _).drew)).mono ?_; rintro e w4 ⟨rfl, hb1⟩; have hbx := below_of_drew hb1; replace a0 := cell_later hbx a0; replace a1 := cell_later hbx a1; replace b0 := cell_later hbx b0; replace b1 := cell_later hbx b1; replace HS2 := hide ((unhide HS2).later hbx); replace HB2 := hide (below_on (unhide HB2) hbx); clear hb1 hbx; clear HX0 chk; have HX1 : Hid True := hide trivial)
            | (have chk := HX1; go_at_call 76; refine (unhide C1 _).mono ?_; rintro e w5 ⟨rfl, hb1⟩; have hbx := hb1; replace a0 := cell_later hbx a0; replace a1 := cell_later hbx a1; replace b0 := cell_later hbx b0; replace b1 := cell_later hbx b1; replace HS2 := hide ((unhide HS2).later hbx); replace HB2 := hide (below_on (unhide HB2) hbx); clear hb1 hbx; clear HX1 chk; have HX2 : Hid True := hide trivial)
            | (have chk := HX2; go_at_call 56; refine (unhide CN1 _ (unhide HS2)).mono ?_; rintro e w6 ⟨rfl, hb1⟩; have hbx := hb1; replace a0 := cell_later hbx a0; replace a1 := cell_later hbx a1; replace b0 := cell_later hbx b0; replace b1 := cell_later hbx b1; replace HS2 := hide ((unhide HS2).later hbx); replace HB2 := hide (below_on (unhide HB2) hbx); clear hb1 hbx; clear HX2 chk; have HX3 : Hid True := hide trivial)
            | (have chk := HX3; go_at_call 76; refine (unhide C2 _).mono ?_; rintro e w7 ⟨rfl, hb1⟩; have hbx := hb1; replace a0 := cell_later hbx a0; replace a1 := cell_later hbx a1; replace b0 := cell_later hbx b0; replace b1 := cell_later hbx b1; replace HS2 := hide ((unhide HS2).later hbx); replace HB2 := hide (below_on (unhide HB2) hbx); clear hb1 hbx; clear HX3 chk)
            | fail)
          cases v2
          · have RO : Hid (RowOk l i) := hide (by unfold RowOk; rw [(unhide PE).1, (unhide PE).2.1, (unhide PE).2.2]; exact ⟨unhide HPQ, unhide HV1, unhide HV2⟩)
            have AB := hide (And.intro a0 (And.intro a1 (And.intro b0 b1)))
            have lA : wo.heap.size < w7.heap.size := World.block_lt_of_cell? _ _ a0
            have lB : w1.heap.size < w7.heap.size := World.block_lt_of_cell? _ _ b0
            clear a0 a1 b0 b1 C1 C2 CN CN1
            go_wp2
            go_loopw [7] (fun jv wr => ∃ k : Nat, i + 2 ≤ k ∧ (k ≤ n ∨ k = i + 2) ∧ jv = .int .i64 k ∧ Hid (∀ k', i + 2 ≤ k' → k' < k → k' < n → PairOk l i k') ∧ Hid (Below w7.heap.size w7 wr)) (fun jv _ => n - (intOf jv).toNat)
            case atStart => exact ⟨i + 2, Nat.le_refl _, .inr rfl, by simp, hide (fun k' h1 h2 => absurd h2 (by omega)), hide (Below.refl _ _)⟩
            case round =>
              obtain ⟨k, hk2, hkn, rfl, HK, HR⟩ := hrel
              by_cases hkl : k < n
              · have hkl' : (k : Int) < (n : Int) := by omega
                have wk1 : IntKind.i64.wrap ((k : Int) + 1) = (k : Int) + 1 := by rw [IntKind.wrap_i64]; omega
                have im : ((k : Int) + 1).tmod (n : Int) = (((k + 1) % n : Nat) : Int) := by rw [← Int.natCast_one, ← Int.natCast_add]; rfl
                have lm := Nat.mod_lt (k + 1) h0
                have EJ : Hid (∀ m, m = (k + 1) % n → m = (k + 1) % l.length) := hide (fun m e => by rw [unhide HN]; exact e)
                obtain ⟨m, hme⟩ : ∃ m, (k + 1) % n = m := ⟨_, rfl⟩
                rw [hme] at im lm
                have ME : Hid (m = (k + 1) % l.length) := hide (unhide EJ m hme.symm)
                clear EJ hme
                have a0 := (unhide HR).cell (p := ⟨wo.heap.size, 0, none⟩) lA |>.trans (unhide AB).1
                have a1 := (unhide HR).cell (p := ⟨wo.heap.size, 1, none⟩) lA |>.trans (unhide AB).2.1
                have b0 := (unhide HR).cell (p := ⟨w1.heap.size, 0, none⟩) lB |>.trans (unhide AB).2.2.1
                have b1 := (unhide HR).cell (p := ⟨w1.heap.size, 1, none⟩) lB |>.trans (unhide AB).2.2.2
                have HS3 := hide ((unhide HS2).later (unhide HR))
                by_cases hmi : m = i
                · have dm : (((m : Int)) != ((i : Int))) = false := by rw [hmi]; simp
                  have PK : Hid (PairOk l i k) := hide (fun h => absurd ((unhide ME).symm.trans hmi) h)
                  clear hmi
                  go_upto_region 12 with fail
                  refine wp_region_held_drew (S := fun w' => w'.cell? ⟨wo.heap.size, 0, none⟩ = some (.int .i64 p.1) ∧ w'.cell? ⟨wo.heap.size, 1, none⟩ = some (.int .i64 p.2) ∧ w'.cell? ⟨w1.heap.size, 0, none⟩ = some (.int .i64 q.1) ∧ w'.cell? ⟨w1.heap.size, 1, none⟩ = some (.int .i64 q.2)) (by kernel_rfl) ⟨a0, a1, b0, b1⟩ (fun hHeld => ?_)
                  simp only [List.size_toArray, List.length_cons, List.length_nil, Nat.reduceAdd, Array.replicate_succ, Array.replicate_zero, List.push_toArray, List.nil_append, List.cons_append]
                  refine wpAnyH_take (i := 0) (v := .int .i64 (k : Int)) rfl (by kernel_rfl) (by kernel_rfl) (by kernel_rfl) (fun _ _ _ h => h) (Or.inl ⟨by rfl, by intro w hSw; (try dsimp only at hSw); go_simp⟩) hHeld ?_
                  simp only [Act.put, List.setIfInBounds_toArray, List.set_cons_zero, List.set_cons_succ]
                  refine wpAnyH_take (i := 1) (v := .int .i64 ((k : Int) + 1)) rfl (by kernel_rfl) (by kernel_rfl) (by kernel_rfl) (fun _ _ _ h => h) (Or.inl ⟨by rfl, by intro w hSw; (try dsimp only at hSw); go_simp⟩) hHeld ?_
                  simp only [Act.put, List.setIfInBounds_toArray, List.set_cons_zero, List.set_cons_succ]
                  refine wpAnyH_take (i := 2) (v := .int .i64 (n : Int)) rfl (by kernel_rfl) (by kernel_rfl) (by kernel_rfl) (fun _ _ _ h => h) (Or.inl ⟨by rfl, by intro w hSw; (try dsimp only at hSw); go_simp⟩) hHeld ?_
                  simp only [Act.put, List.setIfInBounds_toArray, List.set_cons_zero, List.set_cons_succ]
                  refine wpAnyH_take (i := 3) (v := .int .i64 (m : Int)) rfl (by kernel_rfl) (by kernel_rfl) (by kernel_rfl) (fun _ _ _ h => h) (Or.inl ⟨by rfl, by intro w hSw; (try dsimp only at hSw); go_simp⟩) hHeld ?_
                  simp only [Act.put, List.setIfInBounds_toArray, List.set_cons_zero, List.set_cons_succ]
                  refine wpAnyH_take (i := 4) (v := .int .i64 (i : Int)) rfl (by kernel_rfl) (by kernel_rfl) (by kernel_rfl) (fun _ _ _ h => h) (Or.inl ⟨by rfl, by intro w hSw; (try dsimp only at hSw); go_simp⟩) hHeld ?_
                  simp only [Act.put, List.setIfInBounds_toArray, List.set_cons_zero, List.set_cons_succ]
                  refine wpAnyH_take (i := 5) (v := .bool false) rfl (by kernel_rfl) (by kernel_rfl) (by kernel_rfl) (fun _ _ _ h => h) (Or.inl ⟨by rfl, by intro w hSw; (try dsimp only at hSw); go_simp⟩) hHeld ?_
                  simp only [Act.put, List.setIfInBounds_toArray, List.set_cons_zero, List.set_cons_succ]
                  refine wpAnyH_take (i := 6) (v := .bool false) rfl (by kernel_rfl) (by kernel_rfl) (by kernel_rfl) (fun _ _ _ h => h) (Or.inl ⟨by rfl, by intro w hSw; (try dsimp only at hSw); go_simp⟩) hHeld ?_
                  simp only [Act.put, List.setIfInBounds_toArray, List.set_cons_zero, List.set_cons_succ]
                  refine wpAnyH_take (i := 7) (v := undef) rfl (by kernel_rfl) (by kernel_rfl) (by kernel_rfl) (fun _ _ _ h => h) (Or.inr ⟨by kernel_rfl, rfl⟩) hHeld ?_
                  simp only [Act.put, List.setIfInBounds_toArray, List.set_cons_zero, List.set_cons_succ]
                  refine wpAnyH_take (i := 8) (v := undef) rfl (by kernel_rfl) (by kernel_rfl) (by kernel_rfl) (fun _ _ _ h => h) (Or.inr ⟨by kernel_rfl, rfl⟩) hHeld ?_
                  simp only [Act.put, List.setIfInBounds_toArray, List.set_cons_zero, List.set_cons_succ]
                  refine wpAnyH_take (i := 9) (v := undef) rfl (by kernel_rfl) (by kernel_rfl) (by kernel_rfl) (fun _ _ _ h => h) (Or.inr ⟨by kernel_rfl, rfl⟩) hHeld ?_
                  simp only [Act.put, List.setIfInBounds_toArray, List.set_cons_zero, List.set_cons_succ]
                  refine wpAnyH_take (i := 10) (v := undef) rfl (by kernel_rfl) (by kernel_rfl) (by kernel_rfl) (fun _ _ _ h => h) (Or.inr ⟨by kernel_rfl, rfl⟩) hHeld ?_
                  simp only [Act.put, List.setIfInBounds_toArray, List.set_cons_zero, List.set_cons_succ]
                  refine wpAnyH_take (i := 11) (v := undef) rfl (by kernel_rfl) (by kernel_rfl) (by kernel_rfl) (fun _ _ _ h => h) (Or.inr ⟨by kernel_rfl, rfl⟩) hHeld ?_
                  simp only [Act.put, List.setIfInBounds_toArray, List.set_cons_zero, List.set_cons_succ]
                  refine wpAnyH_take (i := 12) (v := undef) rfl (by kernel_rfl) (by kernel_rfl) (by kernel_rfl) (fun _ _ _ h => h) (Or.inr ⟨by kernel_rfl, rfl⟩) hHeld ?_
                  simp only [Act.put, List.setIfInBounds_toArray, List.set_cons_zero, List.set_cons_succ]
                  refine wpAnyH_take (i := 13) (v := undef) rfl (by kernel_rfl) (by kernel_rfl) (by kernel_rfl) (fun _ _ _ h => h) (Or.inr ⟨by kernel_rfl, rfl⟩) hHeld ?_
                  simp only [Act.put, List.setIfInBounds_toArray, List.set_cons_zero, List.set_cons_succ]
                  refine wpAnyH_take (i := 14) (v := undef) rfl (by kernel_rfl) (by kernel_rfl) (by kernel_rfl) (fun _ _ _ h => h) (Or.inr ⟨by kernel_rfl, rfl⟩) hHeld ?_
                  simp only [Act.put, List.setIfInBounds_toArray, List.set_cons_zero, List.set_cons_succ]
                  refine wpAnyH_take (i := 15) (v := undef) rfl (by kernel_rfl) (by kernel_rfl) (by kernel_rfl) (fun _ _ _ h => h) (Or.inr ⟨by kernel_rfl, rfl⟩) hHeld ?_
                  simp only [Act.put, List.setIfInBounds_toArray, List.set_cons_zero, List.set_cons_succ]
                  refine wpAnyH_take (i := 16) (v := undef) rfl (by kernel_rfl) (by kernel_rfl) (by kernel_rfl) (fun _ _ _ h => h) (Or.inr ⟨by kernel_rfl, rfl⟩) hHeld ?_
                  simp only [Act.put, List.setIfInBounds_toArray, List.set_cons_zero, List.set_cons_succ]
                  refine wpAnyH_ready (rs := [17]) (by kernel_rfl) (by simp) (AllReadyH.cons rfl (fun K hK => ?_) AllReadyH.nil)
                  go_simp
                  refine hK.out _ _ ⟨a0, a1, b0, b1⟩ (fun hHeld2 => ?_)
                  clear hK K hHeld
                  have hHeld := hHeld2
                  clear hHeld2
                  simp only [Act.put, List.setIfInBounds_toArray, List.set_cons_zero, List.set_cons_succ]
                  refine wpAnyH_done (by kernel_rfl) ?_ _
                  clear hHeld
                  clear a0 a1 b0 b1
                  go_wp2
                  go_roundw
                  case rel =>
                    refine ⟨k + 1, by omega, .inl (by omega), by go_num, hide ?_, hide (unhide HR).drew⟩
                    intro k' h1 h2 h3
                    by_cases e : k' = k
                    · subst e; exact unhide PK
                    · exact unhide HK k' h1 (by omega) h3
                  case measure => simp [intOf]; omega
                · have dm : (((m : Int)) != ((i : Int))) = true := by simp; omega
                  have CNk := hide (fun w (x : SlP w (some ⟨b, off, none⟩) l) => nextS (some ⟨b, off, none⟩) n c k l w x (unhide HN) h0 (by omega) (by omega))
                  have nr := getD_near (unhide HG) k
                  have ns := unhide HG _ (nxt_mem (l := l) (by rw [unhide HN]; omega) k)
                  rcases (unhide HS3) with e | ⟨b', off', hbe, hbo', hc⟩
                  · exact absurd (unhide HN) (by rw [e]; simp; omega)
                  obtain ⟨rfl, rfl⟩ : b = b' ∧ off = off' := by simpa using hbe
                  have e0 := hc k (by rw [unhide HN]; exact hkl)
                  rw [← getD_gt (by rw [unhide HN]; exact hkl)] at e0
                  have C3 := hide (fun w => meetS8 p q (l.getD k (0, 0)) (nxt l k) w (unhide NPQ).1 (unhide NPQ).2 nr ns)
                  have HV : Hid (∀ v, meV p q (l.getD k (0, 0)) (nxt l k) = v → meV (l.getD i (0, 0)) (nxt l i) (l.getD k (0, 0)) (nxt l k) = v) := hide (fun v e => by rw [(unhide PE).1, (unhide PE).2.1]; exact e)
                  obtain ⟨v, hve⟩ : ∃ v, meV p q (l.getD k (0, 0)) (nxt l k) = v := ⟨_, rfl⟩
                  rw [hve] at C3
                  have HVV := hide (unhide HV v hve)
                  clear HV hve nr ns hc hbe
                  obtain ⟨x, hxe⟩ : ∃ x, l.getD k (0, 0) = x := ⟨_, rfl⟩
                  obtain ⟨y, hye⟩ : ∃ y, nxt l k = y := ⟨_, rfl⟩
                  rw [hxe] at e0 C3
                  rw [hye] at C3 CNk
                  have c0 := e0.1
                  have c1 := e0.2
                  have MI := hide hmi
                  clear e0 hxe hye hmi
                  go_upto_region 12 with fail
                  have HX0 : Hid True := hide trivial
                  go_region_held3 (fun w' => w'.cell? ⟨wo.heap.size, 0, none⟩ = some (.int .i64 p.1) ∧ w'.cell? ⟨wo.heap.size, 1, none⟩ = some (.int .i64 p.2) ∧ w'.cell? ⟨w1.heap.size, 0, none⟩ = some (.int .i64 q.1) ∧ w'.cell? ⟨w1.heap.size, 1, none⟩ = some (.int .i64 q.2) ∧ w'.cell? ⟨b, off + k * 2, none⟩ = some (.int .i64 x.1) ∧ w'.cell? ⟨b, off + k * 2 + 1, none⟩ = some (.int .i64 x.2))
                    (with_reducible (first | exact ⟨a0, a1, b0, b1, c0, c1⟩ | exact ⟨cdP a0, cdP a1, cdP b0, cdP b1, cdP c0, cdP c1⟩ | fail))
                    (first
                    | (have chk := HX0; go_at_call 56; refine (unhide CNk _ ((unhide HS3).later (Below.refl _ _).drew)).mono ?_; rintro e w8 ⟨rfl, hb1⟩; have hbx := below_of_drew hb1; replace a0 := cell_later hbx a0; replace a1 := cell_later hbx a1; replace b0 := cell_later hbx b0; replace b1 := cell_later hbx b1; replace c0 := cell_later hbx c0; replace c1 := cell_later hbx c1; replace HS3 := hide ((unhide HS3).later hbx); replace HR := hide (below_on (unhide HR) hbx); clear hb1 hbx; clear HX0 chk; have HX1 : Hid True := hide trivial)
                    | (have chk := HX1; go_at_call 77; refine (unhide C3 _).mono ?_; rintro e w9 ⟨rfl, hb1⟩; have hbx := hb1; replace a0 := cell_later hbx a0; replace a1 := cell_later hbx a1; replace b0 := cell_later hbx b0; replace b1 := cell_later hbx b1; replace c0 := cell_later hbx c0; replace c1 := cell_later hbx c1; replace HS3 := hide ((unhide HS3).later hbx); replace HR := hide (below_on (unhide HR) hbx); clear hb1 hbx; clear HX1 chk)
                    | fail)
                  clear a0 a1 b0 b1 c0 c1
                  cases v
                  · have PK : Hid (PairOk l i k) := hide (fun _ => unhide HVV)
                    go_wp2
                    go_roundw
                    case rel =>
                      refine ⟨k + 1, by omega, .inl (by omega), by go_num, hide ?_, HR⟩
                      intro k' h1 h2 h3
                      by_cases e : k' = k
                      · subst e; exact unhide PK
                      · exact unhide HK k' h1 (by omega) h3
                    case measure => simp [intOf]; omega
                  · have HF : Hid (siS l = false) := hide (siS_false (fun z => by have := (z i (by rw [unhide HN]; exact hlt)).2 k hk2 (by rw [unhide HN]; exact hkl) (fun e => unhide MI ((unhide ME).trans e)); rw [unhide HVV] at this; cases this))
                    go_wp2_with fail
                    go_ret
                    exact ⟨by rw [unhide HF]; rfl, below_on (unhide HB2) (unhide HR)⟩
              · have HA2 : Hid (SimP l (i + 1)) := hide (by
                  intro i' hi'
                  by_cases e : i' = i
                  · subst e; exact ⟨unhide RO, fun k' h1 h2 => unhide HK k' h1 (by rw [unhide HN] at h2; omega) (by rw [unhide HN] at h2; exact h2)⟩
                  · exact unhide HA i' (by omega))
                have HB4 := hide (below_on (unhide HB2) (unhide HR))
                have nk : ¬ ((k : Int) < (n : Int)) := by omega
                go_wp2
                go_roundw
                case rel => exact ⟨i + 1, by omega, by go_num, HA2, HB4⟩
                case measure => simp [intOf]; omega
          · have HF : Hid (siS l = false) := hide (siS_false (fun k => by have := (k i (by rw [unhide HN]; exact hlt)).1.2.2; rw [(unhide PE).1, (unhide PE).2.1, (unhide PE).2.2, unhide HV2] at this; cases this))
            clear a0 a1 b0 b1
            go_wp2_with fail
            go_ret
            exact ⟨by rw [unhide HF]; rfl, unhide HB2⟩
        · rw [hv1] at C1
          have HV1 := hide hv1
          clear hv1
          refine wp_region_held_drew (S := fun w' => w'.cell? ⟨wo.heap.size, 0, none⟩ = some (.int .i64 p.1) ∧ w'.cell? ⟨wo.heap.size, 1, none⟩ = some (.int .i64 p.2) ∧ w'.cell? ⟨w1.heap.size, 0, none⟩ = some (.int .i64 q.1) ∧ w'.cell? ⟨w1.heap.size, 1, none⟩ = some (.int .i64 q.2)) (by kernel_rfl) ⟨a0, a1, b0, b1⟩ (fun hHeld => ?_)
          simp only [List.size_toArray, List.length_cons, List.length_nil, Nat.reduceAdd, Array.replicate_succ, Array.replicate_zero, List.push_toArray, List.nil_append, List.cons_append]
          refine wpAnyH_take (i := 0) (v := .agg #[.int .i64 p.1, .int .i64 p.2]) rfl (by kernel_rfl) (by kernel_rfl) (by kernel_rfl) (fun _ _ _ h => h) (Or.inl ⟨by rfl, by intro w hSw; (try dsimp only at hSw); go_simp⟩) hHeld ?_
          simp only [Act.put, List.setIfInBounds_toArray, List.set_cons_zero, List.set_cons_succ]
          refine wpAnyH_take (i := 1) (v := .agg #[.int .i64 q.1, .int .i64 q.2]) rfl (by kernel_rfl) (by kernel_rfl) (by kernel_rfl) (fun _ _ _ h => h) (Or.inl ⟨by rfl, by intro w hSw; (try dsimp only at hSw); go_simp⟩) hHeld ?_
          simp only [Act.put, List.setIfInBounds_toArray, List.set_cons_zero, List.set_cons_succ]
          refine wpAnyH_take (i := 2) (v := .bool false) rfl (by kernel_rfl) (by kernel_rfl) (by kernel_rfl) (fun _ _ _ h => h) (Or.inl ⟨by rfl, by intro w hSw; (try dsimp only at hSw); go_simp⟩) hHeld ?_
          simp only [Act.put, List.setIfInBounds_toArray, List.set_cons_zero, List.set_cons_succ]
          refine wpAnyH_take (i := 3) (v := .bool false) rfl (by kernel_rfl) (by kernel_rfl) (by kernel_rfl) (fun _ _ _ h => h) (Or.inl ⟨by rfl, by intro w hSw; (try dsimp only at hSw); go_simp⟩) hHeld ?_
          simp only [Act.put, List.setIfInBounds_toArray, List.set_cons_zero, List.set_cons_succ]
          refine wpAnyH_take (i := 4) (v := .agg #[.int .i64 q.1, .int .i64 q.2]) rfl (by kernel_rfl) (by kernel_rfl) (by kernel_rfl) (fun _ _ _ h => h) (Or.inl ⟨by rfl, by intro w hSw; (try dsimp only at hSw); go_simp⟩) hHeld ?_
          simp only [Act.put, List.setIfInBounds_toArray, List.set_cons_zero, List.set_cons_succ]
          refine wpAnyH_take (i := 5) (v := .slice (some ⟨b, off, none⟩) n c) rfl (by kernel_rfl) (by kernel_rfl) (by kernel_rfl) (fun _ _ _ h => h) (Or.inl ⟨by rfl, by intro w hSw; (try dsimp only at hSw); go_simp⟩) hHeld ?_
          simp only [Act.put, List.setIfInBounds_toArray, List.set_cons_zero, List.set_cons_succ]
          refine wpAnyH_take (i := 6) (v := .int .i64 (i : Int)) rfl (by kernel_rfl) (by kernel_rfl) (by kernel_rfl) (fun _ _ _ h => h) (Or.inl ⟨by rfl, by intro w hSw; (try dsimp only at hSw); go_simp⟩) hHeld ?_
          simp only [Act.put, List.setIfInBounds_toArray, List.set_cons_zero, List.set_cons_succ]
          refine wpAnyH_take (i := 7) (v := .int .i64 ((i : Int) + 1)) rfl (by kernel_rfl) (by kernel_rfl) (by kernel_rfl) (fun _ _ _ h => h) (Or.inl ⟨by rfl, by intro w hSw; (try dsimp only at hSw); go_simp⟩) hHeld ?_
          simp only [Act.put, List.setIfInBounds_toArray, List.set_cons_zero, List.set_cons_succ]
          refine wpAnyH_take (i := 9) (v := .agg #[.int .i64 p.1, .int .i64 p.2]) rfl (by kernel_rfl) (by kernel_rfl) (by kernel_rfl) (fun _ _ _ h => h) (Or.inl ⟨by rfl, by intro w hSw; (try dsimp only at hSw); go_simp⟩) hHeld ?_
          simp only [Act.put, List.setIfInBounds_toArray, List.set_cons_zero, List.set_cons_succ]
          refine wpAnyH_ready (rs := [8]) (by kernel_rfl) (by simp) (AllReadyH.cons rfl (fun K hK => ?_) AllReadyH.nil)
          go_simp
          refine (unhide CN1 _ ((unhide HS2).later (Below.refl _ _).drew)).mono ?_
          rintro e w4 ⟨rfl, hb1⟩
          have hbx := below_of_drew hb1
          replace a0 := cell_later hbx a0
          replace a1 := cell_later hbx a1
          replace b0 := cell_later hbx b0
          replace b1 := cell_later hbx b1
          replace HS2 := hide ((unhide HS2).later hbx)
          replace HB2 := hide (below_on (unhide HB2) hbx)
          refine hK.out _ _ ⟨a0, a1, b0, b1⟩ (fun hHeld2 => ?_)
          clear hK K hb1 hbx hHeld
          have hHeld := hHeld2
          clear hHeld2
          simp only [Act.put, List.setIfInBounds_toArray, List.set_cons_zero, List.set_cons_succ]
          refine wpAnyH_ready (rs := [10]) (by kernel_rfl) (by simp) (AllReadyH.cons rfl (fun K hK => ?_) AllReadyH.nil)
          go_simp
          refine (unhide C1 _).mono ?_
          rintro e w5 ⟨rfl, hb1⟩
          have hbx := hb1
          replace a0 := cell_later hbx a0
          replace a1 := cell_later hbx a1
          replace b0 := cell_later hbx b0
          replace b1 := cell_later hbx b1
          replace HS2 := hide ((unhide HS2).later hbx)
          replace HB2 := hide (below_on (unhide HB2) hbx)
          refine hK.out _ _ ⟨a0, a1, b0, b1⟩ (fun hHeld2 => ?_)
          clear hK K hb1 hbx hHeld
          have hHeld := hHeld2
          clear hHeld2
          simp only [Act.put, List.setIfInBounds_toArray, List.set_cons_zero, List.set_cons_succ]
          refine wpAnyH_take (i := 11) (v := .bool true) rfl (by kernel_rfl) (by kernel_rfl) (by kernel_rfl) (fun _ _ _ h => h) (Or.inl ⟨by rfl, by intro w hSw; (try dsimp only at hSw); go_simp⟩) hHeld ?_
          simp only [Act.put, List.setIfInBounds_toArray, List.set_cons_zero, List.set_cons_succ]
          refine wpAnyH_take (i := 12) (v := .bool true) rfl (by kernel_rfl) (by kernel_rfl) (by kernel_rfl) (fun _ _ _ h => h) (Or.inl ⟨by rfl, by intro w hSw; (try dsimp only at hSw); go_simp⟩) hHeld ?_
          simp only [Act.put, List.setIfInBounds_toArray, List.set_cons_zero, List.set_cons_succ]
          refine wpAnyH_take (i := 13) (v := undef) rfl (by kernel_rfl) (by kernel_rfl) (by kernel_rfl) (fun _ _ _ h => h) (Or.inr ⟨by kernel_rfl, rfl⟩) hHeld ?_
          simp only [Act.put, List.setIfInBounds_toArray, List.set_cons_zero, List.set_cons_succ]
          refine wpAnyH_take (i := 14) (v := undef) rfl (by kernel_rfl) (by kernel_rfl) (by kernel_rfl) (fun _ _ _ h => h) (Or.inr ⟨by kernel_rfl, rfl⟩) hHeld ?_
          simp only [Act.put, List.setIfInBounds_toArray, List.set_cons_zero, List.set_cons_succ]
          refine wpAnyH_take (i := 15) (v := undef) rfl (by kernel_rfl) (by kernel_rfl) (by kernel_rfl) (fun _ _ _ h => h) (Or.inr ⟨by kernel_rfl, rfl⟩) hHeld ?_
          simp only [Act.put, List.setIfInBounds_toArray, List.set_cons_zero, List.set_cons_succ]
          refine wpAnyH_take (i := 16) (v := undef) rfl (by kernel_rfl) (by kernel_rfl) (by kernel_rfl) (fun _ _ _ h => h) (Or.inr ⟨by kernel_rfl, rfl⟩) hHeld ?_
          simp only [Act.put, List.setIfInBounds_toArray, List.set_cons_zero, List.set_cons_succ]
          refine wpAnyH_take (i := 17) (v := undef) rfl (by kernel_rfl) (by kernel_rfl) (by kernel_rfl) (fun _ _ _ h => h) (Or.inr ⟨by kernel_rfl, rfl⟩) hHeld ?_
          simp only [Act.put, List.setIfInBounds_toArray, List.set_cons_zero, List.set_cons_succ]
          refine wpAnyH_take (i := 18) (v := undef) rfl (by kernel_rfl) (by kernel_rfl) (by kernel_rfl) (fun _ _ _ h => h) (Or.inr ⟨by kernel_rfl, rfl⟩) hHeld ?_
          simp only [Act.put, List.setIfInBounds_toArray, List.set_cons_zero, List.set_cons_succ]
          refine wpAnyH_take (i := 19) (v := undef) rfl (by kernel_rfl) (by kernel_rfl) (by kernel_rfl) (fun _ _ _ h => h) (Or.inr ⟨by kernel_rfl, rfl⟩) hHeld ?_
          simp only [Act.put, List.setIfInBounds_toArray, List.set_cons_zero, List.set_cons_succ]
          refine wpAnyH_ready (rs := [20]) (by kernel_rfl) (by simp) (AllReadyH.cons rfl (fun K hK => ?_) AllReadyH.nil)
          go_simp
          refine hK.out _ _ ⟨a0, a1, b0, b1⟩ (fun hHeld2 => ?_)
          clear hK K hHeld
          have hHeld := hHeld2
          clear hHeld2
          simp only [Act.put, List.setIfInBounds_toArray, List.set_cons_zero, List.set_cons_succ]
          refine wpAnyH_done (by kernel_rfl) ?_ _
          clear hHeld
          have HF : Hid (siS l = false) := hide (siS_false (fun k => by have := (k i (by rw [unhide HN]; exact hlt)).1.2.1; rw [(unhide PE).1, (unhide PE).2.1, (unhide PE).2.2, unhide HV1] at this; cases this))
          clear a0 a1 b0 b1
          go_wp2_with fail
          go_ret
          exact ⟨by rw [unhide HF]; rfl, unhide HB2⟩
    · obtain rfl : i = n := by omega
      have HT : Hid (siS l = true) := hide (siS_true (by rw [unhide HN]; exact unhide HA))
      go_wp2
      go_ret
      exact ⟨by rw [unhide HT]; rfl, unhide HB⟩
end Go.Proofs.YtomekmhonfofkaaGreat
