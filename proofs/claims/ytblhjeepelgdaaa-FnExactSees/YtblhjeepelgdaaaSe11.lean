/- Corners' numbers, triangles of a way, Sees: both sides. No condition beyond those typed. Written by mkse11.py. -/
import Derived.Test.YtblhjeepelgdaaaIm11
import Derived.Test.YtblhjeepelgdaaaTrH
namespace Go.Proofs.Ytblhjeepelgdaaa
open Go.RowKit
set_option linter.unusedVariables false
set_option maxRecDepth 100000
set_option linter.unusedSimpArgs false

/-- A corner's number. -/
def cnB (n : Nat) (k : Int) : Bool := decide (0 ≤ k) && decide (k < (n : Int))
def trB (n : Nat) (t : Int × Int × Int) : Bool := cnB n t.1 && cnB n t.2.1 && cnB n t.2.2
def hsB (g : Int) (t : Int × Int × Int) : Bool := g == t.1 || g == t.2.1 || g == t.2.2
theorem cornerS (a : Option Addr) (n c : Nat) (k : Int) (w : World) :
    Calls Try.prog 60 #[.slice a n c, .int .i64 k] w fun e w' => e = .returned (.bool (cnB n k)) ∧ w' = w := by
  unfold cnB
  by_cases h0 : 0 ≤ k
  · have d0 : decide (0 ≤ k) = true := decide_eq_true h0
    cases h1 : decide (k < (n : Int))
    · go_enter Try.func60, Try.ntmps60
      go_wp2_with fail
      go_ret
      exact ⟨by rw [d0]; rfl, rfl⟩
    · go_enter Try.func60, Try.ntmps60
      go_wp2_with fail
      go_ret
      exact ⟨by rw [d0]; rfl, rfl⟩
  · have d0 : decide (0 ≤ k) = false := decide_eq_false h0
    go_enter Try.func60, Try.ntmps60
    go_wp2_with fail
    go_ret
    exact ⟨by first | rfl | (rw [d0]; rfl), rfl⟩
theorem triOfS (a : Option Addr) (n c : Nat) (t : Int × Int × Int) (w : World) :
    Calls Try.prog 61 #[.slice a n c, .agg #[.int .i64 t.1, .int .i64 t.2.1, .int .i64 t.2.2]] w fun e w' => e = .returned (.bool (trB n t)) ∧ Below w.heap.size w w' := by
  have C0 := hide (fun w => cornerS a n c t.1 w)
  have C1 := hide (fun w => cornerS a n c t.2.1 w)
  have C2 := hide (fun w => cornerS a n c t.2.2 w)
  unfold trB
  generalize cnB n t.1 = x0 at *
  generalize cnB n t.2.1 = x1 at *
  generalize cnB n t.2.2 = x2 at *
  cases x0
  · go_enter Try.func61, Try.ntmps61
    go_wp2_with fail
    refine (unhide C0 _).mono ?_
    rintro e wz ⟨rfl, rfl⟩
    go_wp2_with fail
    go_ret
    exact ⟨rfl, (Below.refl _ _).alloc (Nat.le_refl _) _⟩
  · cases x1
    · go_enter Try.func61, Try.ntmps61
      go_wp2_with fail
      refine (unhide C0 _).mono ?_
      rintro e wz ⟨rfl, rfl⟩
      go_wp2_with fail
      refine (unhide C1 _).mono ?_
      rintro e wz ⟨rfl, rfl⟩
      go_wp2_with fail
      go_ret
      exact ⟨rfl, (Below.refl _ _).alloc (Nat.le_refl _) _⟩
    · cases x2
      · go_enter Try.func61, Try.ntmps61
        go_wp2_with fail
        refine (unhide C0 _).mono ?_
        rintro e wz ⟨rfl, rfl⟩
        go_wp2_with fail
        refine (unhide C1 _).mono ?_
        rintro e wz ⟨rfl, rfl⟩
        go_wp2_with fail
        refine (unhide C2 _).mono ?_
        rintro e wz ⟨rfl, rfl⟩
        go_wp2_with fail
        go_ret
        exact ⟨rfl, (Below.refl _ _).alloc (Nat.le_refl _) _⟩
      · go_enter Try.func61, Try.ntmps61
        go_wp2_with fail
        refine (unhide C0 _).mono ?_
        rintro e wz ⟨rfl, rfl⟩
        go_wp2_with fail
        refine (unhide C1 _).mono ?_
        rintro e wz ⟨rfl, rfl⟩
        go_wp2_with fail
        refine (unhide C2 _).mono ?_
        rintro e wz ⟨rfl, rfl⟩
        go_wp2_with fail
        go_ret
        exact ⟨rfl, (Below.refl _ _).alloc (Nat.le_refl _) _⟩
theorem cornerI (a : Option Addr) (n c : Nat) (k : Int) (w : World) :
    Calls Try.prog 54 #[.slice a n c, .int .i64 k] w fun e w' => e = .returned (.bool (cnB n k)) ∧ w' = w := by
  unfold cnB
  by_cases h0 : 0 ≤ k
  · have d0 : decide (0 ≤ k) = true := decide_eq_true h0
    cases h1 : decide (k < (n : Int))
    · go_enter Try.func54, Try.ntmps54
      go_wp2_with fail
      go_ret
      exact ⟨by rw [d0]; rfl, rfl⟩
    · go_enter Try.func54, Try.ntmps54
      go_wp2_with fail
      go_ret
      exact ⟨by rw [d0]; rfl, rfl⟩
  · have d0 : decide (0 ≤ k) = false := decide_eq_false h0
    go_enter Try.func54, Try.ntmps54
    go_wp2_with fail
    go_ret
    exact ⟨by first | rfl | (rw [d0]; rfl), rfl⟩
theorem triOfI (a : Option Addr) (n c : Nat) (t : Int × Int × Int) (w : World) :
    Calls Try.prog 55 #[.agg #[.int .i64 t.1, .int .i64 t.2.1, .int .i64 t.2.2], .slice a n c] w fun e w' => e = .returned (.bool (trB n t)) ∧ Below w.heap.size w w' := by
  have C0 := hide (fun w => cornerI a n c t.1 w)
  have C1 := hide (fun w => cornerI a n c t.2.1 w)
  have C2 := hide (fun w => cornerI a n c t.2.2 w)
  unfold trB
  generalize cnB n t.1 = x0 at *
  generalize cnB n t.2.1 = x1 at *
  generalize cnB n t.2.2 = x2 at *
  cases x0
  · go_enter Try.func55, Try.ntmps55
    go_wp2_with fail
    refine (unhide C0 _).mono ?_
    rintro e wz ⟨rfl, rfl⟩
    go_wp2_with fail
    go_ret
    exact ⟨rfl, (Below.refl _ _).alloc (Nat.le_refl _) _⟩
  · cases x1
    · go_enter Try.func55, Try.ntmps55
      go_wp2_with fail
      refine (unhide C0 _).mono ?_
      rintro e wz ⟨rfl, rfl⟩
      go_wp2_with fail
      refine (unhide C1 _).mono ?_
      rintro e wz ⟨rfl, rfl⟩
      go_wp2_with fail
      go_ret
      exact ⟨rfl, (Below.refl _ _).alloc (Nat.le_refl _) _⟩
    · cases x2
      · go_enter Try.func55, Try.ntmps55
        go_wp2_with fail
        refine (unhide C0 _).mono ?_
        rintro e wz ⟨rfl, rfl⟩
        go_wp2_with fail
        refine (unhide C1 _).mono ?_
        rintro e wz ⟨rfl, rfl⟩
        go_wp2_with fail
        refine (unhide C2 _).mono ?_
        rintro e wz ⟨rfl, rfl⟩
        go_wp2_with fail
        go_ret
        exact ⟨rfl, (Below.refl _ _).alloc (Nat.le_refl _) _⟩
      · go_enter Try.func55, Try.ntmps55
        go_wp2_with fail
        refine (unhide C0 _).mono ?_
        rintro e wz ⟨rfl, rfl⟩
        go_wp2_with fail
        refine (unhide C1 _).mono ?_
        rintro e wz ⟨rfl, rfl⟩
        go_wp2_with fail
        refine (unhide C2 _).mono ?_
        rintro e wz ⟨rfl, rfl⟩
        go_wp2_with fail
        go_ret
        exact ⟨rfl, (Below.refl _ _).alloc (Nat.le_refl _) _⟩
theorem hasI11 (t : Int × Int × Int) (k : Int) (w : World) :
    Calls Try.prog 56 #[.agg #[.int .i64 t.1, .int .i64 t.2.1, .int .i64 t.2.2], .int .i64 k] w fun e w' => e = .returned (.bool (hsB k t)) ∧ Below w.heap.size w w' := by
  unfold hsB
  cases x0 : (k == t.1)
  · cases x1 : (k == t.2.1)
    · cases x2 : (k == t.2.2)
      · go_enter Try.func56, Try.ntmps56
        go_wp2_with fail
        go_ret
        exact ⟨rfl, (Below.refl _ _).alloc (Nat.le_refl _) _⟩
      · go_enter Try.func56, Try.ntmps56
        go_wp2_with fail
        go_ret
        exact ⟨rfl, (Below.refl _ _).alloc (Nat.le_refl _) _⟩
    · go_enter Try.func56, Try.ntmps56
      go_wp2_with fail
      go_ret
      exact ⟨rfl, (Below.refl _ _).alloc (Nat.le_refl _) _⟩
  · go_enter Try.func56, Try.ntmps56
    go_wp2_with fail
    go_ret
    exact ⟨rfl, (Below.refl _ _).alloc (Nat.le_refl _) _⟩
def seB (l : List (Int × Int)) (g : Int) (t : Int × Int × Int) : Bool := wayB l && cnB l.length g && trB l.length t
def seV (l : List (Int × Int)) (g : Int) (t : Int × Int × Int) : Bool := seB l g t && hsB g t
set_option maxHeartbeats 4000000 in
theorem SeesS (a : Option Addr) (n c : Nat) (l : List (Int × Int)) (g : Int) (t : Int × Int × Int) (w : World) (h : ArP w a n c l) (h1 : n ≤ 1048576) :
    Calls Try.prog 21 #[.slice a n c, .int .i64 g, .agg #[.int .i64 t.1, .int .i64 t.2.1, .int .i64 t.2.2]] w fun e w' => e = .returned (.tuple #[.bool (seV l g t), .bool (seB l g t)]) ∧ Below w.heap.size w w' := by
  have hn := h.len
  have C1 := hide (fun w (k : SlP w a l) => wayS a n c l w k hn (by unfold maxLen; omega))
  have C2 := hide (fun w => cornerS a n c g w)
  have C3 := hide (fun w => triOfS a n c t w)
  have EB : seB l g t = (wayB l && cnB n g && trB n t) := by unfold seB; rw [hn]
  have EV : seV l g t = ((wayB l && cnB n g && trB n t) && hsB g t) := by unfold seV; rw [EB]
  rw [EB, EV]
  have HS := hide h.sl
  clear h hn EB EV
  generalize wayB l = x0 at *
  generalize cnB n g = x1 at *
  generalize trB n t = x2 at *
  cases x0
  · have B0 := hide (show Below w.heap.size w (w.alloc (.cells #[.int .i64 t.1, .int .i64 t.2.1, .int .i64 t.2.2] 33)) from ((Below.refl _ _).alloc (by simp) _))
    go_enter Try.func21, Try.ntmps21
    go_wp2_with fail
    refine (unhide C1 _ ((unhide HS).later ((Below.refl _ _).alloc (Nat.le_refl _) _))).mono ?_
    rintro e w1 ⟨rfl, hb⟩
    have HB := hide (below_on (unhide B0) hb)
    clear hb
    go_wp2_with fail
    go_ret2
    exact ⟨rfl, unhide HB⟩
  · cases x1
    · have B0 := hide (show Below w.heap.size w (w.alloc (.cells #[.int .i64 t.1, .int .i64 t.2.1, .int .i64 t.2.2] 33)) from ((Below.refl _ _).alloc (by simp) _))
      go_enter Try.func21, Try.ntmps21
      go_wp2_with fail
      refine (unhide C1 _ ((unhide HS).later ((Below.refl _ _).alloc (Nat.le_refl _) _))).mono ?_
      rintro e w1 ⟨rfl, hb⟩
      have HB := hide (below_on (unhide B0) hb)
      clear hb
      go_wp2_with fail
      refine (unhide C2 _).mono ?_
      rintro e wz ⟨rfl, rfl⟩
      go_wp2_with fail
      go_ret2
      exact ⟨rfl, unhide HB⟩
    · cases x2
      · have B0 := hide (show Below w.heap.size w (w.alloc (.cells #[.int .i64 t.1, .int .i64 t.2.1, .int .i64 t.2.2] 33)) from ((Below.refl _ _).alloc (by simp) _))
        go_enter Try.func21, Try.ntmps21
        go_wp2_with fail
        refine (unhide C1 _ ((unhide HS).later ((Below.refl _ _).alloc (Nat.le_refl _) _))).mono ?_
        rintro e w1 ⟨rfl, hb⟩
        have k0_0 : w1.cell? ⟨w.heap.size, 0, none⟩ = some (.int .i64 t.1) := cell_later hb (by simp [go_sem])
        have k0_1 : w1.cell? ⟨w.heap.size, 1, none⟩ = some (.int .i64 t.2.1) := cell_later hb (by simp [go_sem])
        have k0_2 : w1.cell? ⟨w.heap.size, 2, none⟩ = some (.int .i64 t.2.2) := cell_later hb (by simp [go_sem])
        have HB := hide (below_on (unhide B0) hb)
        clear hb
        go_wp2_with fail
        refine (unhide C2 _).mono ?_
        rintro e wz ⟨rfl, rfl⟩
        go_wp2_with fail
        refine (unhide C3 _).mono ?_
        rintro e w2 ⟨rfl, hb⟩
        clear k0_0 k0_1 k0_2
        replace HB := hide (below_on (unhide HB) hb)
        clear hb
        go_wp2_with fail
        go_ret2
        exact ⟨rfl, unhide HB⟩
      · unfold hsB
        cases y0 : (g == t.1)
        · cases y1 : (g == t.2.1)
          · cases y2 : (g == t.2.2)
            · have B0 := hide (show Below w.heap.size w (w.alloc (.cells #[.int .i64 t.1, .int .i64 t.2.1, .int .i64 t.2.2] 33)) from ((Below.refl _ _).alloc (by simp) _))
              go_enter Try.func21, Try.ntmps21
              go_wp2_with fail
              refine (unhide C1 _ ((unhide HS).later ((Below.refl _ _).alloc (Nat.le_refl _) _))).mono ?_
              rintro e w1 ⟨rfl, hb⟩
              have k0_0 : w1.cell? ⟨w.heap.size, 0, none⟩ = some (.int .i64 t.1) := cell_later hb (by simp [go_sem])
              have k0_1 : w1.cell? ⟨w.heap.size, 1, none⟩ = some (.int .i64 t.2.1) := cell_later hb (by simp [go_sem])
              have k0_2 : w1.cell? ⟨w.heap.size, 2, none⟩ = some (.int .i64 t.2.2) := cell_later hb (by simp [go_sem])
              have HB := hide (below_on (unhide B0) hb)
              clear hb
              go_wp2_with fail
              refine (unhide C2 _).mono ?_
              rintro e wz ⟨rfl, rfl⟩
              go_wp2_with fail
              refine (unhide C3 _).mono ?_
              rintro e w2 ⟨rfl, hb⟩
              replace k0_0 := cell_later hb k0_0
              replace k0_1 := cell_later hb k0_1
              replace k0_2 := cell_later hb k0_2
              replace HB := hide (below_on (unhide HB) hb)
              clear hb
              go_wp2_with fail
              go_ret2
              exact ⟨rfl, unhide HB⟩
            · have B0 := hide (show Below w.heap.size w (w.alloc (.cells #[.int .i64 t.1, .int .i64 t.2.1, .int .i64 t.2.2] 33)) from ((Below.refl _ _).alloc (by simp) _))
              go_enter Try.func21, Try.ntmps21
              go_wp2_with fail
              refine (unhide C1 _ ((unhide HS).later ((Below.refl _ _).alloc (Nat.le_refl _) _))).mono ?_
              rintro e w1 ⟨rfl, hb⟩
              have k0_0 : w1.cell? ⟨w.heap.size, 0, none⟩ = some (.int .i64 t.1) := cell_later hb (by simp [go_sem])
              have k0_1 : w1.cell? ⟨w.heap.size, 1, none⟩ = some (.int .i64 t.2.1) := cell_later hb (by simp [go_sem])
              have k0_2 : w1.cell? ⟨w.heap.size, 2, none⟩ = some (.int .i64 t.2.2) := cell_later hb (by simp [go_sem])
              have HB := hide (below_on (unhide B0) hb)
              clear hb
              go_wp2_with fail
              refine (unhide C2 _).mono ?_
              rintro e wz ⟨rfl, rfl⟩
              go_wp2_with fail
              refine (unhide C3 _).mono ?_
              rintro e w2 ⟨rfl, hb⟩
              replace k0_0 := cell_later hb k0_0
              replace k0_1 := cell_later hb k0_1
              replace k0_2 := cell_later hb k0_2
              replace HB := hide (below_on (unhide HB) hb)
              clear hb
              go_wp2_with fail
              go_ret2
              exact ⟨rfl, unhide HB⟩
          · have B0 := hide (show Below w.heap.size w (w.alloc (.cells #[.int .i64 t.1, .int .i64 t.2.1, .int .i64 t.2.2] 33)) from ((Below.refl _ _).alloc (by simp) _))
            go_enter Try.func21, Try.ntmps21
            go_wp2_with fail
            refine (unhide C1 _ ((unhide HS).later ((Below.refl _ _).alloc (Nat.le_refl _) _))).mono ?_
            rintro e w1 ⟨rfl, hb⟩
            have k0_0 : w1.cell? ⟨w.heap.size, 0, none⟩ = some (.int .i64 t.1) := cell_later hb (by simp [go_sem])
            have k0_1 : w1.cell? ⟨w.heap.size, 1, none⟩ = some (.int .i64 t.2.1) := cell_later hb (by simp [go_sem])
            have k0_2 : w1.cell? ⟨w.heap.size, 2, none⟩ = some (.int .i64 t.2.2) := cell_later hb (by simp [go_sem])
            have HB := hide (below_on (unhide B0) hb)
            clear hb
            go_wp2_with fail
            refine (unhide C2 _).mono ?_
            rintro e wz ⟨rfl, rfl⟩
            go_wp2_with fail
            refine (unhide C3 _).mono ?_
            rintro e w2 ⟨rfl, hb⟩
            replace k0_0 := cell_later hb k0_0
            replace k0_1 := cell_later hb k0_1
            replace k0_2 := cell_later hb k0_2
            replace HB := hide (below_on (unhide HB) hb)
            clear hb
            go_wp2_with fail
            go_ret2
            exact ⟨rfl, unhide HB⟩
        · have B0 := hide (show Below w.heap.size w (w.alloc (.cells #[.int .i64 t.1, .int .i64 t.2.1, .int .i64 t.2.2] 33)) from ((Below.refl _ _).alloc (by simp) _))
          go_enter Try.func21, Try.ntmps21
          go_wp2_with fail
          refine (unhide C1 _ ((unhide HS).later ((Below.refl _ _).alloc (Nat.le_refl _) _))).mono ?_
          rintro e w1 ⟨rfl, hb⟩
          have k0_0 : w1.cell? ⟨w.heap.size, 0, none⟩ = some (.int .i64 t.1) := cell_later hb (by simp [go_sem])
          have k0_1 : w1.cell? ⟨w.heap.size, 1, none⟩ = some (.int .i64 t.2.1) := cell_later hb (by simp [go_sem])
          have k0_2 : w1.cell? ⟨w.heap.size, 2, none⟩ = some (.int .i64 t.2.2) := cell_later hb (by simp [go_sem])
          have HB := hide (below_on (unhide B0) hb)
          clear hb
          go_wp2_with fail
          refine (unhide C2 _).mono ?_
          rintro e wz ⟨rfl, rfl⟩
          go_wp2_with fail
          refine (unhide C3 _).mono ?_
          rintro e w2 ⟨rfl, hb⟩
          replace k0_0 := cell_later hb k0_0
          replace k0_1 := cell_later hb k0_1
          replace k0_2 := cell_later hb k0_2
          replace HB := hide (below_on (unhide HB) hb)
          clear hb
          go_wp2_with fail
          go_ret2
          exact ⟨rfl, unhide HB⟩
set_option maxHeartbeats 4000000 in
theorem SeesI (a : Option Addr) (n c : Nat) (l : List (Int × Int)) (g : Int) (t : Int × Int × Int) (w : World) (h : ArP w a n c l) (h1 : n ≤ 1048576) :
    Calls Try.prog 19 #[.slice a n c, .int .i64 g, .agg #[.int .i64 t.1, .int .i64 t.2.1, .int .i64 t.2.2]] w fun e w' => e = .returned (.tuple #[.bool (seV l g t), .bool (seB l g t)]) ∧ Below w.heap.size w w' := by
  have hn := h.len
  have C1 := hide (fun w (k : SlP w a l) => wayI a n c l w k hn (by unfold maxLen; omega))
  have C2 := hide (fun w => cornerI a n c g w)
  have C3 := hide (fun w => triOfI a n c t w)
  have C4 := hide (fun w => hasI11 t g w)
  have EB : seB l g t = (wayB l && cnB n g && trB n t) := by unfold seB; rw [hn]
  have EV : seV l g t = ((wayB l && cnB n g && trB n t) && hsB g t) := by unfold seV; rw [EB]
  rw [EB, EV]
  have HS := hide h.sl
  clear h hn EB EV
  generalize wayB l = x0 at *
  generalize cnB n g = x1 at *
  generalize trB n t = x2 at *
  cases x0
  · have B0 := hide (show Below w.heap.size w (w.alloc (.cells #[.int .i64 t.1, .int .i64 t.2.1, .int .i64 t.2.2] 33)) from ((Below.refl _ _).alloc (by simp) _))
    go_enter Try.func19, Try.ntmps19
    go_wp2_with fail
    refine (unhide C1 _ ((unhide HS).later ((Below.refl _ _).alloc (Nat.le_refl _) _))).mono ?_
    rintro e w1 ⟨rfl, hb⟩
    have HB := hide (below_on (unhide B0) hb)
    clear hb
    go_wp2_with fail
    go_ret2
    exact ⟨rfl, unhide HB⟩
  · cases x1
    · have B0 := hide (show Below w.heap.size w (w.alloc (.cells #[.int .i64 t.1, .int .i64 t.2.1, .int .i64 t.2.2] 33)) from ((Below.refl _ _).alloc (by simp) _))
      go_enter Try.func19, Try.ntmps19
      go_wp2_with fail
      refine (unhide C1 _ ((unhide HS).later ((Below.refl _ _).alloc (Nat.le_refl _) _))).mono ?_
      rintro e w1 ⟨rfl, hb⟩
      have HB := hide (below_on (unhide B0) hb)
      clear hb
      go_wp2_with fail
      refine (unhide C2 _).mono ?_
      rintro e wz ⟨rfl, rfl⟩
      go_wp2_with fail
      go_ret2
      exact ⟨rfl, unhide HB⟩
    · cases x2
      · have B0 := hide (show Below w.heap.size w (w.alloc (.cells #[.int .i64 t.1, .int .i64 t.2.1, .int .i64 t.2.2] 33)) from ((Below.refl _ _).alloc (by simp) _))
        go_enter Try.func19, Try.ntmps19
        go_wp2_with fail
        refine (unhide C1 _ ((unhide HS).later ((Below.refl _ _).alloc (Nat.le_refl _) _))).mono ?_
        rintro e w1 ⟨rfl, hb⟩
        have k0_0 : w1.cell? ⟨w.heap.size, 0, none⟩ = some (.int .i64 t.1) := cell_later hb (by simp [go_sem])
        have k0_1 : w1.cell? ⟨w.heap.size, 1, none⟩ = some (.int .i64 t.2.1) := cell_later hb (by simp [go_sem])
        have k0_2 : w1.cell? ⟨w.heap.size, 2, none⟩ = some (.int .i64 t.2.2) := cell_later hb (by simp [go_sem])
        have HB := hide (below_on (unhide B0) hb)
        clear hb
        go_wp2_with fail
        refine (unhide C2 _).mono ?_
        rintro e wz ⟨rfl, rfl⟩
        go_wp2_with fail
        refine (unhide C3 _).mono ?_
        rintro e w2 ⟨rfl, hb⟩
        clear k0_0 k0_1 k0_2
        replace HB := hide (below_on (unhide HB) hb)
        clear hb
        go_wp2_with fail
        go_ret2
        exact ⟨rfl, unhide HB⟩
      · generalize hsB g t = v at *
        have B0 := hide (show Below w.heap.size w (w.alloc (.cells #[.int .i64 t.1, .int .i64 t.2.1, .int .i64 t.2.2] 33)) from ((Below.refl _ _).alloc (by simp) _))
        go_enter Try.func19, Try.ntmps19
        go_wp2_with fail
        refine (unhide C1 _ ((unhide HS).later ((Below.refl _ _).alloc (Nat.le_refl _) _))).mono ?_
        rintro e w1 ⟨rfl, hb⟩
        have k0_0 : w1.cell? ⟨w.heap.size, 0, none⟩ = some (.int .i64 t.1) := cell_later hb (by simp [go_sem])
        have k0_1 : w1.cell? ⟨w.heap.size, 1, none⟩ = some (.int .i64 t.2.1) := cell_later hb (by simp [go_sem])
        have k0_2 : w1.cell? ⟨w.heap.size, 2, none⟩ = some (.int .i64 t.2.2) := cell_later hb (by simp [go_sem])
        have HB := hide (below_on (unhide B0) hb)
        clear hb
        go_wp2_with fail
        refine (unhide C2 _).mono ?_
        rintro e wz ⟨rfl, rfl⟩
        go_wp2_with fail
        refine (unhide C3 _).mono ?_
        rintro e w2 ⟨rfl, hb⟩
        replace k0_0 := cell_later hb k0_0
        replace k0_1 := cell_later hb k0_1
        replace k0_2 := cell_later hb k0_2
        replace HB := hide (below_on (unhide HB) hb)
        clear hb
        go_wp2_with fail
        refine (unhide C4 _).mono ?_
        rintro e w3 ⟨rfl, hb⟩
        clear k0_0 k0_1 k0_2
        replace HB := hide (below_on (unhide HB) hb)
        clear hb
        go_wp2_with fail
        go_ret2
        exact ⟨rfl, unhide HB⟩
end Go.Proofs.Ytblhjeepelgdaaa
