/- Windows: their copies, and GoodWindow of both sides. No condition beyond those typed. Written by mkin14.py. -/
import Derived.Test.YtakhgfecjghkpaaIn14
import Derived.Test.YtakhgfecjghkpaaIm8
namespace Go.Proofs.Ytakhgfecjghkpaa
open Go.RowKit
set_option linter.unusedVariables false
set_option maxRecDepth 100000
set_option linter.unusedSimpArgs false

theorem toW (x y u v : Int) (w : World) :
    Calls Try.prog 8 #[.agg #[.int .i64 x, .int .i64 y, .int .i64 u, .int .i64 v]] w fun e w' => e = .returned (.agg #[.int .i64 x, .int .i64 y, .int .i64 u, .int .i64 v]) ∧ Below w.heap.size w w' := by
  go_enter Try.func8, Try.ntmps8
  go_wp2
  refine bodyPost_ret (v := .agg #[.int .i64 x, .int .i64 y, .int .i64 u, .int .i64 v]) (by simp [results, Try.results8, go_sem]) rfl ⟨rfl, ?_⟩
  exact (((Below.refl _ _).alloc (Nat.le_refl _) _).alloc (by simp) _).alloc (by simp; omega) _
theorem goodWide (n : Int) (w : World) :
    Calls Try.prog 31 #[.int .i64 n] w fun e w' => e = .returned (.bool (inR n 1 8)) ∧ w' = w := by
  unfold inR
  cases d1 : decide (1 ≤ n) <;> cases d2 : decide (n ≤ 8) <;>
    (go_enter Try.func31, Try.ntmps31
     go_wp2
     go_ret
     exact ⟨rfl, rfl⟩)
/-- A window that is good. -/
def gW (x y u v : Int) : Bool := inR x (-20) 20 && inR y (-20) 20 && inR u 1 8 && inR v 1 8
theorem goodWS (x y u v : Int) (w : World) :
    Calls Try.prog 7 #[.agg #[.int .i64 x, .int .i64 y, .int .i64 u, .int .i64 v]] w fun e w' => e = .returned (.bool (gW x y u v)) ∧ Below w.heap.size w w' := by
  unfold gW
  cases h0 : inR x (-20) 20
  · have C0 := hide (fun w => inS8 x (-20) 20 w)
    rw [h0] at C0
    go_enter Try.func7, Try.ntmps7
    go_wp2_with fail
    refine (unhide C0 _).mono ?_
    rintro e w1 ⟨rfl, rfl⟩
    go_wp2_with fail
    go_ret
    exact ⟨rfl, (Below.refl _ _).alloc (Nat.le_refl _) _⟩
  · skip
    cases h1 : inR y (-20) 20
    · have C0 := hide (fun w => inS8 x (-20) 20 w)
      have C1 := hide (fun w => inS8 y (-20) 20 w)
      rw [h0] at C0
      rw [h1] at C1
      go_enter Try.func7, Try.ntmps7
      go_wp2_with fail
      refine (unhide C0 _).mono ?_
      rintro e w1 ⟨rfl, rfl⟩
      go_wp2_with fail
      refine (unhide C1 _).mono ?_
      rintro e w2 ⟨rfl, rfl⟩
      go_wp2_with fail
      go_ret
      exact ⟨rfl, (Below.refl _ _).alloc (Nat.le_refl _) _⟩
    · skip
      cases h2 : inR u 1 8
      · have C0 := hide (fun w => inS8 x (-20) 20 w)
        have C1 := hide (fun w => inS8 y (-20) 20 w)
        have C2 := hide (fun w => inS8 u 1 8 w)
        rw [h0] at C0
        rw [h1] at C1
        rw [h2] at C2
        go_enter Try.func7, Try.ntmps7
        go_wp2_with fail
        refine (unhide C0 _).mono ?_
        rintro e w1 ⟨rfl, rfl⟩
        go_wp2_with fail
        refine (unhide C1 _).mono ?_
        rintro e w2 ⟨rfl, rfl⟩
        go_wp2_with fail
        refine (unhide C2 _).mono ?_
        rintro e w3 ⟨rfl, rfl⟩
        go_wp2_with fail
        go_ret
        exact ⟨rfl, (Below.refl _ _).alloc (Nat.le_refl _) _⟩
      · skip
        have C0 := hide (fun w => inS8 x (-20) 20 w)
        have C1 := hide (fun w => inS8 y (-20) 20 w)
        have C2 := hide (fun w => inS8 u 1 8 w)
        have C3 := hide (fun w => inS8 v 1 8 w)
        rw [h0] at C0
        rw [h1] at C1
        rw [h2] at C2
        generalize inR v 1 8 = r at *
        go_enter Try.func7, Try.ntmps7
        go_wp2_with fail
        refine (unhide C0 _).mono ?_
        rintro e w1 ⟨rfl, rfl⟩
        go_wp2_with fail
        refine (unhide C1 _).mono ?_
        rintro e w2 ⟨rfl, rfl⟩
        go_wp2_with fail
        refine (unhide C2 _).mono ?_
        rintro e w3 ⟨rfl, rfl⟩
        go_wp2_with fail
        refine (unhide C3 _).mono ?_
        rintro e w4 ⟨rfl, rfl⟩
        go_wp2_with fail
        go_ret
        exact ⟨rfl, (Below.refl _ _).alloc (Nat.le_refl _) _⟩
theorem goodWI (x y u v : Int) (w : World) :
    Calls Try.prog 9 #[.agg #[.int .i64 x, .int .i64 y, .int .i64 u, .int .i64 v]] w fun e w' => e = .returned (.bool (gW x y u v)) ∧ Below w.heap.size w w' := by
  unfold gW
  cases h0 : inR x (-20) 20
  · have C0 := hide (fun w => withinI x 20 w (by omega) (by omega))
    rw [h0] at C0
    go_enter Try.func9, Try.ntmps9
    go_wp2_with fail
    refine (unhide C0 _).mono ?_
    rintro e w1 ⟨rfl, rfl⟩
    go_wp2_with fail
    go_ret
    exact ⟨rfl, (Below.refl _ _).alloc (Nat.le_refl _) _⟩
  · skip
    cases h1 : inR y (-20) 20
    · have C0 := hide (fun w => withinI x 20 w (by omega) (by omega))
      have C1 := hide (fun w => withinI y 20 w (by omega) (by omega))
      rw [h0] at C0
      rw [h1] at C1
      go_enter Try.func9, Try.ntmps9
      go_wp2_with fail
      refine (unhide C0 _).mono ?_
      rintro e w1 ⟨rfl, rfl⟩
      go_wp2_with fail
      refine (unhide C1 _).mono ?_
      rintro e w2 ⟨rfl, rfl⟩
      go_wp2_with fail
      go_ret
      exact ⟨rfl, (Below.refl _ _).alloc (Nat.le_refl _) _⟩
    · skip
      cases h2 : inR u 1 8
      · have C0 := hide (fun w => withinI x 20 w (by omega) (by omega))
        have C1 := hide (fun w => withinI y 20 w (by omega) (by omega))
        have C2 := hide (fun w => goodWide u w)
        rw [h0] at C0
        rw [h1] at C1
        rw [h2] at C2
        go_enter Try.func9, Try.ntmps9
        go_wp2_with fail
        refine (unhide C0 _).mono ?_
        rintro e w1 ⟨rfl, rfl⟩
        go_wp2_with fail
        refine (unhide C1 _).mono ?_
        rintro e w2 ⟨rfl, rfl⟩
        go_wp2_with fail
        refine (unhide C2 _).mono ?_
        rintro e w3 ⟨rfl, rfl⟩
        go_wp2_with fail
        go_ret
        exact ⟨rfl, (Below.refl _ _).alloc (Nat.le_refl _) _⟩
      · skip
        have C0 := hide (fun w => withinI x 20 w (by omega) (by omega))
        have C1 := hide (fun w => withinI y 20 w (by omega) (by omega))
        have C2 := hide (fun w => goodWide u w)
        have C3 := hide (fun w => goodWide v w)
        rw [h0] at C0
        rw [h1] at C1
        rw [h2] at C2
        generalize inR v 1 8 = r at *
        go_enter Try.func9, Try.ntmps9
        go_wp2_with fail
        refine (unhide C0 _).mono ?_
        rintro e w1 ⟨rfl, rfl⟩
        go_wp2_with fail
        refine (unhide C1 _).mono ?_
        rintro e w2 ⟨rfl, rfl⟩
        go_wp2_with fail
        refine (unhide C2 _).mono ?_
        rintro e w3 ⟨rfl, rfl⟩
        go_wp2_with fail
        refine (unhide C3 _).mono ?_
        rintro e w4 ⟨rfl, rfl⟩
        go_wp2_with fail
        go_ret
        exact ⟨rfl, (Below.refl _ _).alloc (Nat.le_refl _) _⟩
end Go.Proofs.Ytakhgfecjghkpaa
