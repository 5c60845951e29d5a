/- Heads of pictures, and sides that fit. No condition beyond those typed. Written by mkpb15.py. -/
import Derived.Test.YtcgbpcipdanfhaaDoorNum15
import Derived.Test.YtcgbpcipdanfhaaDoorRu16
namespace Go.Proofs.YtcgbpcipdanfhaaDoor
open Go.RowKit
set_option linter.unusedVariables false
set_option maxRecDepth 100000
set_option linter.unusedSimpArgs false

theorem sideI15 (n : Int) (w : World) :
    Calls Tryd.prog 81 #[.int .i64 n] w fun e w' => e = .returned (.bool (inR n 1 10)) ∧ w' = w := by
  unfold inR
  cases d1 : decide (1 ≤ n) <;> cases d2 : decide (n ≤ 10) <;>
    (go_enter Tryd.func81, Tryd.ntmps81
     go_wp2
     go_ret
     exact ⟨rfl, rfl⟩)
theorem inS15 (n : Int) (w : World) : Calls Tryd.prog 63 #[.int .i64 n, .int .i64 1, .int .i64 10] w fun e w' => e = .returned (.bool (inR n 1 10)) ∧ w' = w := inS8 n 1 10 w
theorem inR_in15 {n : Int} (h : inR n 1 10 = true) : 1 ≤ n ∧ n ≤ 10 := by
  unfold inR at h
  simpa using h
/-- The sides of a picture fit its bytes. -/
def gP15 (w h m : Int) : Bool := inR w 1 10 && (inR h 1 10 && (m == w * h))
theorem gP_in15 {w h m : Int} (k : gP15 w h m = true) : (1 ≤ w ∧ w ≤ 10) ∧ (1 ≤ h ∧ h ≤ 10) ∧ m = w * h := by
  unfold gP15 at k
  have k1 := (Bool.and_eq_true _ _).mp k
  have k2 := (Bool.and_eq_true _ _).mp k1.2
  exact ⟨inR_in15 k1.1, inR_in15 k2.1, by simpa using k2.2⟩
theorem mul15 {w h : Int} (a : 1 ≤ w ∧ w ≤ 10) (b : 1 ≤ h ∧ h ≤ 10) : 1 ≤ w * h ∧ w * h ≤ 100 := by
  have c : w = 1 ∨ w = 2 ∨ w = 3 ∨ w = 4 ∨ w = 5 ∨ w = 6 ∨ w = 7 ∨ w = 8 ∨ w = 9 ∨ w = 10 := by omega
  rcases c with rfl | rfl | rfl | rfl | rfl | rfl | rfl | rfl | rfl | rfl <;> omega
theorem goodPicI (x y m : Int) (w : World) :
    Calls Tryd.prog 60 #[.int .i64 x, .int .i64 y, .int .i64 m] w fun e w' => e = .returned (.bool (gP15 x y m)) ∧ w' = w := by
  unfold gP15
  have C1 := hide (fun w => sideI15 x w)
  have C2 := hide (fun w => sideI15 y w)
  cases b1 : inR x 1 10
  · rw [b1] at C1
    clear b1 C2
    go_enter Tryd.func60, Tryd.ntmps60
    go_wp2_with fail
    refine (unhide C1 _).mono ?_
    rintro e w1 ⟨rfl, rfl⟩
    go_wp2_with fail
    go_ret
    exact ⟨rfl, rfl⟩
  · cases b2 : inR y 1 10
    · rw [b1] at C1
      rw [b2] at C2
      clear b1 b2
      go_enter Tryd.func60, Tryd.ntmps60
      go_wp2_with fail
      refine (unhide C1 _).mono ?_
      rintro e w1 ⟨rfl, rfl⟩
      go_wp2_with fail
      refine (unhide C2 _).mono ?_
      rintro e w2 ⟨rfl, rfl⟩
      go_wp2_with fail
      go_ret
      exact ⟨rfl, rfl⟩
    · have mb := mul15 (inR_in15 b1) (inR_in15 b2)
      have wm : IntKind.i64.wrap (x * y) = x * y := by rw [IntKind.wrap_i64]; omega
      rw [b1] at C1
      rw [b2] at C2
      have wm2 : wrap64 (x * y) = x * y := by unfold wrap64; omega
      clear b1 b2 mb
      go_enter Tryd.func60, Tryd.ntmps60
      go_wp2_with fail
      refine (unhide C1 _).mono ?_
      rintro e w1 ⟨rfl, rfl⟩
      go_wp2_with fail
      refine (unhide C2 _).mono ?_
      rintro e w2 ⟨rfl, rfl⟩
      go_wp2_with fail
      go_ret
      exact ⟨rfl, rfl⟩
/-- A picture's head. -/
def hd15 (x y : Nat) : List UInt8 := [80, 53, 10] ++ Lib.decDigits x ++ [32] ++ Lib.decDigits y ++ [10, 50, 53, 53, 10]
theorem hd_len {x y : Nat} (h1 : x ≤ 10) (h2 : y ≤ 10) : (hd15 x y).length ≤ 20 := by
  have a := dd_len 1 x (by omega)
  have b := dd_len 1 y (by omega)
  simp [hd15]; omega
/-- A row of bytes that is laid: the first i are these, noughts behind. -/
def yl15 (xs : List Int) (n i : Nat) : List Int := xs.take i ++ List.replicate (n - i) 0
theorem yl_len {xs : List Int} {n i : Nat} (hn : xs.length = n) (hi : i ≤ n) : (yl15 xs n i).length = n := by simp [yl15]; omega
theorem yl_set {xs : List Int} {n i : Nat} (hn : xs.length = n) (hi : i < n) : (yl15 xs n i).set i (xs.getD i 0) = yl15 xs n (i + 1) := by
  unfold yl15
  rw [take_succ14 (by omega), List.set_append, if_neg (by simp; omega), show n - i = (n - (i + 1)) + 1 by omega, List.replicate_succ, show i - (xs.take i).length = 0 by simp; omega, List.set_cons_zero, List.append_assoc]
  rfl
end Go.Proofs.YtcgbpcipdanfhaaDoor
