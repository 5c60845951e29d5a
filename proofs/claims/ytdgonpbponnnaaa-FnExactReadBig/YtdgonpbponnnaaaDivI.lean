/- Quotients of limbs and greatest common divisors: the program's divLimbs and gcdLimbs. No condition beyond those typed. -/
import Derived.Test.YtdgonpbponnnaaaDivG
namespace Go.Proofs.Ytdgonpbponnnaaa
open Go.RowKit
set_option linter.unusedVariables false
set_option maxRecDepth 100000
set_option linter.unusedSimpArgs false

theorem div_small {X Y : Int} (h0 : 0 ≤ X) (h : X < Y) : X / Y = 0 ∧ X % Y = X := ⟨Int.ediv_eq_zero_of_lt h0 h, Int.emod_eq_of_lt h0 h⟩
theorem val_one {ys : List Int} (h : ys.length = 1) : val ys = ys.getD 0 0 := by
  match ys, h with
  | [y], _ => simp [val]

/-- The greatest common divisor, by quotients. -/
theorem gcd_step (A B : Nat) (h : 0 < B) : Nat.gcd A B = Nat.gcd B (A % B) := by rw [Nat.gcd_comm A B, Nat.gcd_rec B A, Nat.gcd_comm]
theorem Nm.le {zs : List Int} {V : Int} {n : Nat} {W : List Int} (h : Nm zs V) (hW : okL W) (hl : W.length = n) (hv : V ≤ val W) : zs.length ≤ n := by
  rw [← hl]
  exact len_of_val hW h.ok h.tr (by rw [h.v]; exact hv)

/-- The limbs that a slice leads to, read off the world: for the measure of a loop. -/
def rdAt (w : World) (b off i : Nat) : Int := match w.cell? ⟨b, off + i, none⟩ with | some (.int _ x) => x | _ => 0
def rd (w : World) (v : Value) : List Int := match v with | .slice (some ⟨b, off, _⟩) n _ => (List.range n).map (rdAt w b off) | _ => []
theorem rd_arg {w : World} {a : Option Addr} {n c : Nat} {xs : List Int} (h : Arg w a n c xs) : rd w (.slice a n c) = xs := by
  rcases h.sl with rfl | ⟨b, off, rfl, _, hc⟩
  · have : n = 0 := by have := h.len; simpa using this.symm
    subst this
    unfold rd
    split
    · rename_i e; simp only [Value.slice.injEq] at e; obtain ⟨_, e2, _⟩ := e; subst e2; rfl
    · rfl
  · show (List.range n).map (rdAt w b off) = xs
    apply List.ext_getElem?
    intro i
    rw [List.getElem?_map, ← h.len]
    by_cases hi : i < xs.length
    · rw [List.getElem?_range hi]
      simp only [Option.map_some, rdAt, hc i hi]
      simp [hi]
    · rw [List.getElem?_eq_none (by simp; omega), List.getElem?_eq_none (by omega)]; rfl

end Go.Proofs.Ytdgonpbponnnaaa
