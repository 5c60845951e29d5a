/- Quotients of limbs and greatest common divisors: the program's divLimbs and gcdLimbs. No condition beyond those typed. -/
import Derived.Test.YtdgonpbponnnaaaDoorDivG
namespace Go.Proofs.YtdgonpbponnnaaaDoor
open Go.RowKit
set_option linter.unusedVariables false
set_option maxRecDepth 100000
set_option linter.unusedSimpArgs false

theorem clone_any (a : Option Addr) (n c : Nat) (xs : List Int) (w : World) (hx : Arg w a n c xs) (h1 : n ≤ 1048576) :
    Calls Tryd.prog 65 #[.slice a n c] w fun e w' => ∃ a1 c1, e = .returned (.slice a1 n c1) ∧ Below w.heap.size w w' ∧ Own w.heap.size w' a1 xs ∧ Arg w' a1 n c1 xs := by
  rcases hx.addr with ⟨rfl, rfl⟩ | ⟨b, off, rfl⟩
  · have h0 : n = 0 := by have := hx.cap; omega
    subst h0
    have e0 : xs = [] := List.length_eq_zero_iff.1 hx.len
    subst e0
    refine (clone_none 0 w).mono ?_
    rintro e w1 ⟨rfl, rfl⟩
    exact ⟨none, 0, rfl, Below.refl _ _, .inl rfl, Arg.none _⟩
  · refine (clone_some b off n c xs w hx.sl hx.len h1).mono ?_
    rintro e w1 ⟨g, c1, rfl, hb, hown⟩
    have ho := Own.of_owns hown hx.len
    have hc1 : n ≤ c1 ∧ c1 ≤ maxLen := by
      rcases hown.2 with ⟨h', _⟩ | ⟨g', cap', cur, h', hg, _, q1, q2, _⟩
      · simp at h'
      · simp only [Value.slice.injEq, Option.some.injEq, Addr.mk.injEq, and_true, true_and] at h'
        obtain ⟨rfl, rfl⟩ := h'
        exact ⟨q1, q2⟩
    exact ⟨_, c1, rfl, hb, ho, ⟨ho.sl, hx.len, hc1.1, hc1.2, .inr ⟨_, _, rfl⟩⟩⟩

theorem div_small {X Y : Int} (h0 : 0 ≤ X) (h : X < Y) : X / Y = 0 ∧ X % Y = X := ⟨Int.ediv_eq_zero_of_lt h0 h, Int.emod_eq_of_lt h0 h⟩
theorem val_one {ys : List Int} (h : ys.length = 1) : val ys = ys.getD 0 0 := by
  match ys, h with
  | [y], _ => simp [val]

/-- The greatest common divisor, by quotients. -/
theorem gcd_step (A B : Nat) (h : 0 < B) : Nat.gcd A B = Nat.gcd B (A % B) := by rw [Nat.gcd_comm A B, Nat.gcd_rec B A, Nat.gcd_comm]
theorem Nm.le {zs : List Int} {V : Int} {n : Nat} {W : List Int} (h : Nm zs V) (hW : okL W) (hl : W.length = n) (hv : V ≤ val W) : zs.length ≤ n := by
  rw [← hl]
  exact len_of_val hW h.ok h.tr (by rw [h.v]; exact hv)

/-- The limbs that a slice leads to, read off the world: for the measure of a loop. -/
def rdAt (w : World) (b off i : Nat) : Int := match w.cell? ⟨b, off + i, none⟩ with | some (.int _ x) => x | _ => 0
def rd (w : World) (v : Value) : List Int := match v with | .slice (some ⟨b, off, _⟩) n _ => (List.range n).map (rdAt w b off) | _ => []
theorem rd_arg {w : World} {a : Option Addr} {n c : Nat} {xs : List Int} (h : Arg w a n c xs) : rd w (.slice a n c) = xs := by
  rcases h.sl with rfl | ⟨b, off, rfl, _, hc⟩
  · have : n = 0 := by have := h.len; simpa using this.symm
    subst this
    unfold rd
    split
    · rename_i e; simp only [Value.slice.injEq] at e; obtain ⟨_, e2, _⟩ := e; subst e2; rfl
    · rfl
  · show (List.range n).map (rdAt w b off) = xs
    apply List.ext_getElem?
    intro i
    rw [List.getElem?_map, ← h.len]
    by_cases hi : i < xs.length
    · rw [List.getElem?_range hi]
      simp only [Option.map_some, rdAt, hc i hi]
      simp [hi]
    · rw [List.getElem?_eq_none (by simp; omega), List.getElem?_eq_none (by omega)]; rfl

end Go.Proofs.YtdgonpbponnnaaaDoor
