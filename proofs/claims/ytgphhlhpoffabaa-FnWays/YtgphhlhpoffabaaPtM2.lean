/- Two slices of points as an answer: marks, and what is told of them. No condition beyond those typed. -/
import Derived.Test.YtgphhlhpoffabaaPtM
namespace Go.Proofs.Ytgphhlhpoffabaa
open Go.RowKit
set_option linter.unusedVariables false
set_option maxRecDepth 100000
set_option linter.unusedSimpArgs false

/-- Two slices of points of the call's own, apart from each other. -/
structure RtP2 (B : Nat) (w : World) (a1 : Option Addr) (n1 c1 : Nat) (L1 : List (Int × Int)) (a2 : Option Addr) (n2 c2 : Nat) (L2 : List (Int × Int)) : Prop where
  r1 : RtP B w a1 n1 c1 L1
  r2 : RtP B w a2 n2 c2 L2
  apart : ∀ G, a1 = some ⟨G, 0, none⟩ → a2 ≠ some ⟨G, 0, none⟩
theorem RtP2.later {B : Nat} {w w' : World} {a1 a2 : Option Addr} {n1 c1 n2 c2 : Nat} {L1 L2 : List (Int × Int)} (h : RtP2 B w a1 n1 c1 L1 a2 n2 c2 L2) (hb : Below w.heap.size w w') : RtP2 B w' a1 n1 c1 L1 a2 n2 c2 L2 := ⟨h.r1.later hb, h.r2.later hb, h.apart⟩
theorem RtP2.keep {B G : Nat} {w w' : World} {a1 a2 : Option Addr} {n1 c1 n2 c2 : Nat} {L1 L2 : List (Int × Int)} (h : RtP2 B w a1 n1 c1 L1 a2 n2 c2 L2) (hb : But G (G + 1) w w') (hG : G < B) : RtP2 B w' a1 n1 c1 L1 a2 n2 c2 L2 := ⟨h.r1.keep hb hG, h.r2.keep hb hG, h.apart⟩
/-- Marks of one of two. -/
theorem markOne (B : Nat) (a1 : Option Addr) (n1 c1 : Nat) (L1 : List (Int × Int)) (a2 : Option Addr) (n2 c2 : Nat) (L2 : List (Int × Int)) (k : Int) (w : World) (h : RtP B w a1 n1 c1 L1) (g : RtP B w a2 n2 c2 L2) (ap : ∀ G, a1 = some ⟨G, 0, none⟩ → a2 ≠ some ⟨G, 0, none⟩) (h1 : n1 ≤ 1048576) (k0 : 0 ≤ k) (k1 : k ≤ 1000000) (hB : B ≤ w.heap.size) :
    Calls Try.prog 40 #[.slice a1 n1 c1, .int .i64 k] w fun e w' => e = .returned (.int .i64 (k + 2 * n1)) ∧ Below B w w' ∧ RtP B w' a1 n1 c1 (mks k n1) ∧ RtP B w' a2 n2 c2 L2 := by
  rcases h.own with h0 | ⟨G, rfl, hG, ho⟩
  · subst h0
    go_enter Try.func40, Try.ntmps40
    go_wp2
    refine wp_loop_rounds 1 ?_
    rw [rounds_succ]
    go_wp2
    go_ret
    exact ⟨by simp, Below.refl _ _, ⟨rfl, .inl rfl⟩, g⟩
  · refine (markPs G n1 c1 k L1 w ho h1 k0 k1).mono ?_
    rintro e w1 ⟨rfl, hb, o1⟩
    refine ⟨rfl, hb.below (Below.refl _ _) hG hB, ⟨mks_len k n1, .inr ⟨G, rfl, hG, o1⟩⟩, ⟨g.len, ?_⟩⟩
    rcases g.own with h2 | ⟨G2, rfl, hG2, ho2⟩
    · exact .inl h2
    · have e : G2 ≠ G := fun e => ap G rfl (by rw [e])
      exact .inr ⟨G2, rfl, hG2, ho2.keep hb (by omega)⟩
end Go.Proofs.Ytgphhlhpoffabaa
