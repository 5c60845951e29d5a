/- Slices of points that are written: marks, and what is told of them. No condition beyond those typed. -/
import Derived.Test.YtoffondgdnmhkaaDoorRRRPtH
namespace Go.Proofs.YtoffondgdnmhkaaDoorRRR
open Go.RowKit
set_option linter.unusedVariables false
set_option maxRecDepth 100000
set_option linter.unusedSimpArgs false

/-- Points that lie in a block below B. -/
def SlB8 (w : World) (B : Nat) (a : Option Addr) (l : List (Int × Int)) : Prop := l = [] ∨ ∃ b off, a = some ⟨b, off, none⟩ ∧ b < B ∧ b < w.heap.size ∧ ∀ i (h : i < l.length), w.cell? ⟨b, off + i * 2, none⟩ = some (.int .i64 l[i].1) ∧ w.cell? ⟨b, off + i * 2 + 1, none⟩ = some (.int .i64 l[i].2)
theorem SlP.below8 {w : World} {a : Option Addr} {l : List (Int × Int)} (h : SlP w a l) : SlB8 w w.heap.size a l := by
  rcases h with h | ⟨b, off, e, h1, h2⟩
  · exact .inl h
  · exact .inr ⟨b, off, e, h1, h1, h2⟩
theorem SlB8.sl {w : World} {B : Nat} {a : Option Addr} {l : List (Int × Int)} (h : SlB8 w B a l) : SlP w a l := by
  rcases h with h | ⟨b, off, e, h1, h2, h3⟩
  · exact .inl h
  · exact .inr ⟨b, off, e, h2, h3⟩
theorem SlB8.keep {w w' : World} {B lo hi : Nat} {a : Option Addr} {l : List (Int × Int)} (h : SlB8 w B a l) (hb : But lo hi w w') (hB : B ≤ lo) : SlB8 w' B a l := by
  rcases h with h | ⟨b, off, e, h1, h2, h3⟩
  · exact .inl h
  · exact .inr ⟨b, off, e, h1, Nat.lt_of_lt_of_le h2 hb.size, fun i hi => ⟨hb.cell (h3 i hi).1 (.inl (by omega)), hb.cell (h3 i hi).2 (.inl (by omega))⟩⟩
theorem SlB8.later {w w' : World} {B : Nat} {a : Option Addr} {l : List (Int × Int)} (h : SlB8 w B a l) (hb : Below w.heap.size w w') : SlB8 w' B a l := h.keep (But.of_below (lo := B) (hi := B) hb) (Nat.le_refl _)
theorem OwP.keep {w w' : World} {G n c lo hi : Nat} {l : List (Int × Int)} (h : OwP w G n c l) (hb : But lo hi w w') (hG : G < lo ∨ hi ≤ G) : OwP w' G n c l := by
  obtain ⟨M, hr, hM⟩ := h.row
  refine ⟨⟨M, ⟨hr.1, ?_⟩, hM⟩, h.len⟩
  rcases hr.2 with ⟨h', _⟩ | ⟨g', cap, cur, hv, h1, hg, r⟩
  · simp at h'
  · refine .inr ⟨g', cap, cur, hv, h1, ?_, r⟩
    have e : g' = G := by simp only [Value.slice.injEq, Option.some.injEq, Addr.mk.injEq, and_true, true_and] at hv; exact hv.1.symm
    subst e
    rw [hb.block _ (Array.getElem?_eq_some_iff.1 hg).1 hG]
    exact hg
theorem OwP.lt {w : World} {G n c : Nat} {l : List (Int × Int)} (h : OwP w G n c l) : G < w.heap.size := by
  obtain ⟨M, hr, _⟩ := h.row
  rcases hr.2 with ⟨h', _⟩ | ⟨g', cap, cur, hv, h1, hg, r⟩
  · simp at h'
  · have e : g' = G := by simp only [Value.slice.injEq, Option.some.injEq, Addr.mk.injEq, and_true, true_and] at hv; exact hv.1.symm
    subst e
    exact (Array.getElem?_eq_some_iff.1 hg).1
/-- n points that bear the numbers from k on. -/
def mks (k : Int) (n : Nat) : List (Int × Int) := (List.range n).map (fun i : Nat => (k + 2 * (i : Int), k + 2 * (i : Int) + 1))
theorem mks_len (k : Int) (n : Nat) : (mks k n).length = n := by simp [mks]
theorem mks_at {k : Int} {n i : Nat} (h : i < (mks k n).length) : (mks k n)[i] = (k + 2 * (i : Int), k + 2 * (i : Int) + 1) := by simp [mks]
/-- An answer that is a slice of points of the call's own. -/
structure RtP (B : Nat) (w : World) (a : Option Addr) (n c : Nat) (l : List (Int × Int)) : Prop where
  len : l.length = n
  own : (n = 0) ∨ ∃ G, a = some ⟨G, 0, none⟩ ∧ B ≤ G ∧ OwP w G n c l
theorem RtP.later {B : Nat} {w w' : World} {a : Option Addr} {n c : Nat} {l : List (Int × Int)} (h : RtP B w a n c l) (hb : Below w.heap.size w w') : RtP B w' a n c l := by
  refine ⟨h.len, ?_⟩
  rcases h.own with h0 | ⟨G, e, hB, ho⟩
  · exact .inl h0
  · exact .inr ⟨G, e, hB, ho.later hb⟩
theorem RtP.keep {B G : Nat} {w w' : World} {a : Option Addr} {n c : Nat} {l : List (Int × Int)} (h : RtP B w a n c l) (hb : But G (G + 1) w w') (hG : G < B) : RtP B w' a n c l := by
  refine ⟨h.len, ?_⟩
  rcases h.own with h0 | ⟨G', e, hB, ho⟩
  · exact .inl h0
  · exact .inr ⟨G', e, hB, ho.keep hb (.inr (by omega))⟩
theorem RtP.sl {B : Nat} {w : World} {a : Option Addr} {n c : Nat} {l : List (Int × Int)} (h : RtP B w a n c l) : SlP w a l := by
  rcases h.own with h0 | ⟨G, rfl, hB, ho⟩
  · exact .inl (List.length_eq_zero_iff.1 (h.len.trans h0))
  · exact ho.arg.sl
theorem below_but8 {B : Nat} {w w' : World} (h : Below B w w') {hi : Nat} (hh : w.heap.size ≤ hi) : But B hi w w' := ⟨h.os, h.tape, h.output, h.size, fun k hk hj => h.block k (by omega)⟩
end Go.Proofs.YtoffondgdnmhkaaDoorRRR
