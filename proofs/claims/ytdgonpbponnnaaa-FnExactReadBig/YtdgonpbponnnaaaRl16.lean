/- A row of integers of one's own. No condition beyond those typed. Written by mkpd16.py. -/
import Derived.Test.YtdgonpbponnnaaaTwo
import Derived.Maps.AppendAt
namespace Go.Proofs.Ytdgonpbponnnaaa
open Go.RowKit
set_option linter.unusedVariables false
set_option maxRecDepth 100000
set_option linter.unusedSimpArgs false

structure RwI (B : Nat) (w : World) (v : Value) (L : List Int) : Prop where
  row : w.ownsRow B 3 1 v L.length (L.map (Value.int .i64))
theorem owns_laterR {B k : Nat} {t : TypeId} {w w' : World} {v : Value} {n : Nat} {xs : List Value} (h : w.ownsRow B t k v n xs) (hb : Below w.heap.size w w') : w'.ownsRow B t k v n xs := by
  refine ⟨h.1, ?_⟩
  rcases h.2 with h' | ⟨g', cap, cur, hv, h1, hg, r⟩
  · exact .inl h'
  · refine .inr ⟨g', cap, cur, hv, h1, ?_, r⟩
    rw [hb.block g' (Array.getElem?_eq_some_iff.1 hg).1]
    exact hg
theorem owns_belowR {B k : Nat} {t : TypeId} {W wr w1 : World} {o : Obj} {v : Value} {n : Nat} {xs : List Value} (hb : Below B W wr) (hB : B ≤ wr.heap.size) (hown : wr.ownsRow B t k v n xs) (hg : (wr.alloc o).grownBy w1 v.ownBlock) : Below B W w1 := by
  refine (hb.alloc hB o).grown hg (by simp; omega) (fun k hk => ?_)
  rcases hown.2 with ⟨h', _⟩ | ⟨g', cap, cur, hv, h1, _⟩
  · subst h'; simp [Value.ownBlock] at hk
  · subst hv; simp [Value.ownBlock] at hk; subst hk; exact h1
theorem RwI.later {B : Nat} {w w' : World} {v : Value} {L : List Int} (h : RwI B w v L) (hb : Below w.heap.size w w') : RwI B w' v L := ⟨owns_laterR h.row hb⟩
theorem RwI.nil (B : Nat) (w : World) : RwI B w (.slice none 0 0) [] := ⟨rfl, .inl ⟨rfl, rfl⟩⟩
theorem RwI.mono {B B' : Nat} {w : World} {v : Value} {L : List Int} (h : RwI B w v L) (hb : B' ≤ B) : RwI B' w v L := ⟨owns_mono h.row hb⟩
theorem RwI.open {B : Nat} {w : World} {v : Value} {L : List Int} (h : RwI B w v L) :
    (v = .slice none 0 0 ∧ L = []) ∨ ∃ g c, v = .slice (some ⟨g, 0, none⟩) L.length c ∧ B ≤ g ∧ g < w.heap.size ∧ L.length ≤ c ∧ c ≤ maxLen ∧ ∀ i (h : i < L.length), w.cell? ⟨g, i, none⟩ = some (.int .i64 L[i]) := by
  rcases h.row.2 with h' | ⟨g, c, cur, hv, h1, hg, h2, h3, h4, h5⟩
  · exact .inl ⟨h'.1, List.length_eq_zero_iff.1 h'.2⟩
  · have ho := h.row
    rw [hv] at ho
    refine .inr ⟨g, c, hv, h1, (Array.getElem?_eq_some_iff.1 hg).1, h2, h3, fun i hi => ?_⟩
    rw [ho.cellAt _ (by omega)]
    simp [hi]
theorem RwI.sl {B : Nat} {w : World} {v : Value} {L : List Int} (h : RwI B w v L) : ∃ a c, v = .slice a L.length c ∧ Sl w a L := by
  rcases h.open with ⟨rfl, rfl⟩ | ⟨g, c, rfl, h1, h2, h3, h4, h5⟩
  · exact ⟨none, 0, rfl, .inl rfl⟩
  · exact ⟨_, c, rfl, .inr ⟨g, 0, rfl, h2, fun i hi => by simpa [hi] using h5 i hi⟩⟩
theorem new_cellI (w : World) (x : Int) : ∀ j u, [Value.int .i64 x][j]? = some u → (w.alloc (.cells #[.int .i64 x] 3)).cell? ((⟨w.heap.size, 0, none⟩ : Addr).add j) = some u := by
  intro j u h
  match j, h with
  | 0, h => simp at h; subst h; simp [Addr.add, go_sem]
  | j + 1, h => simp at h
theorem RwI.snoc {B : Nat} {w : World} {v : Value} {L : List Int} {x : Int} (h : w.ownsRow B 3 1 v (L.length + 1) (L.map (Value.int .i64) ++ [.int .i64 x])) : RwI B w v (L ++ [x]) := ⟨by rw [List.map_append, List.length_append]; exact h⟩
theorem RwI.blk {B : Nat} {w : World} {v : Value} {L : List Int} (h : RwI B w v L) : ∀ k, v.ownBlock = some k → B ≤ k := by
  rcases h.open with ⟨rfl, _⟩ | ⟨g, c, rfl, hB, _⟩
  · intro k hk; simp [Value.ownBlock] at hk
  · intro k hk; simp [Value.ownBlock] at hk; subst hk; exact hB
theorem RwI.put15 {B g c : Nat} {w : World} {L : List Int} (h : RwI B w (.slice (some ⟨g, 0, none⟩) L.length c) L) (k : Nat) (x : Int) : RwI B (w.setCell ⟨g, k, none⟩ (.int .i64 x)) (.slice (some ⟨g, 0, none⟩) L.length c) (L.set k x) := by
  refine ⟨?_⟩
  rw [List.map_set, List.length_set]
  exact (World.ownsRow.stored h.row k (.int .i64 x)).1
end Go.Proofs.Ytdgonpbponnnaaa
