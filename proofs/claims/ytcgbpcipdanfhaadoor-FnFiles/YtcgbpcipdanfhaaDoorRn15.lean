/- Rows of pairs of one's own that grow and whose last one is turned; the runs of a row. No condition beyond those typed. Written by mkru15.py. -/
import Derived.Test.YtcgbpcipdanfhaaDoorGr15
namespace Go.Proofs.YtcgbpcipdanfhaaDoor
open Go.RowKit
set_option linter.unusedVariables false
set_option maxRecDepth 100000
set_option linter.unusedSimpArgs false

/-- A row of pairs of one's own, in a block from B on (or the nil slice). -/
structure RwN (B : Nat) (w : World) (v : Value) (L : List (Int × Int)) : Prop where
  row : w.ownsRow B 66 2 v L.length (flatP L)
theorem flat_len15 : ∀ l : List (Int × Int), (flatP l).length = l.length * 2
  | [] => by simp [flatP]
  | p :: l => by
    have e : flatP (p :: l) = .int .i64 p.1 :: .int .i64 p.2 :: flatP l := by simp [flatP]
    rw [e]; simp [flat_len15 l]; omega
theorem RwN.later {B : Nat} {w w' : World} {v : Value} {L : List (Int × Int)} (h : RwN B w v L) (hb : Below w.heap.size w w') : RwN B w' v L := ⟨owns_laterR h.row hb⟩
theorem RwN.nil (B : Nat) (w : World) : RwN B w (.slice none 0 0) [] := ⟨rfl, .inl ⟨rfl, rfl⟩⟩
theorem RwN.mono {B B' : Nat} {w : World} {v : Value} {L : List (Int × Int)} (h : RwN B w v L) (hb : B' ≤ B) : RwN B' w v L := ⟨owns_mono h.row hb⟩
theorem RwN.open {B : Nat} {w : World} {v : Value} {L : List (Int × Int)} (h : RwN B w v L) :
    (v = .slice none 0 0 ∧ L = []) ∨ ∃ g c, v = .slice (some ⟨g, 0, none⟩) L.length c ∧ B ≤ g ∧ g < w.heap.size ∧ L.length ≤ c ∧ c ≤ maxLen ∧ ∀ i (h : i < L.length), w.cell? ⟨g, i * 2, none⟩ = some (.int .i64 L[i].1) ∧ w.cell? ⟨g, i * 2 + 1, none⟩ = some (.int .i64 L[i].2) := by
  rcases h.row.2 with h' | ⟨g, c, cur, hv, h1, hg, h2, h3, h4, h5⟩
  · exact .inl ⟨h'.1, List.length_eq_zero_iff.1 h'.2⟩
  · have ho := h.row
    rw [hv] at ho
    refine .inr ⟨g, c, hv, h1, (Array.getElem?_eq_some_iff.1 hg).1, h2, h3, fun i hi => ?_⟩
    have f := flatP_at L i hi
    have fl := flat_len15 L
    exact ⟨by rw [ho.cellAt _ (by omega)]; exact f.1, by rw [ho.cellAt _ (by omega)]; exact f.2⟩
theorem RwN.rt {B : Nat} {w : World} {v : Value} {L : List (Int × Int)} (h : RwN B w v L) : ∃ a c, v = .slice a L.length c ∧ RtP B w a L.length c L := own_rt h.row rfl
theorem new_cellN (w : World) (x y : Int) : ∀ j u, [Value.int .i64 x, Value.int .i64 y][j]? = some u → (w.alloc (.cells #[.int .i64 x, .int .i64 y] 66)).cell? ((⟨w.heap.size, 0, none⟩ : Addr).add j) = some u := by
  intro j u h
  match j, h with
  | 0, h => simp at h; subst h; simp [Addr.add, go_sem]
  | 1, h => simp at h; subst h; simp [Addr.add, go_sem]
  | j + 2, h => simp at h
theorem RwN.snoc {B : Nat} {w : World} {v : Value} {L : List (Int × Int)} {x y : Int} (h : w.ownsRow B 66 2 v (L.length + 1) (flatP L ++ [.int .i64 x, .int .i64 y])) : RwN B w v (L ++ [(x, y)]) := ⟨by rw [flatP_append, List.length_append, flatP_one]; exact h⟩
/-- The last one of a row: where it lies. -/
theorem RwN.last {B : Nat} {w : World} {v : Value} {D : List (Int × Int)} {x m : Int} (h : RwN B w v (D ++ [(x, m)])) :
    ∃ g c, v = .slice (some ⟨g, 0, none⟩) (D.length + 1) c ∧ B ≤ g ∧ g < w.heap.size ∧ D.length + 1 ≤ c ∧ c ≤ maxLen ∧ w.cell? ⟨g, D.length * 2, none⟩ = some (.int .i64 x) ∧ w.cell? ⟨g, D.length * 2 + 1, none⟩ = some (.int .i64 m) := by
  rcases h.open with ⟨rfl, e⟩ | ⟨g, c, e, h1, h2, h3, h4, h5⟩
  · exact absurd e (by simp)
  · have hl : (D ++ [(x, m)]).length = D.length + 1 := by simp
    have h6 := h5 D.length (by omega)
    rw [hl] at e h3
    simp only [List.getElem_append_right (Nat.le_refl _), Nat.sub_self, List.getElem_cons_zero] at h6
    exact ⟨g, c, e, h1, h2, h3, h4, h6.1, h6.2⟩
/-- .. and how it is turned. -/
theorem RwN.put {B g c : Nat} {w : World} {D : List (Int × Int)} {x m : Int} (h : RwN B w (.slice (some ⟨g, 0, none⟩) (D.length + 1) c) (D ++ [(x, m)])) (k : Int) :
    RwN B (w.setCell ⟨g, D.length * 2 + 1, none⟩ (.int .i64 k)) (.slice (some ⟨g, 0, none⟩) (D.length + 1) c) (D ++ [(x, k)]) := by
  have h1 := h.row
  rw [show (D ++ [(x, m)]).length = D.length + 1 by simp] at h1
  have h2 := (World.ownsRow.stored h1 (D.length * 2 + 1) (.int .i64 k)).1
  refine ⟨?_⟩
  rw [show (D ++ [(x, k)]).length = D.length + 1 by simp]
  have e : (flatP (D ++ [(x, m)])).set (D.length * 2 + 1) (.int .i64 k) = flatP (D ++ [(x, k)]) := by
    rw [flatP_append, flatP_append, flatP_one, flatP_one, ← flat_len15 D, List.set_append, if_neg (by omega)]
    rw [show (flatP D).length + 1 - (flatP D).length = 1 by omega]
    rfl
  rw [e] at h2
  exact h2
/-- .. both at once, by letters. -/
theorem RwN.tip {B : Nat} {w : World} {v : Value} {D : List (Int × Int)} {x m : Int} (h : RwN B w v (D ++ [(x, m)])) :
    ∃ g c n1 d, v = .slice (some ⟨g, 0, none⟩) n1 c ∧ (n1 = d + 1 ∧ D.length = d) ∧ B ≤ g ∧ g < w.heap.size ∧ n1 ≤ c ∧ c ≤ maxLen ∧ w.cell? ⟨g, d * 2, none⟩ = some (.int .i64 x) ∧ w.cell? ⟨g, d * 2 + 1, none⟩ = some (.int .i64 m) ∧ (∀ o, w.frozen? ⟨g, o, none⟩ = false) ∧ ∀ k, RwN B (w.setCell ⟨g, d * 2 + 1, none⟩ (.int .i64 k)) (.slice (some ⟨g, 0, none⟩) n1 c) (D ++ [(x, k)]) := by
  obtain ⟨g, c, rfl, h1, h2, h3, h4, h5, h6⟩ := h.last
  exact ⟨g, c, _, _, rfl, ⟨rfl, rfl⟩, h1, h2, h3, h4, h5, h6, fun o => by have hr := h.row; rw [show (D ++ [(x, m)]).length = D.length + 1 by simp] at hr; exact hr.frozenAt o, fun k => h.put k⟩
theorem set_bel15 {B g k : Nat} {W w : World} {u : Value} (hb : Below B W w) (h1 : B ≤ g) (h2 : g < w.heap.size) : Below B W (w.setCell ⟨g, k, none⟩ u) := ((But.refl _ _ w).set (p := ⟨g, k, none⟩) (Nat.le_refl g) (Nat.lt_succ_self g) u).below hb h1 (by omega)
theorem RtP.keep2 {B lo hi : Nat} {w w' : World} {a : Option Addr} {n c : Nat} {l : List (Int × Int)} (h : RtP B w a n c l) (hb : But lo hi w w') (hG : hi ≤ B) : RtP B w' a n c l := by
  refine ⟨h.len, ?_⟩
  rcases h.own with h0 | ⟨G', e, hB, ho⟩
  · exact .inl h0
  · exact .inr ⟨G', e, hB, ho.keep hb (.inr (by omega))⟩
/-- One byte more: it joins the last run, or begins one. -/
def rnS (L : List (Int × Int)) (x : Int) : List (Int × Int) := match L.getLast? with
  | some (y, m) => if y = x then L.dropLast ++ [(y, m + 1)] else L ++ [(x, 1)]
  | none => [(x, 1)]
def rns (xs : List Int) : List (Int × Int) := xs.foldl rnS []
theorem rns_snoc (l : List Int) (x : Int) : rns (l ++ [x]) = rnS (rns l) x := by unfold rns; rw [List.foldl_append]; rfl
theorem rnS_nil (x : Int) : rnS [] x = [(x, 1)] := rfl
theorem rnS_same (D : List (Int × Int)) (x m : Int) : rnS (D ++ [(x, m)]) x = D ++ [(x, m + 1)] := by simp [rnS]
theorem rnS_other (D : List (Int × Int)) {y x : Int} (m : Int) (h : y ≠ x) : rnS (D ++ [(y, m)]) x = D ++ [(y, m)] ++ [(x, 1)] := by simp [rnS, h]
theorem rns_last (xs : List Int) : ∀ k (hk : k < xs.length), ∃ D m, rns (xs.take (k + 1)) = D ++ [(xs.getD k 0, m)] ∧ 1 ≤ m ∧ m ≤ (k : Int) + 1 ∧ D.length ≤ k
  | 0, hk => by
    rw [take_succ14 hk, rns_snoc]
    refine ⟨[], 1, ?_, by omega, by omega, by simp⟩
    simp [rns, rnS]
  | k + 1, hk => by
    obtain ⟨D, m, e, h1, h2, h3⟩ := rns_last xs k (by omega)
    rw [take_succ14 hk, rns_snoc, e]
    by_cases c : xs.getD k 0 = xs.getD (k + 1) 0
    · rw [c, rnS_same]
      exact ⟨D, m + 1, rfl, by omega, by omega, by omega⟩
    · rw [rnS_other D m c]
      exact ⟨D ++ [(xs.getD k 0, m)], 1, rfl, by omega, by omega, by simp; omega⟩
theorem rns_len (xs : List Int) : (rns xs).length ≤ xs.length := by
  by_cases h : xs.length = 0
  · rw [List.length_eq_zero_iff.1 h]; simp [rns]
  · obtain ⟨D, m, e, h1, h2, h3⟩ := rns_last xs (xs.length - 1) (by omega)
    rw [show xs.length - 1 + 1 = xs.length by omega, List.take_length] at e
    rw [e]; simp; omega
/-- A row: at most 100 bytes. -/
def rB15 (xs : List Int) : Bool := decide (xs.length ≤ 100) && !xs.any byo
def rV15 (xs : List Int) : List (Int × Int) := if rB15 xs = true then rns xs else []
end Go.Proofs.YtcgbpcipdanfhaaDoor
