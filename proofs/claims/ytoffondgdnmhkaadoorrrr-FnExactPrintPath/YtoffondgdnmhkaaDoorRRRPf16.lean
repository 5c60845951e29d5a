/- Texts of paths: plain facts; rows of texts of one's own that grow. No condition beyond those typed. Written by mkpp16.py. -/
import Derived.Test.YtoffondgdnmhkaaDoorRRRNt16
import Derived.Test.YtoffondgdnmhkaaDoorRRRGw16
import Derived.Test.YtoffondgdnmhkaaDoorRRRRw11
import Derived.Lib.Join
import Derived.OwnWalk
import Derived.Maps.AppendAt
namespace Go.Proofs.YtoffondgdnmhkaaDoorRRR
open Go.RowKit
set_option linter.unusedVariables false
set_option maxRecDepth 100000
set_option linter.unusedSimpArgs false

/-- The letter ahead of a way's point. -/
def ltr (k : Nat) : UInt8 := if k = 0 then 77 else 76
def pw3 (k : Nat) (p : Int × Int) : List (List UInt8) := [[ltr k], Lib.itoa p.1, Lib.itoa p.2]
/-- The words of the first k points of a way; of the first i ways. -/
def wdP (l : List (Int × Int)) : Nat → List (List UInt8)
  | 0 => []
  | k + 1 => wdP l k ++ pw3 k (l.getD k (0, 0))
def wdW (D : List (List (Int × Int))) : Nat → List (List UInt8)
  | 0 => []
  | i + 1 => wdW D i ++ wdP (D.getD i []) (D.getD i []).length ++ [[90]]
def pt3 (k : Nat) (p : Int × Int) : List UInt8 := [ltr k] ++ [32] ++ (Lib.itoa p.1 ++ [32] ++ (Lib.itoa p.2 ++ [32]))
/-- Their texts. -/
def txP (l : List (Int × Int)) : Nat → List UInt8
  | 0 => []
  | k + 1 => txP l k ++ pt3 k (l.getD k (0, 0))
def txA (D : List (List (Int × Int))) (i : Nat) (T : List UInt8) : List UInt8 := if i = 0 then [] else T ++ [32]
def txW (D : List (List (Int × Int))) : Nat → List UInt8
  | 0 => []
  | i + 1 => txA D i (txW D i) ++ txP (D.getD i []) (D.getD i []).length ++ [90]
def sepL (ws : List (List UInt8)) : List UInt8 := (ws.map (· ++ [32])).flatten
theorem sepL_app (a b : List (List UInt8)) : sepL (a ++ b) = sepL a ++ sepL b := by simp [sepL]
theorem join_sep : ∀ ws : List (List UInt8), ws ≠ [] → Lib.join ws [32] ++ [32] = sepL ws
  | [x], _ => by simp [Lib.join_one, sepL]
  | x :: y :: r, _ => by
    have ih := join_sep (y :: r) (by simp)
    rw [Lib.join_cons] at ih ⊢
    rw [show sepL (x :: y :: r) = x ++ [32] ++ sepL (y :: r) by simp [sepL], ← ih]
    simp [Lib.joinTail]
theorem sep_wdP (l : List (Int × Int)) : ∀ k, sepL (wdP l k) = txP l k
  | 0 => rfl
  | k + 1 => by
    unfold wdP txP
    rw [sepL_app, sep_wdP l k]
    congr 1
    simp [sepL, pw3, pt3]
theorem sep_wdW (D : List (List (Int × Int))) : ∀ i, sepL (wdW D i) = txA D i (txW D i)
  | 0 => rfl
  | i + 1 => by
    unfold wdW
    have e1 : ∀ T, txA D (i + 1) T = T ++ [32] := fun T => by unfold txA; rw [if_neg (by omega)]
    rw [sepL_app, sepL_app, sep_wdW D i, sep_wdP, e1, show txW D (i + 1) = txA D i (txW D i) ++ txP (D.getD i []) (D.getD i []).length ++ [90] from rfl]
    simp [sepL]
theorem join_wdW (D : List (List (Int × Int))) {i : Nat} (h : 1 ≤ i) : Lib.join (wdW D i) [32] = txW D i := by
  have ne : wdW D i ≠ [] := by
    obtain ⟨j, rfl⟩ : ∃ j, i = j + 1 := ⟨i - 1, by omega⟩
    simp [wdW]
  have e := join_sep _ ne
  rw [sep_wdW] at e
  unfold txA at e
  rw [if_neg (by omega)] at e
  exact List.append_cancel_right e
/-- Numbers of a way that is good. -/
def NrW (l : List (Int × Int)) : Prop := l.length ≤ 12 ∧ ∀ k (h : k < l.length), (-1000 ≤ l[k].1 ∧ l[k].1 ≤ 1000) ∧ (-1000 ≤ l[k].2 ∧ l[k].2 ≤ 1000)
theorem nrW_of {l : List (Int × Int)} (h : wayB l = true) : NrW l := by
  unfold wayB at h
  have h1 := (Bool.and_eq_true _ _).mp h
  have h2 := inR_le h1.1
  refine ⟨by omega, fun k hk => ?_⟩
  have h3 := List.all_eq_true.1 h1.2 l[k] (List.getElem_mem _)
  simp [gPt, inR] at h3
  omega
theorem gWs_at {rs : List RW} (h : gWs (dW rs) = true) : rs.length ≤ 4 ∧ 1 ≤ rs.length ∧ ∀ r ∈ rs, NrW r.l := by
  unfold gWs at h
  have h1 := (Bool.and_eq_true _ _).mp h
  have h2 := inR_le h1.1
  rw [dW_len] at h2
  refine ⟨by omega, by omega, fun r hr => nrW_of ?_⟩
  rw [dW_all] at h1
  exact List.all_eq_true.1 h1.2 r hr
theorem pt3_len {k : Nat} {p : Int × Int} (h1 : -1000 ≤ p.1 ∧ p.1 ≤ 1000) (h2 : -1000 ≤ p.2 ∧ p.2 ≤ 1000) : (pt3 k p).length ≤ 14 := by
  have a := itoa_len (n := p.1) (by omega) (by omega)
  have b := itoa_len (n := p.2) (by omega) (by omega)
  simp [pt3]; omega
theorem txP_len {l : List (Int × Int)} (h : NrW l) : ∀ k, k ≤ l.length → (txP l k).length ≤ 14 * k
  | 0, _ => by simp [txP]
  | k + 1, hk => by
    have ih := txP_len h k (by omega)
    have e : l.getD k (0, 0) = l[k]'(by omega) := by simp [List.getD, show k < l.length by omega]
    have r := pt3_len (k := k) (h.2 k (by omega)).1 (h.2 k (by omega)).2
    unfold txP
    rw [e, List.length_append]
    omega
theorem dW_at {rs : List RW} {i : Nat} (hi : i < rs.length) : (dW rs).getD i [] = rs[i].l := by simp [dW, List.getD, hi]
theorem txW_len {rs : List RW} (h : ∀ r ∈ rs, NrW r.l) : ∀ i, i ≤ rs.length → (txW (dW rs) i).length ≤ 170 * i
  | 0, _ => by simp [txW]
  | i + 1, hi => by
    have ih := txW_len h i (by omega)
    have n := h rs[i] (List.getElem_mem _)
    have r := txP_len n rs[i].l.length (Nat.le_refl _)
    have m := n.1
    unfold txW
    rw [dW_at (show i < rs.length by omega), List.length_append, List.length_append]
    unfold txA
    split <;> simp <;> omega
theorem wdP_len (l : List (Int × Int)) : ∀ k, (wdP l k).length = 3 * k
  | 0 => rfl
  | k + 1 => by unfold wdP; rw [List.length_append, wdP_len l k]; simp [pw3]; omega
theorem wdW_len {rs : List RW} (h : ∀ r ∈ rs, NrW r.l) : ∀ i, i ≤ rs.length → (wdW (dW rs) i).length ≤ 37 * i
  | 0, _ => by simp [wdW]
  | i + 1, hi => by
    have ih := wdW_len h i (by omega)
    have n := h rs[i] (List.getElem_mem _)
    have m := n.1
    unfold wdW
    rw [dW_at (show i < rs.length by omega), List.length_append, List.length_append, wdP_len]
    simp; omega
/-- A row of texts of one's own, in a block from B on. -/
structure RwX (B : Nat) (w : World) (v : Value) (n : Nat) (L : List Value) : Prop where
  row : w.ownsRow B 9 1 v n L
theorem RwX.later {B n : Nat} {w w' : World} {v : Value} {L : List Value} (h : RwX B w v n L) (hb : Below w.heap.size w w') : RwX B w' v n L := ⟨owns_laterR h.row hb⟩
def svX (ws : List (List UInt8)) : List Value := ws.map (fun x => Value.string (st x))
theorem svX_app (a b : List (List UInt8)) : svX (a ++ b) = svX a ++ svX b := by simp [svX]
theorem svX_len (a : List (List UInt8)) : (svX a).length = a.length := by simp [svX]
theorem emptyX (w : World) : RwX w.heap.size (w.alloc (.cells #[] 9)) (.slice (some ⟨w.heap.size, 0, none⟩) 0 0) 0 (svX []) := by
  refine ⟨⟨rfl, .inr ⟨w.heap.size, 0, #[], rfl, Nat.le_refl _, ?_, by simp, by simp, by simp, rfl⟩⟩⟩
  show (w.heap.push _)[w.heap.size]? = _
  simp
theorem RwX.open {B n : Nat} {w : World} {v : Value} {L : List Value} (h : RwX B w v n L) (hn : 1 ≤ n) :
    ∃ g c, v = .slice (some ⟨g, 0, none⟩) n c ∧ B ≤ g ∧ g < w.heap.size ∧ n ≤ c ∧ ∀ i, i < n → w.cell? ⟨g, i, none⟩ = L[i]? := by
  rcases h.row.2 with h' | ⟨g, c, cur, hv, h1, hg, h2, h3, h4, h5⟩
  · omega
  · have ho := h.row
    rw [hv] at ho
    exact ⟨g, c, hv, h1, (Array.getElem?_eq_some_iff.1 hg).1, h2, fun i hi => by rw [ho.cellAt _ (by have := ho.1; omega)]⟩
theorem step_app16 {P : Program} {ops : Array Oper} {o : Oper} {a : Act} {w : World} {K : Act → World → Prop} {Q : Exit → Act → World → Prop} {E : Prop} (hgd : o.guard = none) (s x : Operand) (t : TypeId)
    (ho : o.op = .call { callee := .builtin .append, args := #[s, x], argTypes := #[t, t] })
    (base : Nat) (e : TypeId) (i : TypeInfo) (z : Value) (size bytes : Nat) (ht : P.underlying t = some (.slice e)) (hi : P.info? e = some i) (hz : i.zero = some z)
    (hsize : i.size = size) (hby : i.bytes = bytes) (hzs : z.cells.size = size) (hsz : 0 < size)
    (v : Value) (n : Nat) (xs : List Value) (hs : a.eval s = v) (hown : w.ownsRow base e size v n xs)
    (ad : Addr) (m c : Nat) (news : List Value) (hx : a.eval x = .slice (some ad) m c) (hl : news.length = m * size) (hnews : ∀ j u, news[j]? = some u → w.cell? (ad.add j) = some u) (h1 : ∀ u ∈ news, u.oneCell' = true)
    (h63 : n + m ≤ maxLen) (hbytes : (n + m) * bytes ≤ 140737488355328) (hbase : base ≤ w.heap.size)
    (h : ∀ v' w', w'.ownsRow base e size v' (n + m) (xs ++ news) → w.grownBy w' v.ownBlock → K (a.put o.dst v') w') :
    if Region.wanted o (yielded ops a.tmps) = true then Oper.wp P o a w K Q else E := by
  have hw : Region.wanted o (yielded ops a.tmps) = true := by simp [Region.wanted, hgd]
  rw [if_pos hw]
  obtain ⟨v', w', hr, h2, h3, _, _⟩ := run_append_own_at (P := P) w base t o.type e i z size bytes ht hi hz hsize hby hzs hsz v n xs hown ad m c news hl hnews h1 h63 hbytes hbase
  unfold Oper.wp execOp
  simp only [ho, resolve, invoke, builtin, Sem.run_bind, Sem.run_pure, Result.andThen_ok, List.map_toArray, List.map_cons, List.map_nil, hs, hx, hr]
  exact h v' w' h2 h3
end Go.Proofs.YtoffondgdnmhkaaDoorRRR
