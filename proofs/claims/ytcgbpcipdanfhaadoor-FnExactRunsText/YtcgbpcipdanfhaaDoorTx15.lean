/- Texts of runs: plain facts; Itoa by its table; rows of texts of one's own. No condition beyond those typed. Written by mkrt15.py. -/
import Derived.Test.YtcgbpcipdanfhaaDoorNum15
import Derived.Test.YtcgbpcipdanfhaaDoorFr15
import Derived.Test.YtcgbpcipdanfhaaDoorShelf
import Derived.Lib.Join
import Derived.Lib.LaidTab
namespace Go.Proofs.YtcgbpcipdanfhaaDoor
open Go.RowKit
set_option linter.unusedVariables false
set_option maxRecDepth 100000
set_option linter.unusedSimpArgs false

/-- strconv's table of powers lies where it is laid. -/
structure Tab15 (w : World) : Prop where
  is : Lib.TabIs Tryd.prog w "internal/strconv.uint64pow10" .u64 Lib.pow10Tab
theorem g15 : Tryd.prog.globalNamed "internal/strconv.uint64pow10" = some 1 := by kernel_rfl
theorem Tab15.later {w w' : World} (h : Tab15 w) (hb : Below w.heap.size w w') : Tab15 w' := by
  refine ⟨?_⟩
  have h := h.is
  unfold Lib.TabIs World.var? at h ⊢
  rw [g15] at h ⊢
  simp only [Option.bind_some] at h ⊢
  rw [hb.block _ (by
    rcases Nat.lt_or_ge 1 w.heap.size with h' | h'
    · exact h'
    · rw [Array.getElem?_eq_none h'] at h; cases h)]
  exact h
theorem grow_below15 (w : World) (k : Nat) (os : Array Obj) : Below w.heap.size w (Sort.grow (w.drewN k) os) :=
  ⟨rfl, rfl, rfl, by show w.heap.size ≤ (w.heap ++ os).size; rw [Array.size_append]; omega, fun j hj => by show (w.heap ++ os)[j]? = w.heap[j]?; exact Array.getElem?_append_left hj⟩
theorem itoaI (x : Nat) (w : World) (hx : x < 10 ^ 18) (h : Tab15 w) :
    Calls Tryd.prog 73 #[.int .i64 (x : Int)] w fun e w' => e = .returned (.string (st (Lib.decDigits x))) ∧ Below w.heap.size w w' := by
  refine (Tryd.strconv_Itoa (x : Int) (by omega) (by omega) w h.is).mono ?_
  rintro e w' ⟨rfl, k, os, rfl⟩
  refine ⟨?_, grow_below15 w k os⟩
  have : Lib.itoa (x : Int) = Lib.decDigits x := by unfold Lib.itoa; rw [if_neg (by omega)]; simp
  rw [this]; rfl
/-- A run's text. -/
def rt1 (p : Int × Int) : List UInt8 := Lib.decDigits p.2.toNat ++ [120] ++ Lib.decDigits p.1.toNat
/-- The texts of the first k runs, with commas between. -/
def rtx (l : List (Int × Int)) : Nat → List UInt8
  | 0 => []
  | k + 1 => (if k = 0 then [] else rtx l k ++ [44]) ++ rt1 (l.getD k (0, 0))
theorem rtx_join (l : List (Int × Int)) : ∀ k, k ≤ l.length → Lib.join ((l.take k).map rt1) [44] = rtx l k
  | 0, _ => by simp [Lib.join_nil, rtx]
  | k + 1, h => by
    have ih := rtx_join l k (by omega)
    cases l with
    | nil => simp at h
    | cons p m =>
      by_cases k0 : k = 0
      · subst k0
        simp [rtx, Lib.join_one]
      · obtain ⟨j, rfl⟩ : ∃ j, k = j + 1 := ⟨k - 1, by omega⟩
        have hk : j < m.length := by simp at h; omega
        have e : (p :: m).getD (j + 1) (0, 0) = m[j] := by simp [List.getD, hk]
        have y : (m.map rt1)[j]? = some (rt1 m[j]) := by simp [hk]
        have js := Lib.joinTail_take_succ [44] (m.map rt1) j (rt1 m[j]) y
        unfold rtx
        rw [e, if_neg (by omega), ← ih, List.take_succ_cons, List.map_cons, Lib.join_cons, List.map_take, js, List.take_succ_cons, List.map_cons, Lib.join_cons, List.map_take]
        simp
theorem rt1_len {p : Int × Int} (h1 : p.1 ≤ 255) (h2 : p.2 ≤ 100) : (rt1 p).length ≤ 7 := by
  have a := dd_len 2 p.2.toNat (by omega)
  have b := dd_len 2 p.1.toNat (by omega)
  simp [rt1]; omega
theorem byo_lt {v : Int} (h : byo v = false) : 0 ≤ v ∧ v ≤ 255 := by
  have := byo_in v
  rw [h] at this
  simpa using this
theorem gR_nums {l : List (Int × Int)} (h : gRuns l = true) {i : Nat} (hi : i < l.length) : (0 ≤ l[i].1 ∧ l[i].1 ≤ 255) ∧ (1 ≤ l[i].2 ∧ l[i].2 ≤ 100) := by
  have f := gR_facts h hi
  have s := gR_sum h i (by omega)
  exact ⟨byo_lt f.1, by omega⟩
theorem rtx_len {l : List (Int × Int)} (h : gRuns l = true) : ∀ k, k ≤ l.length → (rtx l k).length ≤ 8 * k
  | 0, _ => by simp [rtx]
  | k + 1, hk => by
    have ih := rtx_len h k (by omega)
    have e : l.getD k (0, 0) = l[k]'(by omega) := by simp [List.getD, show k < l.length by omega]
    have f := gR_nums h (show k < l.length by omega)
    have r := rt1_len f.1.2 f.2.2
    unfold rtx
    rw [e]
    split <;> simp <;> omega
theorem gR_len {l : List (Int × Int)} (h : gRuns l = true) : l.length ≤ 100 := by
  have := gR_sum h l.length (Nat.le_refl _)
  omega
/-- A row of texts of one's own. -/
structure RwS (B : Nat) (w : World) (v : Value) (n : Nat) (L : List Value) : Prop where
  row : w.ownsRow B 9 1 v n L
theorem RwS.later {B n : Nat} {w w' : World} {v : Value} {L : List Value} (h : RwS B w v n L) (hb : Below w.heap.size w w') : RwS B w' v n L := ⟨owns_laterR h.row hb⟩
theorem RwS.put {B g n c : Nat} {w : World} {L : List Value} (h : RwS B w (.slice (some ⟨g, 0, none⟩) n c) n L) (k : Nat) (x : ByteArray) : RwS B (w.setCell ⟨g, k, none⟩ (.string x)) (.slice (some ⟨g, 0, none⟩) n c) n (L.set k (.string x)) := ⟨(World.ownsRow.stored h.row k (.string x)).1⟩
/-- The first i texts of runs, empty ones behind. -/
def pl15 (l : List (Int × Int)) (n i : Nat) : List Value := (l.take i).map (fun p => Value.string (st (rt1 p))) ++ List.replicate (n - i) (.string ⟨#[]⟩)
theorem pl_len {l : List (Int × Int)} {n i : Nat} (hn : l.length = n) (hi : i ≤ n) : (pl15 l n i).length = n := by simp [pl15]; omega
theorem pl_set {l : List (Int × Int)} {n i : Nat} (hn : l.length = n) (hi : i < n) : (pl15 l n i).set i (.string (st (rt1 (l[i]'(by omega))))) = pl15 l n (i + 1) := by
  unfold pl15
  rw [(List.take_append_getElem (show i < l.length by omega)).symm, List.map_append, List.set_append, if_neg (by simp; omega), show n - i = (n - (i + 1)) + 1 by omega, List.replicate_succ, show i - ((l.take i).map (fun p => Value.string (st (rt1 p)))).length = 0 by simp; omega, List.set_cons_zero, List.append_assoc]
  rfl
end Go.Proofs.YtcgbpcipdanfhaaDoor
