/- TurnAll of the specification. No condition beyond those typed. -/
import Derived.Test.YtomekmhonfofkaaGreatSp8
import Derived.Test.YtomekmhonfofkaaGreatPtM
import Derived.Deep.AppendLies
namespace Go.Proofs.YtomekmhonfofkaaGreat
open Go.RowKit
set_option linter.unusedVariables false
set_option maxRecDepth 100000
set_option linter.unusedSimpArgs false

def flatP (l : List (Int × Int)) : List Value := l.flatMap (fun p => [.int .i64 p.1, .int .i64 p.2])
theorem flatP_append (l m : List (Int × Int)) : flatP (l ++ m) = flatP l ++ flatP m := by simp [flatP]
theorem flatP_one (x y : Int) : flatP [(x, y)] = [.int .i64 x, .int .i64 y] := by simp [flatP]
theorem flatP_at : ∀ (l : List (Int × Int)) (i : Nat) (h : i < l.length), (flatP l)[i * 2]? = some (.int .i64 l[i].1) ∧ (flatP l)[i * 2 + 1]? = some (.int .i64 l[i].2)
  | [], i, h => absurd h (by simp)
  | p :: l, 0, h => by simp [flatP]
  | p :: l, i + 1, h => by
    have ih := flatP_at l i (by simpa using h)
    have e : flatP (p :: l) = .int .i64 p.1 :: .int .i64 p.2 :: flatP l := by simp [flatP]
    rw [e, show (i + 1) * 2 = i * 2 + 1 + 1 by omega]
    simpa using ih
theorem own_rt {w : World} {B n : Nat} {v : Value} {l : List (Int × Int)} (h : w.ownsRow B 37 2 v n (flatP l)) (hl : l.length = n) : ∃ a c, v = .slice a n c ∧ RtP B w a n c l := by
  rcases h.2 with ⟨rfl, h0⟩ | ⟨g, cap, cur, rfl, hb, r⟩
  · subst h0
    exact ⟨none, 0, rfl, hl, .inl rfl⟩
  · exact ⟨_, _, rfl, hl, .inr ⟨g, rfl, hb, ⟨flatP l, ⟨h.1, .inr ⟨g, cap, cur, rfl, Nat.le_refl _, r⟩⟩, flatP_at l⟩, hl⟩⟩
theorem new_cellP (w : World) (x y : Int) : ∀ j u, [Value.int .i64 x, Value.int .i64 y][j]? = some u → (w.alloc (.cells #[.int .i64 x, .int .i64 y] 37)).cell? ((⟨w.heap.size, 0, none⟩ : Addr).add j) = some u :=
  World.news_of_block (cs := #[.int .i64 x, .int .i64 y]) (t := 37) (fr := (0, 0)) (by show (w.heap.push _)[w.heap.size]? = _; simp)
theorem one_rowP (w : World) (x y : Int) : (w.alloc (.cells #[.int .i64 x, .int .i64 y] 37)).ownsRow w.heap.size 37 2 (.slice (some ⟨w.heap.size, 0, none⟩) 1 1) 1 (flatP [(x, y)]) := by
  refine ⟨rfl, .inr ⟨w.heap.size, 1, #[.int .i64 x, .int .i64 y], rfl, Nat.le_refl _, ?_, Nat.le_refl _, by unfold maxLen; omega, rfl, by simp [flatP]⟩⟩
  show (w.heap.push _)[w.heap.size]? = _
  simp
/-- The first point, and j points from the last one back. -/
def tvN (l : List (Int × Int)) (j : Nat) : List (Int × Int) := l.getD 0 (0, 0) :: (List.range j).map (fun t => l.getD (l.length - 1 - t) (0, 0))
theorem tvN_len (l : List (Int × Int)) (j : Nat) : (tvN l j).length = j + 1 := by simp [tvN]
theorem tvN_succ (l : List (Int × Int)) (j : Nat) : tvN l (j + 1) = tvN l j ++ [l.getD (l.length - 1 - j) (0, 0)] := by simp [tvN, List.range_succ]
def tvV (l : List (Int × Int)) : List (Int × Int) := if wayB l then tvN l (l.length - 1) else []
theorem push_belowP {B : Nat} {W wr w1 : World} {o : Obj} {v : Value} {n : Nat} {xs : List Value} (hb : Below B W wr) (hB : B ≤ wr.heap.size) (hown : wr.ownsRow B 37 2 v n xs) (hg : (wr.alloc o).grownBy w1 v.ownBlock) : Below B W w1 := by
  have h1 : Below B W (wr.alloc o) := hb.alloc hB o
  refine h1.grown hg (by simp; omega) (fun k e => ?_)
  rcases hown.2 with ⟨rfl, _⟩ | ⟨g, cap, cur, rfl, hb', _⟩
  · simp [Value.ownBlock] at e
  · simp [Value.ownBlock] at e
    omega
set_option maxHeartbeats 4000000 in
theorem TurnAllS (a : Option Addr) (n c : Nat) (l : List (Int × Int)) (w : World) (h : ArP w a n c l) (h1 : n ≤ 1048576) :
    Calls Tryz.prog 66 #[.slice a n c] w fun e w' => ∃ a' n' c', e = .returned (.tuple #[.slice a' n' c', .bool (wayB l)]) ∧ Below w.heap.size w w' ∧ RtP w.heap.size w' a' n' c' (tvV l) ∧ n' ≤ 1048576 := by
  obtain ⟨i0, hi, hz0, hz1, hz2⟩ := info_parts infoPt
  have HS := hide h.sl
  have HN := hide h.len
  have C1 := hide (fun w (k : SlP w a l) => wayS a n c l w k h.len (by unfold maxLen; omega))
  clear h
  unfold tvV
  cases hg : wayB l
  · rw [hg] at C1
    go_enter Tryz.func66, Tryz.ntmps66
    go_wp2_with fail
    refine (unhide C1 _ (unhide HS)).mono ?_
    rintro e w1 ⟨rfl, hb⟩
    go_wp2_with fail
    go_ret2
    exact ⟨none, 0, 0, rfl, hb, ⟨rfl, .inl rfl⟩, by omega⟩
  · rw [hg] at C1
    have wp := (way_parts hg).1
    rw [unhide HN] at wp
    simp only [if_true]
    rcases (unhide HS) with e | ⟨b, off, rfl, hb0, hc⟩
    · exact absurd (unhide HN) (by rw [e]; simp; omega)
    have HC : Hid (∀ (i : Nat), i < n → w.cell? ⟨b, off + i * 2, none⟩ = some (.int .i64 (l.getD i (0, 0)).1) ∧ w.cell? ⟨b, off + i * 2 + 1, none⟩ = some (.int .i64 (l.getD i (0, 0)).2)) := hide (fun i hi => by rw [getD_gt (by rw [unhide HN]; exact hi)]; exact hc i (by rw [unhide HN]; exact hi))
    clear hc
    have iw : IntKind.i64.wrap ((n : Int) - 1) = (n : Int) - 1 := by rw [IntKind.wrap_i64]; omega
    go_enter Tryz.func66, Tryz.ntmps66
    go_wp2_with fail
    refine (unhide C1 _ (unhide HS)).mono ?_
    rintro e w1 ⟨rfl, hb⟩
    have e0 := unhide HC 0 (by omega)
    have E0 : w1.cell? ⟨b, off, none⟩ = some (.int .i64 (l.getD 0 (0, 0)).1) := (hb.cell (p := ⟨b, off, none⟩) hb0).trans (by simpa using e0.1)
    have E1 : w1.cell? ⟨b, off + 1, none⟩ = some (.int .i64 (l.getD 0 (0, 0)).2) := (hb.cell (p := ⟨b, off + 1, none⟩) hb0).trans (by simpa using e0.2)
    have nn : (0 : Int) < (n : Int) := by omega
    have ER : Hid ((w1.alloc (.cells #[.int .i64 (l.getD 0 (0, 0)).1, .int .i64 (l.getD 0 (0, 0)).2] 37)).ownsRow w.heap.size 37 2 (.slice (some ⟨w1.heap.size, 0, none⟩) 1 1) 1 (flatP (tvN l 0))) := hide (owns_mono (one_rowP w1 (l.getD 0 (0, 0)).1 (l.getD 0 (0, 0)).2) hb.size)
    have HB := hide (below_on hb ((Below.refl _ _).alloc (Nat.le_refl _) (.cells #[.int .i64 (l.getD 0 (0, 0)).1, .int .i64 (l.getD 0 (0, 0)).2] 37)))
    clear hb e0
    go_wp2
    go_loopw [4, 5] (fun v iv wr => ∃ j : Nat, j + 1 ≤ n ∧ iv = .int .i64 ((n : Int) - 1 - j) ∧ Hid (wr.ownsRow w.heap.size 37 2 v (j + 1) (flatP (tvN l j))) ∧ Hid (Below w.heap.size w wr)) (fun _ iv _ => (intOf iv).toNat)
    case atStart => exact ⟨0, by omega, by simp, ER, HB⟩
    case round =>
      obtain ⟨j, hj, rfl, HO, HB⟩ := hrel
      by_cases hlt : j + 1 < n
      · have d0 : decide ((0 : Int) < (n : Int) - 1 - (j : Int)) = true := decide_eq_true (by omega)
        have t0 : ((n : Int) - 1 - (j : Int)).toNat = n - 1 - j := by omega
        have t1 : (0 : Int) ≤ (n : Int) - 1 - (j : Int) := by omega
        have t2 : (n : Int) - 1 - (j : Int) < (n : Int) := by omega
        have iv : IntKind.i64.wrap ((n : Int) - 1 - (j : Int) - 1) = (n : Int) - 1 - (j : Int) - 1 := by rw [IntKind.wrap_i64]; omega
        have e0 := unhide HC (n - 1 - j) (by omega)
        have ET : Hid (tvN l (j + 1) = tvN l j ++ [l.getD (n - 1 - j) (0, 0)]) := hide (by rw [tvN_succ, unhide HN])
        generalize l.getD (n - 1 - j) (0, 0) = y at e0 ET
        have E0 : wr.cell? ⟨b, off + (n - 1 - j) * 2, none⟩ = some (.int .i64 y.1) := ((unhide HB).cell (p := ⟨b, off + (n - 1 - j) * 2, none⟩) hb0).trans e0.1
        have E1 : wr.cell? ⟨b, off + (n - 1 - j) * 2 + 1, none⟩ = some (.int .i64 y.2) := ((unhide HB).cell (p := ⟨b, off + (n - 1 - j) * 2 + 1, none⟩) hb0).trans e0.2
        clear e0
        go_wp2_with (at_builtin; refine wpList_append_own _ rfl (.tmp 20) (.tmp 25) 23 rfl w.heap.size 37 i0 (.agg #[.int .i64 0, .int .i64 0]) 2 16 Tryz.underlying23 hi hz0 hz1 hz2 rfl (by decide) _ _ _ rfl ((unhide HO).alloc _) ⟨_, 0, none⟩ 1 1 [.int .i64 y.1, .int .i64 y.2] rfl rfl (new_cellP _ _ _) (fun u hu => by simp at hu; rcases hu with rfl | rfl <;> rfl) (by unfold maxLen; omega) (by omega) (by have := (unhide HB).size; simp; omega) ?_)
        intro v' w2 hown hgr _
        have HO2 : Hid (w2.ownsRow w.heap.size 37 2 v' (j + 1 + 1) (flatP (tvN l (j + 1)))) := hide (by rw [unhide ET, flatP_append]; rw [show flatP [y] = [.int .i64 y.1, .int .i64 y.2] from flatP_one y.1 y.2]; exact hown)
        have HB2 := hide (push_belowP (unhide HB) (unhide HB).size (unhide HO) hgr)
        clear hown hgr E0 E1
        go_wp2
        go_roundw
        case rel => exact ⟨j + 1, by omega, by congr 1; omega, HO2, HB2⟩
        case measure => simp [intOf]; omega
      · obtain rfl : n = j + 1 := by omega
        have d0 : decide ((0 : Int) < ((j + 1 : Nat) : Int) - 1 - (j : Int)) = false := decide_eq_false (by omega)
        obtain ⟨a', c', rfl, rt⟩ := own_rt (unhide HO) (tvN_len l j)
        have RT : Hid (RtP w.heap.size wr a' (j + 1) c' (tvN l (l.length - 1))) := hide (by rw [unhide HN]; exact rt)
        clear rt HO
        go_wp2
        go_ret2
        exact ⟨a', j + 1, c', rfl, unhide HB, unhide RT, by omega⟩
end Go.Proofs.YtomekmhonfofkaaGreat
