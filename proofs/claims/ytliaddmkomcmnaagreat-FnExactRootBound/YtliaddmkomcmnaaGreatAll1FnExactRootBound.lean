/- The law FnExactRootBound returns true for every argument and leaves it as it was: the given statement FnExactRootBoundSaid. No condition. -/
import Derived.Test.YtliaddmkomcmnaaGreatPackSW
import Derived.Test.YtliaddmkomcmnaaGreatOpenQ
import Derived.Deep.Slices
import Derived.Test.YtliaddmkomcmnaaGreatIo
namespace Go.Proofs.YtliaddmkomcmnaaGreat
open Go.RowKit
set_option linter.unusedVariables false
set_option maxRecDepth 100000
set_option linter.unusedSimpArgs false

/-- At most one limb each; at most four. -/
def sm1 (d : QD) : Bool := decide (d.num.xs.length ≤ 1) && decide (d.den.xs.length ≤ 1)
def sm4 (d : QD) : Bool := decide (d.num.xs.length ≤ 4) && decide (d.den.xs.length ≤ 4)
def pl (d : QD) : Bool := sm4 d && gQ d
def rP (l : List QD) : Bool := ((decide (2 ≤ l.length) && decide (l.length ≤ 5)) && l.all sm1) && gP l
theorem longRI (q : QV) (d : QD) (w : World) (h : AllAr w [(q.num, d.num), (q.den, d.den)]) : Calls Tryz.prog 68 #[.agg #[.bool q.num.g, .slice q.num.a q.num.n q.num.c, .bool q.den.g, .slice q.den.a q.den.n q.den.c]] w fun e w' => e = .returned (.bool (!sm1 d)) ∧ Below w.heap.size w w' := by
  have CC := hide (fun w1 => inL q 1 w1)
  rw [show (decide (q.num.n ≤ 1) && decide (q.den.n ≤ 1)) = sm1 d from by unfold sm1; rw [h.head.ar.len, h.tail.head.ar.len]] at CC
  clear h
  have B0 := hide (show Below w.heap.size w (w.alloc (.cells #[.bool q.num.g, .slice q.num.a q.num.n q.num.c, .bool q.den.g, .slice q.den.a q.den.n q.den.c] 28)) from ((Below.refl _ _).alloc (by simp) _))
  go_enter Tryz.func68, Tryz.ntmps68
  go_wp2_with fail
  refine (unhide CC _).mono ?_
  rintro e w1 ⟨rfl, hb⟩
  have HB := hide (below_on (unhide B0) hb)
  clear hb
  go_wp2
  go_ret
  exact ⟨rfl, unhide HB⟩

set_option maxHeartbeats 2000000 in
theorem indexLongR (a : Option Addr) (n c : Nat) (l : List (QV × QD)) (w : World) (h : PArQ w a n c l) :
    Calls Tryz.prog 139 #[.slice a n c, .func (Fn.func 68) #[] #[]] w fun e w' => ∃ r : Int, e = .returned (.int .i64 r) ∧ Below w.heap.size w w' ∧ decide (0 ≤ r) = (l.map Prod.snd).any (fun d => !sm1 d) ∧ -1 ≤ r ∧ r ≤ 9223372036854775807 := by
  have HS := hide h
  have HN := hide h.len
  have hm : n ≤ maxLen := Nat.le_trans h.cap h.top
  clear h
  unfold maxLen at hm
  go_enter Tryz.func139, Tryz.ntmps139
  go_wp2
  go_loopw [8] (fun iv wr => ∃ (i : Nat), i ≤ n ∧ iv = .int .i64 i ∧ Hid (((l.take i).map Prod.snd).any (fun d => !sm1 d) = false) ∧ Hid (Below w.heap.size w wr)) (fun iv _ => n - (intOf iv).toNat)
  case atStart => exact ⟨0, Nat.zero_le _, rfl, hide (by simp), hide (Below.refl _ _)⟩
  case round =>
    obtain ⟨i, hi, rfl, EA, HB⟩ := hrel
    by_cases hlt : i < n
    · have hlt' : (i : Int) < (n : Int) := by omega
      rcases (unhide HS).at_ with e | ⟨b, off, rfl, hb, hc⟩
      · exact absurd (unhide HN) (by rw [e]; simp; omega)
      have e0 := hc i (by rw [unhide HN]; exact hlt)
      obtain ⟨y, hy⟩ : ∃ y, y = l[i]'(by rw [unhide HN]; exact hlt) := ⟨_, rfl⟩
      rw [← hy] at e0
      have MY : Hid (y ∈ l) := hide (by rw [hy]; exact List.getElem_mem _)
      have EY := hide hy
      clear hy
      have E0 : wr.cell? ⟨b, off + i * 4, none⟩ = some (.bool y.1.num.g) := ((unhide HB).cell (p := ⟨b, off + i * 4, none⟩) hb).trans (e0.1)
      have E1 : wr.cell? ⟨b, off + i * 4 + 1, none⟩ = some (.slice y.1.num.a y.1.num.n y.1.num.c) := ((unhide HB).cell (p := ⟨b, off + i * 4 + 1, none⟩) hb).trans (e0.2.1)
      have E2 : wr.cell? ⟨b, off + i * 4 + 2, none⟩ = some (.bool y.1.den.g) := ((unhide HB).cell (p := ⟨b, off + i * 4 + 2, none⟩) hb).trans (e0.2.2.1)
      have E3 : wr.cell? ⟨b, off + i * 4 + 3, none⟩ = some (.slice y.1.den.a y.1.den.n y.1.den.c) := ((unhide HB).cell (p := ⟨b, off + i * 4 + 3, none⟩) hb).trans (e0.2.2.2)
      clear e0 hc
      have TK : Hid (l.take (i + 1) = l.take i ++ [y]) := hide (by have h := take_succQ (l := l) (i := i) (by rw [unhide HN]; exact hlt); rw [← unhide EY] at h; exact h)
      have R1 := hide (((unhide HS).rd y (unhide MY)).later (unhide HB))
      have CC := hide (fun w1 (k : AllAr w1 [(y.1.num, y.2.num), (y.1.den, y.2.den)]) => longRI y.1 y.2 w1 k)
      cases hp : (fun d => !sm1 d) y.2
      · have hp' : (!sm1 y.2) = false := hp
        rw [hp'] at CC
        go_wp2_with fail
        refine (unhide CC _ (unhide R1)).mono ?_
        rintro e w1 ⟨rfl, hb1⟩
        have HB1 := hide (below_on (unhide HB) hb1)
        clear hb1 E0 E1 E2 E3 CC
        go_wp2
        go_roundw
        case rel => exact ⟨i + 1, by omega, by go_num, hide (by rw [unhide TK, List.map_append, List.any_append, unhide EA]; simp only [List.map_cons, List.map_nil, List.any_cons, List.any_nil]; rw [hp']; rfl), HB1⟩
        case measure => simp [intOf]; omega
      · have hp' : (!sm1 y.2) = true := hp
        rw [hp'] at CC
        have AN := hide (show (l.map Prod.snd).any (fun d => !sm1 d) = true from List.any_eq_true.2 ⟨y.2, List.mem_map.2 ⟨y, unhide MY, rfl⟩, hp'⟩)
        go_wp2_with fail
        refine (unhide CC _ (unhide R1)).mono ?_
        rintro e w1 ⟨rfl, hb1⟩
        have HB1 := hide (below_on (unhide HB) hb1)
        clear hb1 E0 E1 E2 E3 CC
        go_wp2
        go_ret
        exact ⟨_, rfl, unhide HB1, by rw [unhide AN]; exact decide_eq_true (by omega), by omega, by omega⟩
    · obtain rfl : i = n := by omega
      have EL := hide (show (l.map Prod.snd).any (fun d => !sm1 d) = false from by have := unhide EA; rw [← unhide HN, List.take_length] at this; exact this)
      go_wp2
      go_ret
      exact ⟨_, rfl, unhide HB, by rw [unhide EL]; rfl, by omega, by omega⟩
theorem containsLongR (a : Option Addr) (n c : Nat) (l : List (QV × QD)) (w : World) (h : PArQ w a n c l) :
    Calls Tryz.prog 67 #[.slice a n c, .func (Fn.func 68) #[] #[]] w fun e w' => e = .returned (.bool ((l.map Prod.snd).any (fun d => !sm1 d))) ∧ Below w.heap.size w w' := by
  have HS := hide h
  clear h
  go_enter Tryz.func67, Tryz.ntmps67
  go_wp2_with fail
  refine (indexLongR a n c l _ (unhide HS)).mono ?_
  rintro e w1 ⟨r, rfl, hb1, hr, r0, r1⟩
  have HB1 := hide hb1
  have HR := hide hr
  clear hb1 hr
  go_wp2
  go_ret
  exact ⟨by rw [← unhide HR]; rfl, unhide HB1⟩

set_option maxHeartbeats 4000000 in
theorem RootsPI (a : Option Addr) (n c : Nat) (l : List (QV × QD)) (w : World) (h : PArQ w a n c l) :
    Calls Tryz.prog 20 #[.slice a n c] w fun e w' => e = .returned (.bool (rP (l.map Prod.snd))) ∧ Below w.heap.size w w' := by
  unfold rP
  rw [List.length_map, h.len]
  have hm : n ≤ maxLen := Nat.le_trans h.cap h.top
  unfold maxLen at hm
  have HS := hide h
  clear h
  have CC := hide (fun w1 (k : PArQ w1 a n c l) => containsLongR a n c l w1 k)
  rw [any_not_all] at CC
  have GG := hide (fun w1 (k : PArQ w1 a n c l) => GoodPI a n c l w1 k)
  by_cases h2 : 2 ≤ n
  · have b2 : ¬ ((n : Int) < 2) := by omega
    rw [decide_eq_true h2, Bool.true_and]
    by_cases h5 : n ≤ 5
    · have b5 : ¬ ((5 : Int) < (n : Int)) := by omega
      rw [decide_eq_true h5, Bool.true_and]
      cases hA : (l.map Prod.snd).all sm1
      · rw [hA] at CC
        rw [Bool.false_and]
        go_enter Tryz.func20, Tryz.ntmps20
        go_wp2_with fail
        refine (unhide CC _ (unhide HS)).mono ?_
        rintro e w1 ⟨rfl, hb1⟩
        have HB1 := hide hb1
        clear hb1 CC GG
        go_wp2
        go_ret
        exact ⟨rfl, unhide HB1⟩
      · rw [hA] at CC
        rw [Bool.true_and]
        go_enter Tryz.func20, Tryz.ntmps20
        go_wp2_with fail
        refine (unhide CC _ (unhide HS)).mono ?_
        rintro e w1 ⟨rfl, hb1⟩
        have HB1 := hide hb1
        clear hb1 CC
        go_wp2_with fail
        refine (unhide GG _ ((unhide HS).later (unhide HB1))).mono ?_
        rintro e w2 ⟨rfl, hb2⟩
        have HB2 := hide (below_on (unhide HB1) hb2)
        clear hb2 GG
        go_wp2
        go_ret
        exact ⟨rfl, unhide HB2⟩
    · have b5 : (5 : Int) < (n : Int) := by omega
      rw [decide_eq_false h5, Bool.false_and, Bool.false_and]
      go_enter Tryz.func20, Tryz.ntmps20
      go_wp2
      go_ret
      exact ⟨rfl, Below.refl _ _⟩
  · have b2 : (n : Int) < 2 := by omega
    rw [decide_eq_false h2, Bool.false_and, Bool.false_and, Bool.false_and]
    go_enter Tryz.func20, Tryz.ntmps20
    go_wp2
    go_ret
    exact ⟨rfl, Below.refl _ _⟩
theorem in_ok2 (n lo hi : Int) (w : World) (b : Bool) (h : b = decide (lo ≤ n ∧ n ≤ hi)) : Calls Tryz.prog 132 #[.int .i64 n, .int .i64 lo, .int .i64 hi] w fun e w' => e = .returned (.bool b) ∧ w' = w := by
  subst h
  by_cases h1 : lo ≤ n
  · by_cases h2 : n ≤ hi
    · rw [show decide (lo ≤ n ∧ n ≤ hi) = true from decide_eq_true ⟨h1, h2⟩]
      go_enter Tryz.func132, Tryz.ntmps132
      go_wp2
      go_ret
      exact ⟨rfl, rfl⟩
    · rw [show decide (lo ≤ n ∧ n ≤ hi) = false from decide_eq_false (fun h => h2 h.2)]
      go_enter Tryz.func132, Tryz.ntmps132
      go_wp2
      go_ret
      exact ⟨rfl, rfl⟩
  · rw [show decide (lo ≤ n ∧ n ≤ hi) = false from decide_eq_false (fun h => h1 h.1)]
    go_enter Tryz.func132, Tryz.ntmps132
    go_wp2
    go_ret
    exact ⟨rfl, rfl⟩

set_option maxHeartbeats 4000000 in
theorem RootsPS (a : Option Addr) (n c : Nat) (l : List (QV × QD)) (w : World) (h : PArQ w a n c l) :
    Calls Tryz.prog 62 #[.slice a n c] w fun e w' => e = .returned (.bool (rP (l.map Prod.snd))) ∧ Below w.heap.size w w' := by
  have HS := hide h
  have HN := hide h.len
  have hm : n ≤ maxLen := Nat.le_trans h.cap h.top
  clear h
  unfold maxLen at hm
  go_enter Tryz.func62, Tryz.ntmps62
  go_wp2
  go_loopw [7] (fun iv wr => ∃ (i : Nat), i ≤ n ∧ iv = .int .i64 i ∧ Hid (((l.take i).map Prod.snd).all sm1 = true) ∧ Hid (Below w.heap.size w wr)) (fun iv _ => n - (intOf iv).toNat)
  case atStart => exact ⟨0, Nat.zero_le _, rfl, hide (by simp), hide (Below.refl _ _)⟩
  case round =>
    obtain ⟨i, hi, rfl, EA, HB⟩ := hrel
    by_cases hlt : i < n
    · have hlt' : (i : Int) < (n : Int) := by omega
      rcases (unhide HS).at_ with e | ⟨b, off, rfl, hb, hc⟩
      · exact absurd (unhide HN) (by rw [e]; simp; omega)
      have e0 := hc i (by rw [unhide HN]; exact hlt)
      obtain ⟨y, hy⟩ : ∃ y, y = l[i]'(by rw [unhide HN]; exact hlt) := ⟨_, rfl⟩
      rw [← hy] at e0
      have MY : Hid (y ∈ l) := hide (by rw [hy]; exact List.getElem_mem _)
      have EY := hide hy
      clear hy
      have E0 : wr.cell? ⟨b, off + i * 4, none⟩ = some (.bool y.1.num.g) := ((unhide HB).cell (p := ⟨b, off + i * 4, none⟩) hb).trans (e0.1)
      have E1 : wr.cell? ⟨b, off + i * 4 + 1, none⟩ = some (.slice y.1.num.a y.1.num.n y.1.num.c) := ((unhide HB).cell (p := ⟨b, off + i * 4 + 1, none⟩) hb).trans (e0.2.1)
      have E2 : wr.cell? ⟨b, off + i * 4 + 2, none⟩ = some (.bool y.1.den.g) := ((unhide HB).cell (p := ⟨b, off + i * 4 + 2, none⟩) hb).trans (e0.2.2.1)
      have E3 : wr.cell? ⟨b, off + i * 4 + 3, none⟩ = some (.slice y.1.den.a y.1.den.n y.1.den.c) := ((unhide HB).cell (p := ⟨b, off + i * 4 + 3, none⟩) hb).trans (e0.2.2.2)
      clear e0 hc
      have TK : Hid (l.take (i + 1) = l.take i ++ [y]) := hide (by have h := take_succQ (l := l) (i := i) (by rw [unhide HN]; exact hlt); rw [← unhide EY] at h; exact h)
      have e1 := ((unhide HS).rd y (unhide MY)).head.ar.len
      have e2 := ((unhide HS).rd y (unhide MY)).tail.head.ar.len
      by_cases k1 : y.1.num.n ≤ 1
      · by_cases k2 : y.1.den.n ≤ 1
        · have S1 : Hid (sm1 y.2 = true) := hide (by unfold sm1; rw [e1, e2]; simp; omega)
          have b1 : ¬ ((1 : Int) < (y.1.num.n : Int)) := by omega
          have b2 : ¬ ((1 : Int) < (y.1.den.n : Int)) := by omega
          clear e1 e2
          go_wp2
          go_roundw
          case rel => exact ⟨i + 1, by omega, by go_num, hide (by rw [unhide TK, List.map_append, List.all_append, unhide EA]; simp only [List.map_cons, List.map_nil, List.all_cons, List.all_nil]; rw [unhide S1]; rfl), hide (below_on (unhide HB) ((Below.refl _ _).alloc (Nat.le_refl _) _))⟩
          case measure => simp [intOf]; omega
        · have S1 : Hid (sm1 y.2 = false) := hide (by unfold sm1; rw [e1, e2]; simp; omega)
          have b1 : ¬ ((1 : Int) < (y.1.num.n : Int)) := by omega
          have b2 : (1 : Int) < (y.1.den.n : Int) := by omega
          have AN := hide (show rP (l.map Prod.snd) = false from by
            have ha : (l.map Prod.snd).all sm1 = false := by
              apply Bool.eq_false_iff.2
              intro h
              have h2 := List.all_eq_true.1 h y.2 (List.mem_map.2 ⟨y, unhide MY, rfl⟩)
              rw [unhide S1] at h2
              cases h2
            unfold rP
            rw [ha, Bool.and_false, Bool.false_and])
          clear e1 e2
          go_wp2
          go_ret
          exact ⟨by rw [unhide AN]; rfl, below_on (unhide HB) ((Below.refl _ _).alloc (Nat.le_refl _) _)⟩
      · have S1 : Hid (sm1 y.2 = false) := hide (by unfold sm1; rw [e1, e2]; simp; omega)
        have b1 : (1 : Int) < (y.1.num.n : Int) := by omega
        have AN := hide (show rP (l.map Prod.snd) = false from by
          have ha : (l.map Prod.snd).all sm1 = false := by
            apply Bool.eq_false_iff.2
            intro h
            have h2 := List.all_eq_true.1 h y.2 (List.mem_map.2 ⟨y, unhide MY, rfl⟩)
            rw [unhide S1] at h2
            cases h2
          unfold rP
          rw [ha, Bool.and_false, Bool.false_and])
        clear e1 e2
        go_wp2
        go_ret
        exact ⟨by rw [unhide AN]; rfl, below_on (unhide HB) ((Below.refl _ _).alloc (Nat.le_refl _) _)⟩
    · obtain rfl : i = n := by omega
      have RP : Hid (rP (l.map Prod.snd) = (gP (l.map Prod.snd) && decide ((2 : Int) ≤ (i : Int) ∧ (i : Int) ≤ 5))) := hide (by
        have EL : (l.map Prod.snd).all sm1 = true := by have := unhide EA; rw [← unhide HN, List.take_length] at this; exact this
        unfold rP
        rw [EL, List.length_map, unhide HN, Bool.and_true, Bool.and_comm, ← Bool.decide_and]
        congr 1
        exact decide_eq_decide.2 ⟨fun h => by omega, fun h => by omega⟩)
      have GG := hide (fun w1 (k : PArQ w1 a i c l) => GoodPS a i c l w1 k)
      clear EA
      cases hg : gP (l.map Prod.snd)
      · rw [hg] at GG RP
        go_wp2_with fail
        refine (unhide GG _ ((unhide HS).later (unhide HB))).mono ?_
        rintro e w1 ⟨rfl, hb1⟩
        have HB1 := hide (below_on (unhide HB) hb1)
        clear hb1 GG
        go_wp2
        go_ret
        exact ⟨by rw [unhide RP]; rfl, unhide HB1⟩
      · rw [hg] at GG RP
        go_wp2_with fail
        refine (unhide GG _ ((unhide HS).later (unhide HB))).mono ?_
        rintro e w1 ⟨rfl, hb1⟩
        have HB1 := hide (below_on (unhide HB) hb1)
        clear hb1 GG
        go_wp2_with fail
        refine (in_ok2 i 2 5 _ _ rfl).mono ?_
        rintro e w2 ⟨rfl, rfl⟩
        rw [Bool.true_and] at RP
        generalize decide ((2 : Int) ≤ (i : Int) ∧ (i : Int) ≤ 5) = bb at *
        go_wp2
        go_ret
        exact ⟨by rw [unhide RP]; rfl, unhide HB1⟩

set_option maxHeartbeats 2000000 in
theorem placeI (q : QV) (d : QD) (w : World) (h : AllAr w [(q.num, d.num), (q.den, d.den)]) : Calls Tryz.prog 73 #[.agg #[.bool q.num.g, .slice q.num.a q.num.n q.num.c, .bool q.den.g, .slice q.den.a q.den.n q.den.c]] w fun e w' => e = .returned (.bool (pl d)) ∧ Below w.heap.size w w' := by
  have CC := hide (fun w1 => inL q 4 w1)
  rw [show (decide (q.num.n ≤ 4) && decide (q.den.n ≤ 4)) = sm4 d from by unfold sm4; rw [h.head.ar.len, h.tail.head.ar.len]] at CC
  unfold pl
  cases hs : sm4 d
  · rw [hs] at CC
    rw [Bool.false_and]
    have H1 := hide h
    clear h
    have B0 := hide (show Below w.heap.size w (w.alloc (.cells #[.bool q.num.g, .slice q.num.a q.num.n q.num.c, .bool q.den.g, .slice q.den.a q.den.n q.den.c] 28)) from ((Below.refl _ _).alloc (by simp) _))
    go_enter Tryz.func73, Tryz.ntmps73
    go_wp2_with fail
    refine (unhide CC _).mono ?_
    rintro e w1 ⟨rfl, hb⟩
    have HB := hide (below_on (unhide B0) hb)
    clear hb
    go_wp2
    go_ret
    exact ⟨rfl, unhide HB⟩
  · rw [hs] at CC
    rw [Bool.true_and]
    have H1 := hide h
    clear h
    have B0 := hide (show Below w.heap.size w (w.alloc (.cells #[.bool q.num.g, .slice q.num.a q.num.n q.num.c, .bool q.den.g, .slice q.den.a q.den.n q.den.c] 28)) from ((Below.refl _ _).alloc (by simp) _))
    go_enter Tryz.func73, Tryz.ntmps73
    go_wp2_with fail
    refine (unhide CC _).mono ?_
    rintro e w1 ⟨rfl, hb⟩
    have k0_0 : w1.cell? ⟨w.heap.size, 0, none⟩ = some (.bool q.num.g) := cell_later hb (by simp [go_sem])
    have k0_1 : w1.cell? ⟨w.heap.size, 1, none⟩ = some (.slice q.num.a q.num.n q.num.c) := cell_later hb (by simp [go_sem])
    have k0_2 : w1.cell? ⟨w.heap.size, 2, none⟩ = some (.bool q.den.g) := cell_later hb (by simp [go_sem])
    have k0_3 : w1.cell? ⟨w.heap.size, 3, none⟩ = some (.slice q.den.a q.den.n q.den.c) := cell_later hb (by simp [go_sem])
    have HB := hide (below_on (unhide B0) hb)
    clear hb
    go_wp2_with fail
    refine (goodQI q d _ ((unhide H1).later (unhide HB))).mono ?_
    rintro e w2 ⟨rfl, hb⟩
    clear k0_0 k0_1 k0_2 k0_3
    replace HB := hide (below_on (unhide HB) hb)
    clear hb
    go_wp2
    go_ret
    exact ⟨rfl, unhide HB⟩

set_option maxHeartbeats 2000000 in
theorem placeSp (q : QV) (d : QD) (w : World) (h : AllAr w [(q.num, d.num), (q.den, d.den)]) : Calls Tryz.prog 80 #[.agg #[.bool q.num.g, .slice q.num.a q.num.n q.num.c, .bool q.den.g, .slice q.den.a q.den.n q.den.c]] w fun e w' => e = .returned (.bool (pl d)) ∧ Below w.heap.size w w' := by
  have e1 := h.head.ar.len
  have e2 := h.tail.head.ar.len
  unfold pl
  by_cases k1 : q.num.n ≤ 4
  · by_cases k2 : q.den.n ≤ 4
    · have S1 : Hid (sm4 d = true) := hide (by unfold sm4; rw [e1, e2]; simp; omega)
      have b1 : (q.num.n : Int) ≤ 4 := by omega
      have b2 : (q.den.n : Int) ≤ 4 := by omega
      have H1 := hide h
      clear h e1 e2
      rw [unhide S1]
      rw [Bool.true_and]
      have B0 := hide (show Below w.heap.size w (w.alloc (.cells #[.bool q.num.g, .slice q.num.a q.num.n q.num.c, .bool q.den.g, .slice q.den.a q.den.n q.den.c] 28)) from ((Below.refl _ _).alloc (by simp) _))
      go_enter Tryz.func80, Tryz.ntmps80
      go_wp2_with fail
      refine (goodQS q d _ ((unhide H1).later (unhide B0))).mono ?_
      rintro e w1 ⟨rfl, hb⟩
      have HB := hide (below_on (unhide B0) hb)
      clear hb
      go_wp2
      go_ret
      exact ⟨rfl, unhide HB⟩
    · have S1 : Hid (sm4 d = false) := hide (by unfold sm4; rw [e1, e2]; simp; omega)
      have b1 : (q.num.n : Int) ≤ 4 := by omega
      have b2 : ¬ ((q.den.n : Int) ≤ 4) := by omega
      have H1 := hide h
      clear h e1 e2
      rw [unhide S1]
      rw [Bool.false_and]
      have B0 := hide (show Below w.heap.size w (w.alloc (.cells #[.bool q.num.g, .slice q.num.a q.num.n q.num.c, .bool q.den.g, .slice q.den.a q.den.n q.den.c] 28)) from ((Below.refl _ _).alloc (by simp) _))
      go_enter Tryz.func80, Tryz.ntmps80
      go_wp2
      go_ret
      exact ⟨rfl, unhide B0⟩
  · have S1 : Hid (sm4 d = false) := hide (by unfold sm4; rw [e1, e2]; simp; omega)
    have b1 : ¬ ((q.num.n : Int) ≤ 4) := by omega
    have H1 := hide h
    clear h e1 e2
    rw [unhide S1]
    rw [Bool.false_and]
    have B0 := hide (show Below w.heap.size w (w.alloc (.cells #[.bool q.num.g, .slice q.num.a q.num.n q.num.c, .bool q.den.g, .slice q.den.a q.den.n q.den.c] 28)) from ((Below.refl _ _).alloc (by simp) _))
    go_enter Tryz.func80, Tryz.ntmps80
    go_wp2
    go_ret
    exact ⟨rfl, unhide B0⟩
end Go.Proofs.YtliaddmkomcmnaaGreat
namespace Go.Proofs.YtliaddmkomcmnaaGreat
open Go.RowKit
set_option linter.unusedVariables false
set_option maxRecDepth 100000
set_option linter.unusedSimpArgs false

/-- How far from 0. -/
def absZ (V : Int) : Int := (V.natAbs : Int)
theorem absZ_abs (V : Int) : (absZ V).natAbs = V.natAbs := by unfold absZ; simp
theorem absZ_nn (V : Int) : ¬ (absZ V < 0) := by unfold absZ; omega
theorem Bd.abs {V : Int} {k : Nat} (h : Bd V k) : Bd (absZ V) k := ⟨by rw [absZ_abs]; exact h.lt⟩
/-- A coefficient divided by the last one, without its sign; the greater one. -/
def farQ (t c : Int × Int) : Int × Int := (absZ (lowN (c.1 * t.2) (c.2 * t.1)), lowD (c.1 * t.2) (c.2 * t.1))
def moreQ (m f : Int × Int) : Int × Int := if 0 < cmpZ (f.1 * m.2) (m.1 * f.2) then f else m
def bnd (t : Int × Int) (cs : List (Int × Int)) : Int × Int := cs.foldl (fun m c => moreQ m (farQ t c)) (0, 1)
theorem bnd_snoc (t : Int × Int) (cs : List (Int × Int)) (c : Int × Int) : bnd t (cs ++ [c]) = moreQ (bnd t cs) (farQ t c) := by simp [bnd]
structure Fg (L : Nat) (c : Int × Int) : Prop where
  pos : 0 < c.2
  kn : Bd c.1 L
  kd : Bd c.2 L
theorem Fg.mono {L L' : Nat} {c : Int × Int} (h : Fg L c) (k : L ≤ L') : Fg L' c := ⟨h.pos, h.kn.mono k, h.kd.mono k⟩
theorem farQ_fg {L : Nat} {t c : Int × Int} (h : Fg L c) (ht : Fg L t) (h0 : t.1 ≠ 0) : Fg (L + L) (farQ t c) :=
  ⟨lowD_pos (Int.mul_ne_zero (by have := h.pos; omega) h0), (lowN_bd (h.kn.mul ht.kd)).abs, lowD_bd (h.kd.mul ht.kn)⟩
theorem bnd_fg {L : Nat} {t : Int × Int} (ht : Fg L t) (h0 : t.1 ≠ 0) (hL : 1 ≤ L) (cs : List (Int × Int)) (h : ∀ c ∈ cs, Fg L c) : Fg (L + L) (bnd t cs) := by
  have : ∀ (cs : List (Int × Int)) (m : Int × Int), (∀ c ∈ cs, Fg L c) → Fg (L + L) m → Fg (L + L) (cs.foldl (fun m c => moreQ m (farQ t c)) m) := by
    intro cs
    induction cs with
    | nil => intro m _ hm; exact hm
    | cons c cs ih =>
      intro m hc hm
      refine ih _ (fun d hd => hc d (List.mem_cons_of_mem _ hd)) ?_
      show Fg (L + L) (moreQ m (farQ t c))
      unfold moreQ
      split
      · exact farQ_fg (hc c List.mem_cons_self) ht h0
      · exact hm
  exact this cs _ h ⟨by decide, (Bd.small (by decide)).mono (by omega), (Bd.small (by decide)).mono (by omega)⟩
/-- Limbs lie in no box. -/
theorem Ow.boxed {lo hi F : Nat} {w w' : World} {b : BV} {V : Int} {g : Bool} (h : Ow lo hi w b V) (hb : But F (F + 1) w w') (hc : w.cell? ⟨F, 0, none⟩ = some (.bool g)) : Ow lo hi w' b V := by
  obtain ⟨xs, k1, k2, k3⟩ := h
  have o : AllOwn lo hi w' [(b, ⟨decide (V < 0), xs⟩)] := ⟨fun p hp => by
    have hp := List.mem_singleton.1 hp
    subst hp
    have q := k1.own _ (List.mem_singleton.2 rfl)
    refine ⟨q.sg, ?_, q.len⟩
    rcases q.own with e | ⟨bb, cur, ea, h1, h2, hg, hx⟩
    · exact .inl e
    · by_cases hx0 : xs = []
      · exact .inl hx0
      refine .inr ⟨bb, cur, ea, h1, h2, (hb.block bb (Array.getElem?_eq_some_iff.1 hg).1 ?_).trans hg, hx⟩
      have hne : bb ≠ F := fun e => by
        subst e
        have h0 := hx 0 (by have := List.length_pos_iff.2 hx0; exact this)
        have h3 : w.cell? ⟨bb, 0, none⟩ = some (.int .i64 (xs.getD 0 0)) := by
          simp only [World.cell?, hg]
          simpa using h0
        rw [h3] at hc
        cases hc
      omega, List.pairwise_singleton _ _⟩
  exact ⟨xs, o, fun p hp => ⟨(k2 p hp).sg, ⟨(o.sl p hp).sl, (k2 p hp).ar.len, (k2 p hp).ar.cap, (k2 p hp).ar.top, (k2 p hp).ar.addr⟩⟩, k3⟩
def OwE (w : World) (b : BV) (V : Int) : Prop := ∃ lo hi, Ow lo hi w b V
theorem OwE.later {w w' : World} {b : BV} {V : Int} (h : OwE w b V) (hb : Below w.heap.size w w') : OwE w' b V := by obtain ⟨lo, hi, h⟩ := h; exact ⟨lo, hi, h.later hb⟩
theorem OwE.is {w : World} {b : BV} {V : Int} (h : OwE w b V) : IsB w b V := by obtain ⟨lo, hi, h⟩ := h; exact h.is
theorem OwE.boxed {F : Nat} {w w' : World} {b : BV} {V : Int} {g : Bool} (h : OwE w b V) (hb : But F (F + 1) w w') (hc : w.cell? ⟨F, 0, none⟩ = some (.bool g)) : OwE w' b V := by obtain ⟨lo, hi, h⟩ := h; exact ⟨lo, hi, h.boxed hb hc⟩
/-- A box that a drawn region has laid and filled. -/
structure FxQ (wk wx : World) (G : Nat) (v : QV) (c : Int × Int) : Prop where
  lo : wk.heap.size ≤ G
  hi : G < wx.heap.size
  bel : Below wk.heap.size wk wx
  c0 : wx.cell? ⟨G, 0, none⟩ = some (.bool v.num.g)
  c1 : wx.cell? ⟨G, 1, none⟩ = some (.slice v.num.a v.num.n v.num.c)
  c2 : wx.cell? ⟨G, 2, none⟩ = some (.bool v.den.g)
  c3 : wx.cell? ⟨G, 3, none⟩ = some (.slice v.den.a v.den.n v.den.c)
  fr : ∀ o, wx.frozen? ⟨G, o, none⟩ = false
  own : OwE wx v.num c.1 ∧ OwE wx v.den c.2
theorem fxQ_alloc {wk w5 : World} {v : QV} {c : Int × Int} (t : TypeId) (hk : Below wk.heap.size wk w5) (o1 : OwE w5 v.num c.1) (o2 : OwE w5 v.den c.2) :
    FxQ wk (w5.alloc (.cells #[.bool v.num.g, .slice v.num.a v.num.n v.num.c, .bool v.den.g, .slice v.den.a v.den.n v.den.c] t)) w5.heap.size v c :=
  ⟨hk.size, by simp, hk.alloc hk.size _, by simp [go_sem], by simp [go_sem], by simp [go_sem], by simp [go_sem], fun o => by simp [go_sem], o1.later ((Below.refl _ _).alloc (Nat.le_refl _) _), o2.later ((Below.refl _ _).alloc (Nat.le_refl _) _)⟩
theorem fxQ_set {wk w5 : World} {v : QV} {c : Int × Int} {G : Nat} {z0 : Bool} {z1 z2 z3 : Value} (hk : Below wk.heap.size wk w5) (o1 : OwE w5 v.num c.1) (o2 : OwE w5 v.den c.2) (hG : wk.heap.size ≤ G)
    (e0 : w5.cell? ⟨G, 0, none⟩ = some (.bool z0)) (e1 : w5.cell? ⟨G, 1, none⟩ = some z1) (e2 : w5.cell? ⟨G, 2, none⟩ = some z2) (e3 : w5.cell? ⟨G, 3, none⟩ = some z3) (fr : ∀ o, w5.frozen? ⟨G, o, none⟩ = false) :
    FxQ wk ((((w5.setCell ⟨G, 0, none⟩ (.bool v.num.g)).setCell ⟨G, 1, none⟩ (.slice v.num.a v.num.n v.num.c)).setCell ⟨G, 2, none⟩ (.bool v.den.g)).setCell ⟨G, 3, none⟩ (.slice v.den.a v.den.n v.den.c)) G v c := by
  have hb := metQ_but (w5 := w5) (v := v) (G := G)
  have hlt : G < w5.heap.size := World.block_lt_of_cell? _ _ e0
  exact ⟨hG, Nat.lt_of_lt_of_le hlt hb.size, hb.below hk hG hk.size, by simp [go_sem, e0, e1, e2, e3], by simp [go_sem, e0, e1, e2, e3], by simp [go_sem, e0, e1, e2, e3], by simp [go_sem, e0, e1, e2, e3], fun o => by simp only [World.frozen?_setCell]; exact fr o, o1.boxed hb e0, o2.boxed hb e0⟩
/-- What the loop keeps. -/
structure BnI (w : World) (V : Int × Int) (G : Nat) (W : World) : Prop where
  bel : Below w.heap.size w W
  r0 : W.cell? ⟨w.heap.size, 0, none⟩ = some (.bool false)
  r1 : W.cell? ⟨w.heap.size, 1, none⟩ = some (.slice none 0 0)
  r2 : W.cell? ⟨w.heap.size, 2, none⟩ = some (.bool false)
  r3 : W.cell? ⟨w.heap.size, 3, none⟩ = some (.slice none 0 0)
  rf : ∀ o, W.frozen? ⟨w.heap.size, o, none⟩ = false
  gf : ∀ o, W.frozen? ⟨G, o, none⟩ = false
  gt : w.heap.size < G
  lt : G < W.heap.size
  val : ∃ u : QV, W.cell? ⟨G, 0, none⟩ = some (.bool u.num.g) ∧ W.cell? ⟨G, 1, none⟩ = some (.slice u.num.a u.num.n u.num.c) ∧ W.cell? ⟨G, 2, none⟩ = some (.bool u.den.g) ∧ W.cell? ⟨G, 3, none⟩ = some (.slice u.den.a u.den.n u.den.c) ∧ OwE W u.num V.1 ∧ OwE W u.den V.2
theorem BnI.later {w W W' : World} {V : Int × Int} {G : Nat} (h : BnI w V G W) (hb : Below W.heap.size W W') : BnI w V G W' := by
  obtain ⟨u, c0, c1, c2, c3, h4, h5⟩ := h.val
  exact ⟨below_on h.bel hb, cell_later hb h.r0, cell_later hb h.r1, cell_later hb h.r2, cell_later hb h.r3, fun o => frozen_later hb (Nat.lt_trans h.gt h.lt) (h.rf o), fun o => frozen_later hb h.lt (h.gf o), h.gt, Nat.lt_of_lt_of_le h.lt hb.size,
    ⟨u, cell_later hb c0, cell_later hb c1, cell_later hb c2, cell_later hb c3, h4.later hb, h5.later hb⟩⟩
theorem BnI.but {w W W' : World} {V : Int × Int} {G F : Nat} {g : Bool} (h : BnI w V G W) (hb : But F (F + 1) W W') (hF : G < F) (hc : W.cell? ⟨F, 0, none⟩ = some (.bool g)) : BnI w V G W' := by
  obtain ⟨u, c0, c1, c2, c3, h4, h5⟩ := h.val
  have g := h.gt
  have gl := h.lt
  exact ⟨hb.below h.bel (by omega) h.bel.size, hb.cell h.r0 (.inl (by omega)), hb.cell h.r1 (.inl (by omega)), hb.cell h.r2 (.inl (by omega)), hb.cell h.r3 (.inl (by omega)),
    fun o => (World.frozen?_of_block (a := ⟨w.heap.size, o, none⟩) (hb.block _ (by show w.heap.size < _; omega) (.inl (by show w.heap.size < _; omega)))).trans (h.rf o),
    fun o => (World.frozen?_of_block (a := ⟨G, o, none⟩) (hb.block _ gl (.inl hF))).trans (h.gf o), g, Nat.lt_of_lt_of_le gl hb.size,
    ⟨u, hb.cell c0 (.inl hF), hb.cell c1 (.inl hF), hb.cell c2 (.inl hF), hb.cell c3 (.inl hF), h4.boxed hb hc, h5.boxed hb hc⟩⟩
theorem bnI_set {w W : World} {v : QV} {V f : Int × Int} {G : Nat} (h : BnI w V G W) (o1 : OwE W v.num f.1) (o2 : OwE W v.den f.2) : BnI w f G ((((W.setCell ⟨G, 0, none⟩ (.bool v.num.g)).setCell ⟨G, 1, none⟩ (.slice v.num.a v.num.n v.num.c)).setCell ⟨G, 2, none⟩ (.bool v.den.g)).setCell ⟨G, 3, none⟩ (.slice v.den.a v.den.n v.den.c)) := by
  have bt : But G (G + 1) W ((((W.setCell ⟨G, 0, none⟩ (.bool v.num.g)).setCell ⟨G, 1, none⟩ (.slice v.num.a v.num.n v.num.c)).setCell ⟨G, 2, none⟩ (.bool v.den.g)).setCell ⟨G, 3, none⟩ (.slice v.den.a v.den.n v.den.c)) := metQ_but (w5 := W) (v := v) (G := G)
  have g := h.gt
  have gl := h.lt
  obtain ⟨u, c0, c1, c2, c3, _⟩ := h.val
  exact ⟨bt.below h.bel (by omega) h.bel.size, bt.cell h.r0 (.inl (by omega)), bt.cell h.r1 (.inl (by omega)), bt.cell h.r2 (.inl (by omega)), bt.cell h.r3 (.inl (by omega)),
    fun o => (World.frozen?_of_block (a := ⟨w.heap.size, o, none⟩) (bt.block _ (by show w.heap.size < _; omega) (.inl (by show w.heap.size < _; omega)))).trans (h.rf o),
    fun o => by simp only [World.frozen?_setCell]; exact h.gf o, g, Nat.lt_of_lt_of_le gl bt.size,
    ⟨v, by simp [go_sem, c0, c1, c2, c3], by simp [go_sem, c0, c1, c2, c3], by simp [go_sem, c0, c1, c2, c3], by simp [go_sem, c0, c1, c2, c3], o1.boxed bt c0, o2.boxed bt c0⟩⟩
set_option maxHeartbeats 2000000 in
theorem farI (b : BV) (V : Int) (w : World) (h : OwE w b V) :
    Calls Tryz.prog 125 #[.agg #[.bool b.g, .slice b.a b.n b.c]] w fun e w' => ∃ r : BV, e = .returned (.agg #[.bool r.g, .slice r.a r.n r.c]) ∧ Below w.heap.size w w' ∧ OwE w' r (absZ V) := by
  obtain ⟨lo, hi, xs, ow, ar, nm⟩ := h
  have HO := hide ow
  have HA := hide ar
  have HN := hide nm
  clear ow ar nm
  have B0 := hide (show Below w.heap.size w ((w.alloc (.cells #[.bool b.g, .slice b.a b.n b.c] 26)).alloc (.cells #[.bool false, .slice none 0 0] 26)) from (((Below.refl _ _).alloc (by simp) _).alloc (by simp) _))
  go_enter Tryz.func125, Tryz.ntmps125
  go_wp2_with fail
  refine (signI_v false b.a b.n b.c xs _ lo hi (absZ V) (((unhide HA).head.ar).later (unhide B0)) (((unhide HO).own (b, ⟨decide (V < 0), xs⟩) (by simp)).own.later (unhide B0)) (by unfold absZ; exact unhide HN)).mono ?_
  rintro e w1 ⟨r, rfl, hb, o1, a1⟩
  have s1 := hb.size
  have k1_0 : w1.cell? ⟨w.heap.size + 1, 0, none⟩ = some (.bool false) := cell_later hb (by simp [go_sem])
  have k1_1 : w1.cell? ⟨w.heap.size + 1, 1, none⟩ = some (.slice none 0 0) := cell_later hb (by simp [go_sem])
  have z1 : ∀ o, w1.frozen? ⟨w.heap.size + 1, o, none⟩ = false := fun o => frozen_later hb (by simp) (by simp [go_sem])
  have OR := hide (show Ow lo hi w1 r (absZ V) from ⟨xs, o1, a1, by rw [absZ_abs]; exact unhide HN⟩)
  have HB := hide (below_on (unhide B0) hb)
  clear hb
  clear o1 a1
  go_wp2
  refine bodyPost_ret (v := .agg #[.bool r.g, .slice r.a r.n r.c]) (by simp [results, Tryz.results125, go_sem, k1_0, k1_1]) rfl ?_
  have bt := metB_but (w5 := w1) (v := r) (G := w.heap.size + 1)
  exact ⟨r, rfl, bt.below (unhide HB) (by omega) (unhide HB).size, ⟨lo, hi, (unhide OR).boxed bt k1_0⟩⟩
set_option maxHeartbeats 4000000 in
theorem absS (q : QV) (N D : Int) (w : World) (o1 : OwE w q.num N) (o2 : OwE w q.den D) (k1 : Bd N 1000000) :
    Calls Tryz.prog 133 #[.agg #[.bool q.num.g, .slice q.num.a q.num.n q.num.c, .bool q.den.g, .slice q.den.a q.den.n q.den.c]] w fun e w' => ∃ r : QV, e = .returned (.agg #[.bool r.num.g, .slice r.num.a r.num.n r.num.c, .bool r.den.g, .slice r.den.a r.den.n r.den.c]) ∧ Below w.heap.size w w' ∧ OwE w' r.num (absZ N) ∧ OwE w' r.den D := by
  obtain ⟨lo, hi, xs, ow, ar, nm⟩ := o1
  have hlen : q.num.n ≤ 1048576 := by have h1 := nm.len_le k1; have h2 : xs.length = q.num.n := ar.head.ar.len; omega
  have HA := hide ar
  have HN := hide nm
  have HD := hide o2
  clear ow ar nm o2
  go_enter Tryz.func133, Tryz.ntmps133
  go_upto_region 1 with fail
  have hb0 : Below w.heap.size w ((w.alloc (.cells #[.bool q.num.g, .slice q.num.a q.num.n q.num.c, .bool q.den.g, .slice q.den.a q.den.n q.den.c] 28)).alloc (.cells #[.bool false, .slice none 0 0, .bool false, .slice none 0 0] 28)) := ((Below.refl _ _).alloc (by simp) _).alloc (by simp) _
  have x0 : ((w.alloc (.cells #[.bool q.num.g, .slice q.num.a q.num.n q.num.c, .bool q.den.g, .slice q.den.a q.den.n q.den.c] 28)).alloc (.cells #[.bool false, .slice none 0 0, .bool false, .slice none 0 0] 28)).cell? ⟨w.heap.size, 0, none⟩ = some (.bool q.num.g) := by simp [go_sem]
  have x1 : ((w.alloc (.cells #[.bool q.num.g, .slice q.num.a q.num.n q.num.c, .bool q.den.g, .slice q.den.a q.den.n q.den.c] 28)).alloc (.cells #[.bool false, .slice none 0 0, .bool false, .slice none 0 0] 28)).cell? ⟨w.heap.size, 1, none⟩ = some (.slice q.num.a q.num.n q.num.c) := by simp [go_sem]
  have x2 : ((w.alloc (.cells #[.bool q.num.g, .slice q.num.a q.num.n q.num.c, .bool q.den.g, .slice q.den.a q.den.n q.den.c] 28)).alloc (.cells #[.bool false, .slice none 0 0, .bool false, .slice none 0 0] 28)).cell? ⟨w.heap.size, 2, none⟩ = some (.bool q.den.g) := by simp [go_sem]
  have x3 : ((w.alloc (.cells #[.bool q.num.g, .slice q.num.a q.num.n q.num.c, .bool q.den.g, .slice q.den.a q.den.n q.den.c] 28)).alloc (.cells #[.bool false, .slice none 0 0, .bool false, .slice none 0 0] 28)).cell? ⟨w.heap.size, 3, none⟩ = some (.slice q.den.a q.den.n q.den.c) := by simp [go_sem]
  have r0 : ((w.alloc (.cells #[.bool q.num.g, .slice q.num.a q.num.n q.num.c, .bool q.den.g, .slice q.den.a q.den.n q.den.c] 28)).alloc (.cells #[.bool false, .slice none 0 0, .bool false, .slice none 0 0] 28)).cell? ⟨w.heap.size + 1, 0, none⟩ = some (.bool false) := by simp [go_sem]
  have r1 : ((w.alloc (.cells #[.bool q.num.g, .slice q.num.a q.num.n q.num.c, .bool q.den.g, .slice q.den.a q.den.n q.den.c] 28)).alloc (.cells #[.bool false, .slice none 0 0, .bool false, .slice none 0 0] 28)).cell? ⟨w.heap.size + 1, 1, none⟩ = some (.slice none 0 0) := by simp [go_sem]
  have r2 : ((w.alloc (.cells #[.bool q.num.g, .slice q.num.a q.num.n q.num.c, .bool q.den.g, .slice q.den.a q.den.n q.den.c] 28)).alloc (.cells #[.bool false, .slice none 0 0, .bool false, .slice none 0 0] 28)).cell? ⟨w.heap.size + 1, 2, none⟩ = some (.bool false) := by simp [go_sem]
  have r3 : ((w.alloc (.cells #[.bool q.num.g, .slice q.num.a q.num.n q.num.c, .bool q.den.g, .slice q.den.a q.den.n q.den.c] 28)).alloc (.cells #[.bool false, .slice none 0 0, .bool false, .slice none 0 0] 28)).cell? ⟨w.heap.size + 1, 3, none⟩ = some (.slice none 0 0) := by simp [go_sem]
  have rf : ∀ o, ((w.alloc (.cells #[.bool q.num.g, .slice q.num.a q.num.n q.num.c, .bool q.den.g, .slice q.den.a q.den.n q.den.c] 28)).alloc (.cells #[.bool false, .slice none 0 0, .bool false, .slice none 0 0] 28)).frozen? ⟨w.heap.size + 1, o, none⟩ = false := fun o => by simp [go_sem]
  have sz0 : ((w.alloc (.cells #[.bool q.num.g, .slice q.num.a q.num.n q.num.c, .bool q.den.g, .slice q.den.a q.den.n q.den.c] 28)).alloc (.cells #[.bool false, .slice none 0 0, .bool false, .slice none 0 0] 28)).heap.size = w.heap.size + 2 := by simp
  have HB := hide hb0
  clear hb0
  generalize ((w.alloc (.cells #[.bool q.num.g, .slice q.num.a q.num.n q.num.c, .bool q.den.g, .slice q.den.a q.den.n q.den.c] 28)).alloc (.cells #[.bool false, .slice none 0 0, .bool false, .slice none 0 0] 28)) = w0 at *
  go_region_with (go_at_call 137; refine (makeS_v false q.num.a q.num.n q.num.c xs _ (absZ N) ?_ ?_ hlen).mono ?_; exact ((unhide HA).head.ar.later (unhide HB)).later (Below.refl _ _).drew; (unfold absZ; exact unhide HN); rintro e w1 ⟨b, rfl, hb1, ow1, ar1⟩; have hbx := below_of_drew hb1; have sz1 := hbx.size; replace rf := fun o => frozen_later hbx (World.block_lt_of_cell? _ _ r0) (rf o); replace r0 := cell_later hbx r0; replace r1 := cell_later hbx r1; replace r2 := cell_later hbx r2; replace r3 := cell_later hbx r3; replace x2 := cell_later hbx x2; replace x3 := cell_later hbx x3; have HB1 := hide (below_on (unhide HB) hbx); have O1 := hide (show AllOwn w0.heap.size w1.heap.size w1 [(b, ⟨decide (sU false (absZ N) < 0), xs⟩)] from ow1); have A1 := hide ar1; clear hbx hb1 ow1 ar1 x0 x1)
  all_goals go_wp2
  all_goals refine bodyPost_ret (v := .agg #[.bool b.g, .slice b.a b.n b.c, .bool q.den.g, .slice q.den.a q.den.n q.den.c]) (by simp [results, Tryz.results133, go_sem, r0, r1, r2, r3]) rfl ?_
  all_goals
    have bt := metQ_but (w5 := w1) (v := ⟨b, q.den⟩) (G := w.heap.size + 1)
    have sb := bt.size
    have o1 : Ow w0.heap.size w1.heap.size w1 b (absZ N) := ⟨xs, unhide O1, unhide A1, by rw [absZ_abs]; exact unhide HN⟩
    exact ⟨⟨b, q.den⟩, rfl, bt.below (unhide HB1) (by omega) (unhide HB1).size, ⟨_, _, o1.boxed bt r0⟩, ((unhide HD).later (unhide HB1)).boxed bt r0⟩
def bndA (V : Int × Int) : Int × Int := (lowN (V.1 + V.2) V.2, lowD (V.1 + V.2) V.2)
theorem take_bnd {l : List (QV × QD)} {t : Int × Int} {i : Nat} {y : QV × QD} (h : i < l.length) (hy : y = l[i]) : bnd t ((l.take (i + 1)).map (fun y : QV × QD => (nQ y.2, dQ y.2))) = moreQ (bnd t ((l.take i).map (fun y : QV × QD => (nQ y.2, dQ y.2)))) (farQ t (nQ y.2, dQ y.2)) := by
  rw [take_succQ h, ← hy, List.map_append]
  exact bnd_snoc _ _ _
set_option maxRecDepth 100000 in
set_option maxHeartbeats 8000000 in
theorem boundI (a : Option Addr) (n c : Nat) (l : List (QV × QD)) (z : QV × QD) (t : Int × Int) (w : World) (h : PArQ w a n c l) (hg : ∀ y ∈ l, IsGood w y.1 y.2) (hn : 2 ≤ n) (hn7 : n ≤ 7) (hz : l[n - 1]? = some z) (ht : t = (nQ z.2, dQ z.2)) (h0 : t.1 ≠ 0) :
    Calls Tryz.prog 60 #[.slice a n c] w (OutQ w (bndA (bnd t ((l.take (n - 1)).map (fun y : QV × QD => (nQ y.2, dQ y.2))))).1 (bndA (bnd t ((l.take (n - 1)).map (fun y : QV × QD => (nQ y.2, dQ y.2))))).2) := by
  have hl := h.len
  have hcap := h.cap
  have HP := hide h
  have HG := hide hg
  have mz : z ∈ l := by obtain ⟨h1, h2⟩ := List.getElem?_eq_some_iff.1 hz; rw [← h2]; exact List.getElem_mem _
  have GZ := hide (hg z mz)
  have TT := hide ht
  have T0 := hide h0
  have TG : Hid (Fg 40 t) := hide (by rw [ht]; exact ⟨(hg z mz).pos, (hg z mz).kn, (hg z mz).kd⟩)
  have HZ := hide hz
  obtain ⟨VF, hVF⟩ : ∃ VF, VF = bnd t ((l.take (n - 1)).map (fun y : QV × QD => (nQ y.2, dQ y.2))) := ⟨_, rfl⟩
  rw [← hVF]
  have HVF := hide hVF
  have FGA : Hid (∀ i, Fg 80 (bnd t ((l.take i).map (fun y : QV × QD => (nQ y.2, dQ y.2))))) := hide (fun i => (bnd_fg (unhide TG) h0 (by omega) _ (fun c hc => by
    obtain ⟨y, hy, rfl⟩ := List.mem_map.1 hc
    have q := hg y (List.mem_of_mem_take hy)
    exact ⟨q.pos, q.kn, q.kd⟩)))
  clear h hg hz ht h0 mz hVF
  rcases (unhide HP).at_ with e | ⟨b, off, rfl, hb, hc⟩
  · exact absurd hl (by rw [e]; simp; omega)
  have HC := hide hc
  clear hc
  have i1 : (0 : Int) ≤ (n : Int) - 1 := by omega
  have i2 : (n : Int) - 1 ≤ (c : Int) := by omega
  have i3 : ((n : Int) - 1).toNat = n - 1 := by omega
  have i4 : (n : Int) - 1 < (n : Int) := by omega
  have i5 : (1 : Int) ≤ (n : Int) := by omega
  have i8 : IntKind.i64.wrap ((n : Int) - 1) = (n : Int) - 1 := by rw [IntKind.wrap_i64]; omega
  have i6 : 0 < n := by omega
  have i7 : 1 ≤ n := by omega
  have B0 := hide (show Below w.heap.size w (w.alloc (.cells #[.bool false, .slice none 0 0, .bool false, .slice none 0 0] 28)) from (Below.refl _ _).alloc (Nat.le_refl _) _)
  go_enter Tryz.func60, Tryz.ntmps60
  go_wp2_with fail
  refine (wholeI 0 _ (by omega) (by omega)).mono ?_
  rintro e w1 ⟨q0, zs0, us0, rfl, hb1, o1, a1, m1, m2⟩
  have s1 : w.heap.size + 1 ≤ w1.heap.size := by have := hb1.size; simp at this; omega
  replace o1 := o1.wide (lo' := w.heap.size + 1) (by simp) (Nat.le_refl _)
  have HB1 := hide (below_on (unhide B0) hb1)
  have OW := hide (And.intro (show Ow (w.heap.size + 1) w1.heap.size w1 q0.num 0 from ⟨zs0, ⟨fun p hp => o1.own p (by simp at hp ⊢; exact .inl hp), List.pairwise_singleton _ _⟩, fun p hp => a1 p (by simp at hp ⊢; exact .inl hp), m1⟩) (show Ow (w.heap.size + 1) w1.heap.size w1 q0.den 1 from ⟨us0, ⟨fun p hp => o1.own p (by simp at hp ⊢; exact .inr hp), List.pairwise_singleton _ _⟩, fun p hp => a1 p (by simp at hp ⊢; exact .inr hp), m2⟩))
  have R0 : Hid (w1.cell? ⟨w.heap.size, 0, none⟩ = some (.bool false)) := hide (cell_later hb1 (by simp [go_sem]))
  have R1 : Hid (w1.cell? ⟨w.heap.size, 1, none⟩ = some (.slice none 0 0)) := hide (cell_later hb1 (by simp [go_sem]))
  have R2 : Hid (w1.cell? ⟨w.heap.size, 2, none⟩ = some (.bool false)) := hide (cell_later hb1 (by simp [go_sem]))
  have R3 : Hid (w1.cell? ⟨w.heap.size, 3, none⟩ = some (.slice none 0 0)) := hide (cell_later hb1 (by simp [go_sem]))
  have RF : Hid (∀ o, w1.frozen? ⟨w.heap.size, o, none⟩ = false) := hide (fun o => frozen_later hb1 (by simp) (by simp [go_sem]))
  clear hb1 o1 a1 m1 m2 B0
  go_wp2
  go_loopw [14] (fun iv wr => ∃ i : Nat, i ≤ n - 1 ∧ iv = .int .i64 i ∧ Hid (BnI w (bnd t ((l.take i).map (fun y : QV × QD => (nQ y.2, dQ y.2)))) w1.heap.size wr)) (fun iv _ => n - (intOf iv).toNat)
  case atStart =>
    have hbz : Below w1.heap.size w1 (w1.alloc (.cells #[.bool q0.num.g, .slice q0.num.a q0.num.n q0.num.c, .bool q0.den.g, .slice q0.den.a q0.den.n q0.den.c] 28)) := (Below.refl _ _).alloc (Nat.le_refl _) _
    exact ⟨0, Nat.zero_le _, rfl, hide ⟨below_on (unhide HB1) hbz, cell_later hbz (unhide R0), cell_later hbz (unhide R1), cell_later hbz (unhide R2), cell_later hbz (unhide R3), fun o => frozen_later hbz (by omega) ((unhide RF) o), fun o => by simp [go_sem], by omega, by simp, ⟨q0, by simp [go_sem], by simp [go_sem], by simp [go_sem], by simp [go_sem], ⟨_, _, (unhide OW).1.later hbz⟩, ⟨_, _, (unhide OW).2.later hbz⟩⟩⟩⟩
  case round =>
    clear R0 R1 R2 R3 RF OW HB1
    obtain ⟨i, hi, rfl, HI⟩ := hrel
    by_cases hlt : i < n - 1
    · have hlt' : (i : Int) < ((n - 1 : Nat) : Int) := by omega
      have hlt2 : (i : Int) < (n : Int) - 1 := by omega
      have e0 := (unhide HC) i (by omega)
      obtain ⟨y, hy⟩ : ∃ y, y = l[i]'(by omega) := ⟨_, rfl⟩
      rw [← hy] at e0
      have MY : Hid (y ∈ l) := hide (by rw [hy]; exact List.getElem_mem _)
      have CP := hide (take_bnd (t := t) (show i < l.length by omega) hy)
      have FG := hide ((unhide FGA) i)
      obtain ⟨V2, hV2⟩ : ∃ V2, V2 = bnd t ((l.take (i + 1)).map (fun y : QV × QD => (nQ y.2, dQ y.2))) := ⟨_, rfl⟩
      rw [← hV2] at CP
      have HV2 := hide hV2
      clear hV2 hy
      generalize bnd t ((l.take i).map (fun y : QV × QD => (nQ y.2, dQ y.2))) = V at *
      have E0 : wr.cell? ⟨b, off + i * 4, none⟩ = some (.bool y.1.num.g) := ((unhide HI).bel.cell (p := ⟨b, off + i * 4, none⟩) hb).trans (e0.1)
      have E1 : wr.cell? ⟨b, off + i * 4 + 1, none⟩ = some (.slice y.1.num.a y.1.num.n y.1.num.c) := ((unhide HI).bel.cell (p := ⟨b, off + i * 4 + 1, none⟩) hb).trans (e0.2.1)
      have E2 : wr.cell? ⟨b, off + i * 4 + 2, none⟩ = some (.bool y.1.den.g) := ((unhide HI).bel.cell (p := ⟨b, off + i * 4 + 2, none⟩) hb).trans (e0.2.2.1)
      have E3 : wr.cell? ⟨b, off + i * 4 + 3, none⟩ = some (.slice y.1.den.a y.1.den.n y.1.den.c) := ((unhide HI).bel.cell (p := ⟨b, off + i * 4 + 3, none⟩) hb).trans (e0.2.2.2)
      clear e0
      have IY := hide (((unhide HG) y (unhide MY)).later (unhide HI).bel)
      have IZ := hide ((unhide GZ).later (unhide HI).bel)
      have FF := hide (farQ_fg (show Fg 40 (nQ y.2, dQ y.2) from ⟨(unhide IY).pos, (unhide IY).kn, (unhide IY).kd⟩) (unhide TG) (unhide T0))
      have NZ : Hid (dQ y.2 * t.1 ≠ 0) := hide (Int.mul_ne_zero (by have := (unhide IY).pos; omega) (unhide T0))
      have PA := hide ((unhide HP).later (unhide HI).bel)
      have glt := (unhide HI).lt
      go_upto_region 5 with fail
      have al : Below wr.heap.size wr (wr.alloc (.cells #[.bool y.1.num.g, .slice y.1.num.a y.1.num.n y.1.num.c, .bool y.1.den.g, .slice y.1.den.a y.1.den.n y.1.den.c] 28)) := (Below.refl _ _).alloc (Nat.le_refl _) _
      have T0 : (wr.alloc (.cells #[.bool y.1.num.g, .slice y.1.num.a y.1.num.n y.1.num.c, .bool y.1.den.g, .slice y.1.den.a y.1.den.n y.1.den.c] 28)).cell? ⟨wr.heap.size, 0, none⟩ = some (.bool y.1.num.g) := by simp [go_sem]
      have T1 : (wr.alloc (.cells #[.bool y.1.num.g, .slice y.1.num.a y.1.num.n y.1.num.c, .bool y.1.den.g, .slice y.1.den.a y.1.den.n y.1.den.c] 28)).cell? ⟨wr.heap.size, 1, none⟩ = some (.slice y.1.num.a y.1.num.n y.1.num.c) := by simp [go_sem]
      have T2 : (wr.alloc (.cells #[.bool y.1.num.g, .slice y.1.num.a y.1.num.n y.1.num.c, .bool y.1.den.g, .slice y.1.den.a y.1.den.n y.1.den.c] 28)).cell? ⟨wr.heap.size, 2, none⟩ = some (.bool y.1.den.g) := by simp [go_sem]
      have T3 : (wr.alloc (.cells #[.bool y.1.num.g, .slice y.1.num.a y.1.num.n y.1.num.c, .bool y.1.den.g, .slice y.1.den.a y.1.den.n y.1.den.c] 28)).cell? ⟨wr.heap.size, 3, none⟩ = some (.slice y.1.den.a y.1.den.n y.1.den.c) := by simp [go_sem]
      have s0 : wr.heap.size < (wr.alloc (.cells #[.bool y.1.num.g, .slice y.1.num.a y.1.num.n y.1.num.c, .bool y.1.den.g, .slice y.1.den.a y.1.den.n y.1.den.c] 28)).heap.size := by simp
      replace HI := hide ((unhide HI).later al)
      replace IY := hide ((unhide IY).later al)
      replace IZ := hide ((unhide IZ).later al)
      replace PA := hide ((unhide PA).later al)
      clear al E0 E1 E2 E3
      generalize (wr.alloc (.cells #[.bool y.1.num.g, .slice y.1.num.a y.1.num.n y.1.num.c, .bool y.1.den.g, .slice y.1.den.a y.1.den.n y.1.den.c] 28)) = w0 at *
      go_cut [6] (fun p wx => ∃ (GF : Nat) (v : QV), p = .pointer (some ⟨GF, 0, none⟩) ∧ Hid (FxQ w0 wx GF v ((lowN (nQ y.2 * t.2) (dQ y.2 * t.1), lowD (nQ y.2 * t.2) (dQ y.2 * t.1)))))
      case first =>
        go_region_held3 (fun w' => w'.cell? ⟨wr.heap.size, 0, none⟩ = some (.bool y.1.num.g) ∧ w'.cell? ⟨wr.heap.size, 1, none⟩ = some (.slice y.1.num.a y.1.num.n y.1.num.c) ∧ w'.cell? ⟨wr.heap.size, 2, none⟩ = some (.bool y.1.den.g) ∧ w'.cell? ⟨wr.heap.size, 3, none⟩ = some (.slice y.1.den.a y.1.den.n y.1.den.c)) (with_reducible (first | exact ⟨T0, T1, T2, T3⟩ | exact ⟨cd_other T0, cd_other T1, cd_other T2, cd_other T3⟩ | exact ⟨ca_other T0, ca_other T1, ca_other T2, ca_other T3⟩ | exact ⟨cd_other (ca_other T0), cd_other (ca_other T1), cd_other (ca_other T2), cd_other (ca_other T3)⟩ | exact ⟨cs_other (cs_other (cs_other (cs_other (T0) (by omega)) (by omega)) (by omega)) (by omega), cs_other (cs_other (cs_other (cs_other (T1) (by omega)) (by omega)) (by omega)) (by omega), cs_other (cs_other (cs_other (cs_other (T2) (by omega)) (by omega)) (by omega)) (by omega), cs_other (cs_other (cs_other (cs_other (T3) (by omega)) (by omega)) (by omega)) (by omega)⟩ | fail))
          (first
          | (go_at_call 129; refine (lastQ_v (some ⟨b, off, none⟩) n c l z _ ?_ (by omega) (unhide HZ)).mono ?_; (first | exact (unhide PA).later (Below.refl _ _).drew | exact (unhide PA).later ((Below.refl _ _).alloc (Nat.le_refl _) _).drew); rintro e wa ⟨rfl, hb9⟩; have hbx : Below w0.heap.size w0 wa := (by first | exact below_of_drew hb9 | exact bad hb9); have sz0 := hbx.size; replace T0 := cell_later hbx T0; replace T1 := cell_later hbx T1; replace T2 := cell_later hbx T2; replace T3 := cell_later hbx T3; replace IY := hide ((unhide IY).later hbx); replace IZ := hide ((unhide IZ).later hbx); (try (replace gf := fun o => frozen_later hbx (World.block_lt_of_cell? _ _ g0) (gf o); replace g0 := cell_later hbx g0; replace g1 := cell_later hbx g1; replace g2 := cell_later hbx g2; replace g3 := cell_later hbx g3)); (try (refine cutP (p := wa.cell? ⟨w0.heap.size, 0, none⟩ = some (.bool false) ∧ wa.cell? ⟨w0.heap.size, 1, none⟩ = some (.slice none 0 0) ∧ wa.cell? ⟨w0.heap.size, 2, none⟩ = some (.bool false) ∧ wa.cell? ⟨w0.heap.size, 3, none⟩ = some (.slice none 0 0) ∧ ∀ o, wa.frozen? ⟨w0.heap.size, o, none⟩ = false) ?_ (fun dd => ?_); (focus (refine ⟨cell_later hb9 ?_, cell_later hb9 ?_, cell_later hb9 ?_, cell_later hb9 ?_, fun o => frozen_later hb9 ?_ ?_⟩ <;> (simp [go_sem]; done))); obtain ⟨g0, g1, g2, g3, gf⟩ := dd)); have zz0 := hb9.size; (try simp at zz0); have HBr := hide hbx; clear hb9 hbx)
          | (go_at_call 128; refine (divQI y.1 z.1 (nQ y.2) (dQ y.2) t.1 t.2 _ ?_ ?_ (unhide NZ) ((unhide IY).kn.mono (by omega)) ((unhide IY).kd.mono (by omega)) ((unhide TG).kn.mono (by omega)) ((unhide TG).kd.mono (by omega))).mono ?_; (first | exact (unhide IY).is | exact (unhide IY).is.later ((Below.refl _ _).alloc (Nat.le_refl _) _)); (first | (rw [unhide TT]; exact (unhide IZ).is) | (rw [unhide TT]; exact (unhide IZ).is.later ((Below.refl _ _).alloc (Nat.le_refl _) _))); rintro e wb hq; obtain ⟨v, rfl, hb9, ow1, ow2⟩ := OutQ.toV _ _ hq; have hbx : Below wa.heap.size wa wb := (by first | exact hb9 | exact ba hb9); have sz1 := hbx.size; replace T0 := cell_later hbx T0; replace T1 := cell_later hbx T1; replace T2 := cell_later hbx T2; replace T3 := cell_later hbx T3; replace IY := hide ((unhide IY).later hbx); replace IZ := hide ((unhide IZ).later hbx); (try (replace gf := fun o => frozen_later hbx (World.block_lt_of_cell? _ _ g0) (gf o); replace g0 := cell_later hbx g0; replace g1 := cell_later hbx g1; replace g2 := cell_later hbx g2; replace g3 := cell_later hbx g3)); (try (refine cutP (p := wb.cell? ⟨wa.heap.size, 0, none⟩ = some (.bool false) ∧ wb.cell? ⟨wa.heap.size, 1, none⟩ = some (.slice none 0 0) ∧ wb.cell? ⟨wa.heap.size, 2, none⟩ = some (.bool false) ∧ wb.cell? ⟨wa.heap.size, 3, none⟩ = some (.slice none 0 0) ∧ ∀ o, wb.frozen? ⟨wa.heap.size, o, none⟩ = false) ?_ (fun dd => ?_); (focus (refine ⟨cell_later hb9 ?_, cell_later hb9 ?_, cell_later hb9 ?_, cell_later hb9 ?_, fun o => frozen_later hb9 ?_ ?_⟩ <;> (simp [go_sem]; done))); obtain ⟨g0, g1, g2, g3, gf⟩ := dd)); have zz1 := hb9.size; (try simp at zz1); have HBr := hide (below_on (unhide HBr) hbx); have O1 : Hid (OwE wb v.num _) := hide ⟨_, _, ow1⟩; have O2 : Hid (OwE wb v.den _) := hide ⟨_, _, ow2⟩; clear hb9 hbx ow1 ow2 hq))
        all_goals go_wp2_with fail
        all_goals go_meet
        all_goals first
          | (with_reducible refine ⟨_, v, rfl, hide (fxQ_alloc (c := (lowN (nQ y.2 * t.2) (dQ y.2 * t.1), lowD (nQ y.2 * t.2) (dQ y.2 * t.1))) 28 (unhide HBr) (unhide O1) (unhide O2))⟩)
          | (with_reducible refine ⟨_, v, rfl, hide (fxQ_set (c := (lowN (nQ y.2 * t.2) (dQ y.2 * t.1), lowD (nQ y.2 * t.2) (dQ y.2 * t.1))) (unhide HBr) (unhide O1) (unhide O2) ?_ g0 g1 g2 g3 gf)⟩ <;> first | omega | (simp; done) | (simp; omega))
      case rest =>
        obtain ⟨GF, v, rfl, HF⟩ := hcut
        have hbc := (unhide HF).bel
        have gl := (unhide HF).lo
        have gh := (unhide HF).hi
        replace HI := hide ((unhide HI).later hbc)
        clear hbc IY IZ PA T0 T1 T2 T3
        have f0 := (unhide HF).c0
        have f1 := (unhide HF).c1
        have f2 := (unhide HF).c2
        have f3 := (unhide HF).c3
        have ff := (unhide HF).fr
        have FO := hide (unhide HF).own
        clear HF
        go_wp2_with fail
        refine (farI v.num _ _ (unhide FO).1).mono ?_
        rintro e w6 ⟨r, rfl, hb6, or6⟩
        have sz6 := hb6.size
        replace HI := hide ((unhide HI).later hb6)
        replace ff := fun o => frozen_later hb6 gh (ff o)
        replace f0 := cell_later hb6 f0
        replace f1 := cell_later hb6 f1
        replace f2 := cell_later hb6 f2
        replace f3 := cell_later hb6 f3
        replace FO := hide (And.intro or6 ((unhide FO).2.later hb6))
        clear hb6 or6
        go_upto_region 7 with fail
        have bt : But GF (GF + 1) w6 ((w6.setCell ⟨GF, 0, none⟩ (.bool r.g)).setCell ⟨GF, 1, none⟩ (.slice r.a r.n r.c)) := metB_but (w5 := w6) (v := r) (G := GF)
        have q0' : ((w6.setCell ⟨GF, 0, none⟩ (.bool r.g)).setCell ⟨GF, 1, none⟩ (.slice r.a r.n r.c)).cell? ⟨GF, 0, none⟩ = some (.bool r.g) := by simp [go_sem, f0, f1]
        have q1' : ((w6.setCell ⟨GF, 0, none⟩ (.bool r.g)).setCell ⟨GF, 1, none⟩ (.slice r.a r.n r.c)).cell? ⟨GF, 1, none⟩ = some (.slice r.a r.n r.c) := by simp [go_sem, f0, f1]
        have q2' : ((w6.setCell ⟨GF, 0, none⟩ (.bool r.g)).setCell ⟨GF, 1, none⟩ (.slice r.a r.n r.c)).cell? ⟨GF, 2, none⟩ = some (.bool v.den.g) := by simp [go_sem, f2]
        have q3' : ((w6.setCell ⟨GF, 0, none⟩ (.bool r.g)).setCell ⟨GF, 1, none⟩ (.slice r.a r.n r.c)).cell? ⟨GF, 3, none⟩ = some (.slice v.den.a v.den.n v.den.c) := by simp [go_sem, f3]
        replace HI := hide ((unhide HI).but bt (by omega) f0)
        replace FO : Hid (OwE ((w6.setCell ⟨GF, 0, none⟩ (.bool r.g)).setCell ⟨GF, 1, none⟩ (.slice r.a r.n r.c)) (⟨r, v.den⟩ : QV).num (farQ t (nQ y.2, dQ y.2)).1 ∧ OwE ((w6.setCell ⟨GF, 0, none⟩ (.bool r.g)).setCell ⟨GF, 1, none⟩ (.slice r.a r.n r.c)) (⟨r, v.den⟩ : QV).den (farQ t (nQ y.2, dQ y.2)).2) := hide ⟨(unhide FO).1.boxed bt f0, (unhide FO).2.boxed bt f0⟩
        have sz7 := bt.size
        clear f0 f1 f2 f3 ff bt
        generalize ((w6.setCell ⟨GF, 0, none⟩ (.bool r.g)).setCell ⟨GF, 1, none⟩ (.slice r.a r.n r.c)) = w7 at *
        obtain ⟨x, hx⟩ : ∃ x : QV, x = ⟨r, v.den⟩ := ⟨_, rfl⟩
        have f0 : w7.cell? ⟨GF, 0, none⟩ = some (.bool x.num.g) := by rw [hx]; exact q0'
        have f1 : w7.cell? ⟨GF, 1, none⟩ = some (.slice x.num.a x.num.n x.num.c) := by rw [hx]; exact q1'
        have f2 : w7.cell? ⟨GF, 2, none⟩ = some (.bool x.den.g) := by rw [hx]; exact q2'
        have f3 : w7.cell? ⟨GF, 3, none⟩ = some (.slice x.den.a x.den.n x.den.c) := by rw [hx]; exact q3'
        rw [← hx] at FO
        clear hx q0' q1' q2' q3'
        obtain ⟨u, c0, c1, c2, c3, h4, h5⟩ := (unhide HI).val
        have IU : Hid (IsQ w7 u V.1 V.2) := hide ⟨h4.is, h5.is⟩
        have IF : Hid (IsQ w7 x (farQ t (nQ y.2, dQ y.2)).1 (farQ t (nQ y.2, dQ y.2)).2) := hide ⟨(unhide FO).1.is, (unhide FO).2.is⟩
        clear h4 h5
        have MQ : Hid (V2 = if 0 < cmpZ ((farQ t (nQ y.2, dQ y.2)).1 * V.2) (V.1 * (farQ t (nQ y.2, dQ y.2)).2) then farQ t (nQ y.2, dQ y.2) else V) := hide (unhide CP)
        clear CP
        obtain ⟨f, hf⟩ : ∃ f, f = farQ t (nQ y.2, dQ y.2) := ⟨_, rfl⟩
        rw [← hf] at IF FO MQ FF
        clear hf
        go_wp2_with fail
        refine (cmpQI x u f.1 f.2 V.1 V.2 _ (unhide IF) (unhide IU) ((unhide FF).kn.mono (by omega)) ((unhide FF).kd.mono (by omega)) ((unhide FG).kn.mono (by omega)) ((unhide FG).kd.mono (by omega))).mono ?_
        rintro e w8 ⟨rfl, hb8⟩
        have sz8 := hb8.size
        replace HI := hide ((unhide HI).later hb8)
        replace FO := hide (And.intro ((unhide FO).1.later hb8) ((unhide FO).2.later hb8))
        replace f0 := cell_later hb8 f0
        replace f1 := cell_later hb8 f1
        replace f2 := cell_later hb8 f2
        replace f3 := cell_later hb8 f3
        replace c0 := cell_later hb8 c0
        replace c1 := cell_later hb8 c1
        replace c2 := cell_later hb8 c2
        replace c3 := cell_later hb8 c3
        have gfr := (unhide HI).gf
        clear hb8 IU IF
        by_cases hc : 0 < cmpZ (f.1 * V.2) (V.1 * f.2)
        · rw [if_pos hc] at MQ
          generalize cmpZ (f.1 * V.2) (V.1 * f.2) = cc at *
          go_wp2
          go_roundw
          case rel => exact ⟨i + 1, by omega, by go_num, hide (by rw [← unhide HV2, unhide MQ]; exact bnI_set (unhide HI) (unhide FO).1 (unhide FO).2)⟩
          case measure => simp [intOf]; omega
        · rw [if_neg hc] at MQ
          generalize cmpZ (f.1 * V.2) (V.1 * f.2) = cc at *
          go_wp2
          go_roundw
          case rel => exact ⟨i + 1, by omega, by go_num, hide (by rw [← unhide HV2, unhide MQ]; exact unhide HI)⟩
          case measure => simp [intOf]; omega
    · obtain rfl : i = n - 1 := by omega
      have hlt' : ¬ (((n - 1 : Nat) : Int) < (n : Int) - 1) := by omega
      have FG := hide ((unhide FGA) (n - 1))
      rw [← unhide HVF] at HI FG
      have r0 := (unhide HI).r0
      have r1 := (unhide HI).r1
      have r2 := (unhide HI).r2
      have r3 := (unhide HI).r3
      have rf := (unhide HI).rf
      obtain ⟨u, c0, c1, c2, c3, h4, h5⟩ := (unhide HI).val
      have IU : Hid (IsQ wr u VF.1 VF.2) := hide ⟨h4.is, h5.is⟩
      have glt := (unhide HI).lt
      have ggt := (unhide HI).gt
      clear h4 h5
      have EQ1 : Hid (1 * VF.2 + VF.1 * 1 = VF.1 + VF.2) := hide (by omega)
      have EQ2 : Hid (1 * VF.2 = VF.2) := hide (by omega)
      go_upto_region 10 with fail
      go_region_with (first
        | (go_at_call 127; refine (wholeI 1 _ (by omega) (by omega)).mono ?_; rintro e w2 ⟨q1, zs1, us1, rfl, hb9, o1, a1, m1, m2⟩; have hbx := below_of_drew hb9; have sz2 := hbx.size; replace HI := hide ((unhide HI).later hbx); replace IU := hide ((unhide IU).later hbx); replace rf := fun o => frozen_later hbx (World.block_lt_of_cell? _ _ r0) (rf o); replace r0 := cell_later hbx r0; replace r1 := cell_later hbx r1; replace r2 := cell_later hbx r2; replace r3 := cell_later hbx r3; replace c0 := cell_later hbx c0; replace c1 := cell_later hbx c1; replace c2 := cell_later hbx c2; replace c3 := cell_later hbx c3; have IO : Hid (IsQ w2 q1 1 1) := hide ⟨⟨zs1, a1.head, m1⟩, ⟨us1, a1.tail.head, m2⟩⟩; clear hb9 hbx o1 a1 m1 m2)
        | (go_at_call 130; refine (addQI q1 u 1 1 VF.1 VF.2 _ (unhide IO) (unhide IU) (by have := (unhide FG).pos; omega) ((Bd.small (by decide)).mono (by omega)) ((Bd.small (by decide)).mono (by omega)) ((unhide FG).kn.mono (by omega)) ((unhide FG).kd.mono (by omega))).mono ?_; rw [unhide EQ1, unhide EQ2]; rintro e w3 ⟨v, zs3, us3, rfl, hb9, o3, a3, n1, n2⟩; have sz3 := hb9.size; replace HI := hide ((unhide HI).later hb9); replace rf := fun o => frozen_later hb9 (World.block_lt_of_cell? _ _ r0) (rf o); replace r0 := cell_later hb9 r0; replace r1 := cell_later hb9 r1; replace r2 := cell_later hb9 r2; replace r3 := cell_later hb9 r3; replace c0 := cell_later hb9 c0; replace c1 := cell_later hb9 c1; replace c2 := cell_later hb9 c2; replace c3 := cell_later hb9 c3; have O3 := hide o3; have A3 := hide a3; have N3 := hide (And.intro n1 n2); clear hb9 o3 a3 n1 n2))
      all_goals go_wp2
      all_goals refine bodyPost_ret (v := .agg #[.bool v.num.g, .slice v.num.a v.num.n v.num.c, .bool v.den.g, .slice v.den.a v.den.n v.den.c]) (by simp [results, Tryz.results60, go_sem, r0, r1, r2, r3]) rfl ?_
      all_goals exact outQ_fin (q := v) (R := w.heap.size) (Nat.le_refl _) (unhide HI).bel (metQ_but (w5 := w3) (v := v) (G := w.heap.size)) ((unhide O3).wide (by omega) (Nat.le_refl _)) (unhide A3) (unhide N3).1 (unhide N3).2
set_option maxRecDepth 100000 in
set_option maxHeartbeats 8000000 in
theorem boundS (a : Option Addr) (n c : Nat) (l : List (QV × QD)) (z : QV × QD) (t : Int × Int) (w : World) (h : PArQ w a n c l) (hg : ∀ y ∈ l, IsGood w y.1 y.2) (hn : 2 ≤ n) (hn7 : n ≤ 7) (hz : l[n - 1]? = some z) (ht : t = (nQ z.2, dQ z.2)) (h0 : t.1 ≠ 0) :
    Calls Tryz.prog 63 #[.slice a n c] w (OutQv w (bndA (bnd t ((l.take (n - 1)).map (fun y : QV × QD => (nQ y.2, dQ y.2))))).1 (bndA (bnd t ((l.take (n - 1)).map (fun y : QV × QD => (nQ y.2, dQ y.2))))).2) := by
  have hl := h.len
  have hcap := h.cap
  have HP := hide h
  have HG := hide hg
  have mz : z ∈ l := by obtain ⟨h1, h2⟩ := List.getElem?_eq_some_iff.1 hz; rw [← h2]; exact List.getElem_mem _
  have GZ := hide (hg z mz)
  have TT := hide ht
  have T0 := hide h0
  have TG : Hid (Fg 40 t) := hide (by rw [ht]; exact ⟨(hg z mz).pos, (hg z mz).kn, (hg z mz).kd⟩)
  have HZ := hide hz
  obtain ⟨VF, hVF⟩ : ∃ VF, VF = bnd t ((l.take (n - 1)).map (fun y : QV × QD => (nQ y.2, dQ y.2))) := ⟨_, rfl⟩
  rw [← hVF]
  have HVF := hide hVF
  have FGA : Hid (∀ i, Fg 80 (bnd t ((l.take i).map (fun y : QV × QD => (nQ y.2, dQ y.2))))) := hide (fun i => (bnd_fg (unhide TG) h0 (by omega) _ (fun c hc => by
    obtain ⟨y, hy, rfl⟩ := List.mem_map.1 hc
    have q := hg y (List.mem_of_mem_take hy)
    exact ⟨q.pos, q.kn, q.kd⟩)))
  clear h hg hz ht h0 mz hVF
  rcases (unhide HP).at_ with e | ⟨b, off, rfl, hb, hc⟩
  · exact absurd hl (by rw [e]; simp; omega)
  have HC := hide hc
  clear hc
  have i1 : (0 : Int) ≤ (n : Int) - 1 := by omega
  have i2 : (n : Int) - 1 ≤ (c : Int) := by omega
  have i3 : ((n : Int) - 1).toNat = n - 1 := by omega
  have i4 : (n : Int) - 1 < (n : Int) := by omega
  have i5 : (1 : Int) ≤ (n : Int) := by omega
  have i8 : IntKind.i64.wrap ((n : Int) - 1) = (n : Int) - 1 := by rw [IntKind.wrap_i64]; omega
  have i6 : 0 < n := by omega
  have i7 : 1 ≤ n := by omega
  have B0 := hide (show Below w.heap.size w (w.alloc (.cells #[.bool false, .slice none 0 0, .bool false, .slice none 0 0] 28)) from (Below.refl _ _).alloc (Nat.le_refl _) _)
  go_enter Tryz.func63, Tryz.ntmps63
  go_wp2_with fail
  refine (wholeS 0 _ (by omega) (by omega)).mono ?_
  rintro e w1 ⟨q0, zs0, us0, rfl, hb1, o1, a1, m1, m2⟩
  have s1 : w.heap.size + 1 ≤ w1.heap.size := by have := hb1.size; simp at this; omega
  replace o1 := o1.wide (lo' := w.heap.size + 1) (by simp) (Nat.le_refl _)
  have HB1 := hide (below_on (unhide B0) hb1)
  have OW := hide (And.intro (show Ow (w.heap.size + 1) w1.heap.size w1 q0.num 0 from ⟨zs0, ⟨fun p hp => o1.own p (by simp at hp ⊢; exact .inl hp), List.pairwise_singleton _ _⟩, fun p hp => a1 p (by simp at hp ⊢; exact .inl hp), m1⟩) (show Ow (w.heap.size + 1) w1.heap.size w1 q0.den 1 from ⟨us0, ⟨fun p hp => o1.own p (by simp at hp ⊢; exact .inr hp), List.pairwise_singleton _ _⟩, fun p hp => a1 p (by simp at hp ⊢; exact .inr hp), m2⟩))
  have R0 : Hid (w1.cell? ⟨w.heap.size, 0, none⟩ = some (.bool false)) := hide (cell_later hb1 (by simp [go_sem]))
  have R1 : Hid (w1.cell? ⟨w.heap.size, 1, none⟩ = some (.slice none 0 0)) := hide (cell_later hb1 (by simp [go_sem]))
  have R2 : Hid (w1.cell? ⟨w.heap.size, 2, none⟩ = some (.bool false)) := hide (cell_later hb1 (by simp [go_sem]))
  have R3 : Hid (w1.cell? ⟨w.heap.size, 3, none⟩ = some (.slice none 0 0)) := hide (cell_later hb1 (by simp [go_sem]))
  have RF : Hid (∀ o, w1.frozen? ⟨w.heap.size, o, none⟩ = false) := hide (fun o => frozen_later hb1 (by simp) (by simp [go_sem]))
  clear hb1 o1 a1 m1 m2 B0
  go_wp2
  go_loopw [14] (fun iv wr => ∃ i : Nat, i ≤ n - 1 ∧ iv = .int .i64 i ∧ Hid (BnI w (bnd t ((l.take i).map (fun y : QV × QD => (nQ y.2, dQ y.2)))) w1.heap.size wr)) (fun iv _ => n - (intOf iv).toNat)
  case atStart =>
    have hbz : Below w1.heap.size w1 (w1.alloc (.cells #[.bool q0.num.g, .slice q0.num.a q0.num.n q0.num.c, .bool q0.den.g, .slice q0.den.a q0.den.n q0.den.c] 28)) := (Below.refl _ _).alloc (Nat.le_refl _) _
    exact ⟨0, Nat.zero_le _, rfl, hide ⟨below_on (unhide HB1) hbz, cell_later hbz (unhide R0), cell_later hbz (unhide R1), cell_later hbz (unhide R2), cell_later hbz (unhide R3), fun o => frozen_later hbz (by omega) ((unhide RF) o), fun o => by simp [go_sem], by omega, by simp, ⟨q0, by simp [go_sem], by simp [go_sem], by simp [go_sem], by simp [go_sem], ⟨_, _, (unhide OW).1.later hbz⟩, ⟨_, _, (unhide OW).2.later hbz⟩⟩⟩⟩
  case round =>
    clear R0 R1 R2 R3 RF OW HB1
    obtain ⟨i, hi, rfl, HI⟩ := hrel
    by_cases hlt : i < n - 1
    · have hlt' : (i : Int) < ((n - 1 : Nat) : Int) := by omega
      have hlt2 : (i : Int) < (n : Int) - 1 := by omega
      have e0 := (unhide HC) i (by omega)
      obtain ⟨y, hy⟩ : ∃ y, y = l[i]'(by omega) := ⟨_, rfl⟩
      rw [← hy] at e0
      have MY : Hid (y ∈ l) := hide (by rw [hy]; exact List.getElem_mem _)
      have CP := hide (take_bnd (t := t) (show i < l.length by omega) hy)
      have FG := hide ((unhide FGA) i)
      obtain ⟨V2, hV2⟩ : ∃ V2, V2 = bnd t ((l.take (i + 1)).map (fun y : QV × QD => (nQ y.2, dQ y.2))) := ⟨_, rfl⟩
      rw [← hV2] at CP
      have HV2 := hide hV2
      clear hV2 hy
      generalize bnd t ((l.take i).map (fun y : QV × QD => (nQ y.2, dQ y.2))) = V at *
      have E0 : wr.cell? ⟨b, off + i * 4, none⟩ = some (.bool y.1.num.g) := ((unhide HI).bel.cell (p := ⟨b, off + i * 4, none⟩) hb).trans (e0.1)
      have E1 : wr.cell? ⟨b, off + i * 4 + 1, none⟩ = some (.slice y.1.num.a y.1.num.n y.1.num.c) := ((unhide HI).bel.cell (p := ⟨b, off + i * 4 + 1, none⟩) hb).trans (e0.2.1)
      have E2 : wr.cell? ⟨b, off + i * 4 + 2, none⟩ = some (.bool y.1.den.g) := ((unhide HI).bel.cell (p := ⟨b, off + i * 4 + 2, none⟩) hb).trans (e0.2.2.1)
      have E3 : wr.cell? ⟨b, off + i * 4 + 3, none⟩ = some (.slice y.1.den.a y.1.den.n y.1.den.c) := ((unhide HI).bel.cell (p := ⟨b, off + i * 4 + 3, none⟩) hb).trans (e0.2.2.2)
      clear e0
      have IY := hide (((unhide HG) y (unhide MY)).later (unhide HI).bel)
      have IZ := hide ((unhide GZ).later (unhide HI).bel)
      have FF := hide (farQ_fg (show Fg 40 (nQ y.2, dQ y.2) from ⟨(unhide IY).pos, (unhide IY).kn, (unhide IY).kd⟩) (unhide TG) (unhide T0))
      have NZ : Hid (dQ y.2 * t.1 ≠ 0) := hide (Int.mul_ne_zero (by have := (unhide IY).pos; omega) (unhide T0))
      have PA := hide ((unhide HP).later (unhide HI).bel)
      have glt := (unhide HI).lt
      go_upto_region 5 with fail
      have al : Below wr.heap.size wr (wr.alloc (.cells #[.bool y.1.num.g, .slice y.1.num.a y.1.num.n y.1.num.c, .bool y.1.den.g, .slice y.1.den.a y.1.den.n y.1.den.c] 28)) := (Below.refl _ _).alloc (Nat.le_refl _) _
      have T0 : (wr.alloc (.cells #[.bool y.1.num.g, .slice y.1.num.a y.1.num.n y.1.num.c, .bool y.1.den.g, .slice y.1.den.a y.1.den.n y.1.den.c] 28)).cell? ⟨wr.heap.size, 0, none⟩ = some (.bool y.1.num.g) := by simp [go_sem]
      have T1 : (wr.alloc (.cells #[.bool y.1.num.g, .slice y.1.num.a y.1.num.n y.1.num.c, .bool y.1.den.g, .slice y.1.den.a y.1.den.n y.1.den.c] 28)).cell? ⟨wr.heap.size, 1, none⟩ = some (.slice y.1.num.a y.1.num.n y.1.num.c) := by simp [go_sem]
      have T2 : (wr.alloc (.cells #[.bool y.1.num.g, .slice y.1.num.a y.1.num.n y.1.num.c, .bool y.1.den.g, .slice y.1.den.a y.1.den.n y.1.den.c] 28)).cell? ⟨wr.heap.size, 2, none⟩ = some (.bool y.1.den.g) := by simp [go_sem]
      have T3 : (wr.alloc (.cells #[.bool y.1.num.g, .slice y.1.num.a y.1.num.n y.1.num.c, .bool y.1.den.g, .slice y.1.den.a y.1.den.n y.1.den.c] 28)).cell? ⟨wr.heap.size, 3, none⟩ = some (.slice y.1.den.a y.1.den.n y.1.den.c) := by simp [go_sem]
      have s0 : wr.heap.size < (wr.alloc (.cells #[.bool y.1.num.g, .slice y.1.num.a y.1.num.n y.1.num.c, .bool y.1.den.g, .slice y.1.den.a y.1.den.n y.1.den.c] 28)).heap.size := by simp
      replace HI := hide ((unhide HI).later al)
      replace IY := hide ((unhide IY).later al)
      replace IZ := hide ((unhide IZ).later al)
      replace PA := hide ((unhide PA).later al)
      have L0 : (wr.alloc (.cells #[.bool y.1.num.g, .slice y.1.num.a y.1.num.n y.1.num.c, .bool y.1.den.g, .slice y.1.den.a y.1.den.n y.1.den.c] 28)).cell? ⟨b, off + (n - 1) * 4, none⟩ = some (.bool z.1.num.g) := by
        have e1 := (unhide HC) (n - 1) (by omega)
        rw [show l[n - 1]'(by omega) = z from (List.getElem?_eq_some_iff.1 (unhide HZ)).2] at e1
        exact ((unhide HI).bel.cell (p := ⟨b, off + (n - 1) * 4, none⟩) hb).trans (e1.1)
      have L1 : (wr.alloc (.cells #[.bool y.1.num.g, .slice y.1.num.a y.1.num.n y.1.num.c, .bool y.1.den.g, .slice y.1.den.a y.1.den.n y.1.den.c] 28)).cell? ⟨b, off + (n - 1) * 4 + 1, none⟩ = some (.slice z.1.num.a z.1.num.n z.1.num.c) := by
        have e1 := (unhide HC) (n - 1) (by omega)
        rw [show l[n - 1]'(by omega) = z from (List.getElem?_eq_some_iff.1 (unhide HZ)).2] at e1
        exact ((unhide HI).bel.cell (p := ⟨b, off + (n - 1) * 4 + 1, none⟩) hb).trans (e1.2.1)
      have L2 : (wr.alloc (.cells #[.bool y.1.num.g, .slice y.1.num.a y.1.num.n y.1.num.c, .bool y.1.den.g, .slice y.1.den.a y.1.den.n y.1.den.c] 28)).cell? ⟨b, off + (n - 1) * 4 + 2, none⟩ = some (.bool z.1.den.g) := by
        have e1 := (unhide HC) (n - 1) (by omega)
        rw [show l[n - 1]'(by omega) = z from (List.getElem?_eq_some_iff.1 (unhide HZ)).2] at e1
        exact ((unhide HI).bel.cell (p := ⟨b, off + (n - 1) * 4 + 2, none⟩) hb).trans (e1.2.2.1)
      have L3 : (wr.alloc (.cells #[.bool y.1.num.g, .slice y.1.num.a y.1.num.n y.1.num.c, .bool y.1.den.g, .slice y.1.den.a y.1.den.n y.1.den.c] 28)).cell? ⟨b, off + (n - 1) * 4 + 3, none⟩ = some (.slice z.1.den.a z.1.den.n z.1.den.c) := by
        have e1 := (unhide HC) (n - 1) (by omega)
        rw [show l[n - 1]'(by omega) = z from (List.getElem?_eq_some_iff.1 (unhide HZ)).2] at e1
        exact ((unhide HI).bel.cell (p := ⟨b, off + (n - 1) * 4 + 3, none⟩) hb).trans (e1.2.2.2)
      clear al E0 E1 E2 E3
      generalize (wr.alloc (.cells #[.bool y.1.num.g, .slice y.1.num.a y.1.num.n y.1.num.c, .bool y.1.den.g, .slice y.1.den.a y.1.den.n y.1.den.c] 28)) = w0 at *
      go_cut [6] (fun p wx => ∃ (GF : Nat) (v : QV), p = .pointer (some ⟨GF, 0, none⟩) ∧ Hid (FxQ w0 wx GF v (farQ t (nQ y.2, dQ y.2))))
      case first =>
        go_region_held3 (fun w' => w'.cell? ⟨wr.heap.size, 0, none⟩ = some (.bool y.1.num.g) ∧ w'.cell? ⟨wr.heap.size, 1, none⟩ = some (.slice y.1.num.a y.1.num.n y.1.num.c) ∧ w'.cell? ⟨wr.heap.size, 2, none⟩ = some (.bool y.1.den.g) ∧ w'.cell? ⟨wr.heap.size, 3, none⟩ = some (.slice y.1.den.a y.1.den.n y.1.den.c) ∧ w'.cell? ⟨b, off + (n - 1) * 4, none⟩ = some (.bool z.1.num.g) ∧ w'.cell? ⟨b, off + (n - 1) * 4 + 1, none⟩ = some (.slice z.1.num.a z.1.num.n z.1.num.c) ∧ w'.cell? ⟨b, off + (n - 1) * 4 + 2, none⟩ = some (.bool z.1.den.g) ∧ w'.cell? ⟨b, off + (n - 1) * 4 + 3, none⟩ = some (.slice z.1.den.a z.1.den.n z.1.den.c)) (with_reducible (first | exact ⟨T0, T1, T2, T3, L0, L1, L2, L3⟩ | exact ⟨cd_other T0, cd_other T1, cd_other T2, cd_other T3, cd_other L0, cd_other L1, cd_other L2, cd_other L3⟩ | exact ⟨ca_other T0, ca_other T1, ca_other T2, ca_other T3, ca_other L0, ca_other L1, ca_other L2, ca_other L3⟩ | exact ⟨cd_other (ca_other T0), cd_other (ca_other T1), cd_other (ca_other T2), cd_other (ca_other T3), cd_other (ca_other L0), cd_other (ca_other L1), cd_other (ca_other L2), cd_other (ca_other L3)⟩ | exact ⟨cs_other (cs_other (cs_other (cs_other (T0) (by omega)) (by omega)) (by omega)) (by omega), cs_other (cs_other (cs_other (cs_other (T1) (by omega)) (by omega)) (by omega)) (by omega), cs_other (cs_other (cs_other (cs_other (T2) (by omega)) (by omega)) (by omega)) (by omega), cs_other (cs_other (cs_other (cs_other (T3) (by omega)) (by omega)) (by omega)) (by omega), cs_other (cs_other (cs_other (cs_other (L0) (by omega)) (by omega)) (by omega)) (by omega), cs_other (cs_other (cs_other (cs_other (L1) (by omega)) (by omega)) (by omega)) (by omega), cs_other (cs_other (cs_other (cs_other (L2) (by omega)) (by omega)) (by omega)) (by omega), cs_other (cs_other (cs_other (cs_other (L3) (by omega)) (by omega)) (by omega)) (by omega)⟩ | fail))
          (first
          | (go_at_call 134; refine (divQS y.1 z.1 (nQ y.2) (dQ y.2) t.1 t.2 _ ?_ ?_ (unhide NZ) ((unhide IY).kn.mono (by omega)) ((unhide IY).kd.mono (by omega)) ((unhide TG).kn.mono (by omega)) ((unhide TG).kd.mono (by omega))).mono ?_; (first | exact (unhide IY).is.later (Below.refl _ _).drew | exact (unhide IY).is.later ((Below.refl _ _).alloc (Nat.le_refl _) _).drew); (first | (rw [unhide TT]; exact (unhide IZ).is.later (Below.refl _ _).drew) | (rw [unhide TT]; exact (unhide IZ).is.later ((Below.refl _ _).alloc (Nat.le_refl _) _).drew)); rintro e wa ⟨x1, rfl, hb9, ow1, ow2⟩; have hbx : Below w0.heap.size w0 wa := (by first | exact below_of_drew hb9 | exact bad hb9); have sz0 := hbx.size; replace T0 := cell_later hbx T0; replace T1 := cell_later hbx T1; replace T2 := cell_later hbx T2; replace T3 := cell_later hbx T3; replace L0 := cell_later hbx L0; replace L1 := cell_later hbx L1; replace L2 := cell_later hbx L2; replace L3 := cell_later hbx L3; replace IY := hide ((unhide IY).later hbx); replace IZ := hide ((unhide IZ).later hbx); (try (replace gf := fun o => frozen_later hbx (World.block_lt_of_cell? _ _ g0) (gf o); replace g0 := cell_later hbx g0; replace g1 := cell_later hbx g1; replace g2 := cell_later hbx g2; replace g3 := cell_later hbx g3)); (try (refine cutP (p := wa.cell? ⟨w0.heap.size, 0, none⟩ = some (.bool false) ∧ wa.cell? ⟨w0.heap.size, 1, none⟩ = some (.slice none 0 0) ∧ wa.cell? ⟨w0.heap.size, 2, none⟩ = some (.bool false) ∧ wa.cell? ⟨w0.heap.size, 3, none⟩ = some (.slice none 0 0) ∧ ∀ o, wa.frozen? ⟨w0.heap.size, o, none⟩ = false) ?_ (fun dd => ?_); (focus (refine ⟨cell_later hb9 ?_, cell_later hb9 ?_, cell_later hb9 ?_, cell_later hb9 ?_, fun o => frozen_later hb9 ?_ ?_⟩ <;> (simp [go_sem]; done))); obtain ⟨g0, g1, g2, g3, gf⟩ := dd)); have zz0 := hb9.size; (try simp at zz0); have HBr := hide hbx; have D1 : Hid (OwE wa x1.num _) := hide ⟨_, _, ow1⟩; have D2 : Hid (OwE wa x1.den _) := hide ⟨_, _, ow2⟩; clear hb9 hbx ow1 ow2)
          | (go_at_call 133; (first | refine (absS x1 _ _ _ (unhide D1) (unhide D2) (lowN_bd (((unhide IY).kn.mul (unhide TG).kd).mono (by omega)))).mono ?_ | refine (absS x1 _ _ _ ((unhide D1).later ((Below.refl _ _).alloc (Nat.le_refl _) _)) ((unhide D2).later ((Below.refl _ _).alloc (Nat.le_refl _) _)) (lowN_bd (((unhide IY).kn.mul (unhide TG).kd).mono (by omega)))).mono ?_); rintro e wb ⟨v, rfl, hb9, ow1, ow2⟩; have hbx : Below wa.heap.size wa wb := (by first | exact hb9 | exact ba hb9); have sz1 := hbx.size; replace T0 := cell_later hbx T0; replace T1 := cell_later hbx T1; replace T2 := cell_later hbx T2; replace T3 := cell_later hbx T3; replace L0 := cell_later hbx L0; replace L1 := cell_later hbx L1; replace L2 := cell_later hbx L2; replace L3 := cell_later hbx L3; replace IY := hide ((unhide IY).later hbx); replace IZ := hide ((unhide IZ).later hbx); (try (replace gf := fun o => frozen_later hbx (World.block_lt_of_cell? _ _ g0) (gf o); replace g0 := cell_later hbx g0; replace g1 := cell_later hbx g1; replace g2 := cell_later hbx g2; replace g3 := cell_later hbx g3)); (try (refine cutP (p := wb.cell? ⟨wa.heap.size, 0, none⟩ = some (.bool false) ∧ wb.cell? ⟨wa.heap.size, 1, none⟩ = some (.slice none 0 0) ∧ wb.cell? ⟨wa.heap.size, 2, none⟩ = some (.bool false) ∧ wb.cell? ⟨wa.heap.size, 3, none⟩ = some (.slice none 0 0) ∧ ∀ o, wb.frozen? ⟨wa.heap.size, o, none⟩ = false) ?_ (fun dd => ?_); (focus (refine ⟨cell_later hb9 ?_, cell_later hb9 ?_, cell_later hb9 ?_, cell_later hb9 ?_, fun o => frozen_later hb9 ?_ ?_⟩ <;> (simp [go_sem]; done))); obtain ⟨g0, g1, g2, g3, gf⟩ := dd)); have zz1 := hb9.size; (try simp at zz1); have HBr := hide (below_on (unhide HBr) hbx); have O1 : Hid (OwE wb v.num (farQ t (nQ y.2, dQ y.2)).1) := hide ow1; have O2 : Hid (OwE wb v.den (farQ t (nQ y.2, dQ y.2)).2) := hide ow2; clear hb9 hbx ow1 ow2))
        all_goals go_wp2_with fail
        all_goals go_meet
        all_goals first
          | (with_reducible refine ⟨_, v, rfl, hide (fxQ_alloc (c := farQ t (nQ y.2, dQ y.2)) 28 (unhide HBr) (unhide O1) (unhide O2))⟩)
          | (with_reducible refine ⟨_, v, rfl, hide (fxQ_set (c := farQ t (nQ y.2, dQ y.2)) (unhide HBr) (unhide O1) (unhide O2) ?_ g0 g1 g2 g3 gf)⟩ <;> first | omega | (simp; done) | (simp; omega))
      case rest =>
        obtain ⟨GF, v, rfl, HF⟩ := hcut
        have hbc := (unhide HF).bel
        have gl := (unhide HF).lo
        have gh := (unhide HF).hi
        replace HI := hide ((unhide HI).later hbc)
        clear hbc IY IZ PA T0 T1 T2 T3 L0 L1 L2 L3
        have f0 := (unhide HF).c0
        have f1 := (unhide HF).c1
        have f2 := (unhide HF).c2
        have f3 := (unhide HF).c3
        have ff := (unhide HF).fr
        have FO := hide (unhide HF).own
        clear HF
        obtain ⟨x, hx⟩ : ∃ x : QV, x = v := ⟨_, rfl⟩
        subst hx
        clear ff
        obtain ⟨u, c0, c1, c2, c3, h4, h5⟩ := (unhide HI).val
        have IU : Hid (IsQ wc u V.1 V.2) := hide ⟨h4.is, h5.is⟩
        have IF : Hid (IsQ wc x (farQ t (nQ y.2, dQ y.2)).1 (farQ t (nQ y.2, dQ y.2)).2) := hide ⟨(unhide FO).1.is, (unhide FO).2.is⟩
        clear h4 h5
        have MQ : Hid (V2 = if 0 < cmpZ ((farQ t (nQ y.2, dQ y.2)).1 * V.2) (V.1 * (farQ t (nQ y.2, dQ y.2)).2) then farQ t (nQ y.2, dQ y.2) else V) := hide (unhide CP)
        clear CP
        obtain ⟨f, hf⟩ : ∃ f, f = farQ t (nQ y.2, dQ y.2) := ⟨_, rfl⟩
        rw [← hf] at IF FO MQ FF
        clear hf
        go_wp2_with fail
        refine (cmpQS x u f.1 f.2 V.1 V.2 _ (unhide IF) (unhide IU) ((unhide FF).kn.mono (by omega)) ((unhide FF).kd.mono (by omega)) ((unhide FG).kn.mono (by omega)) ((unhide FG).kd.mono (by omega))).mono ?_
        rintro e w8 ⟨rfl, hb8⟩
        have sz8 := hb8.size
        replace HI := hide ((unhide HI).later hb8)
        replace FO := hide (And.intro ((unhide FO).1.later hb8) ((unhide FO).2.later hb8))
        replace f0 := cell_later hb8 f0
        replace f1 := cell_later hb8 f1
        replace f2 := cell_later hb8 f2
        replace f3 := cell_later hb8 f3
        replace c0 := cell_later hb8 c0
        replace c1 := cell_later hb8 c1
        replace c2 := cell_later hb8 c2
        replace c3 := cell_later hb8 c3
        have gfr := (unhide HI).gf
        clear hb8 IU IF
        by_cases hc : 0 < cmpZ (f.1 * V.2) (V.1 * f.2)
        · rw [if_pos hc] at MQ
          generalize cmpZ (f.1 * V.2) (V.1 * f.2) = cc at *
          go_wp2
          go_roundw
          case rel => exact ⟨i + 1, by omega, by go_num, hide (by rw [← unhide HV2, unhide MQ]; exact bnI_set (unhide HI) (unhide FO).1 (unhide FO).2)⟩
          case measure => simp [intOf]; omega
        · rw [if_neg hc] at MQ
          generalize cmpZ (f.1 * V.2) (V.1 * f.2) = cc at *
          go_wp2
          go_roundw
          case rel => exact ⟨i + 1, by omega, by go_num, hide (by rw [← unhide HV2, unhide MQ]; exact unhide HI)⟩
          case measure => simp [intOf]; omega
    · obtain rfl : i = n - 1 := by omega
      have hlt' : ¬ (((n - 1 : Nat) : Int) < (n : Int) - 1) := by omega
      have FG := hide ((unhide FGA) (n - 1))
      rw [← unhide HVF] at HI FG
      have r0 := (unhide HI).r0
      have r1 := (unhide HI).r1
      have r2 := (unhide HI).r2
      have r3 := (unhide HI).r3
      have rf := (unhide HI).rf
      obtain ⟨u, c0, c1, c2, c3, h4, h5⟩ := (unhide HI).val
      have IU : Hid (IsQ wr u VF.1 VF.2) := hide ⟨h4.is, h5.is⟩
      have glt := (unhide HI).lt
      have ggt := (unhide HI).gt
      clear h4 h5
      have EQ1 : Hid (VF.1 * 1 + 1 * VF.2 = VF.1 + VF.2) := hide (by omega)
      have EQ2 : Hid (VF.2 * 1 = VF.2) := hide (by omega)
      go_upto_region 9 with fail
      go_region_with (first
        | (go_at_call 98; refine (wholeS 1 _ (by omega) (by omega)).mono ?_; rintro e w2 ⟨q1, zs1, us1, rfl, hb9, o1, a1, m1, m2⟩; have hbx := below_of_drew hb9; have sz2 := hbx.size; replace HI := hide ((unhide HI).later hbx); replace IU := hide ((unhide IU).later hbx); replace rf := fun o => frozen_later hbx (World.block_lt_of_cell? _ _ r0) (rf o); replace r0 := cell_later hbx r0; replace r1 := cell_later hbx r1; replace r2 := cell_later hbx r2; replace r3 := cell_later hbx r3; replace c0 := cell_later hbx c0; replace c1 := cell_later hbx c1; replace c2 := cell_later hbx c2; replace c3 := cell_later hbx c3; have IO : Hid (IsQ w2 q1 1 1) := hide ⟨⟨zs1, a1.head, m1⟩, ⟨us1, a1.tail.head, m2⟩⟩; clear hb9 hbx o1 a1 m1 m2)
        | (go_at_call 135; refine (addQS u q1 VF.1 VF.2 1 1 _ (unhide IU) (unhide IO) (by have := (unhide FG).pos; omega) ((unhide FG).kn.mono (by omega)) ((unhide FG).kd.mono (by omega)) ((Bd.small (by decide)).mono (by omega)) ((Bd.small (by decide)).mono (by omega))).mono ?_; rw [unhide EQ1, unhide EQ2]; rintro e w3 ⟨v, rfl, hb9, o3, o4⟩; have sz3 := hb9.size; replace HI := hide ((unhide HI).later hb9); replace rf := fun o => frozen_later hb9 (World.block_lt_of_cell? _ _ r0) (rf o); replace r0 := cell_later hb9 r0; replace r1 := cell_later hb9 r1; replace r2 := cell_later hb9 r2; replace r3 := cell_later hb9 r3; replace c0 := cell_later hb9 c0; replace c1 := cell_later hb9 c1; replace c2 := cell_later hb9 c2; replace c3 := cell_later hb9 c3; have O3 := hide o3; have O4 := hide o4; clear hb9 o3 o4))
      all_goals go_wp2
      all_goals refine bodyPost_ret (v := .agg #[.bool v.num.g, .slice v.num.a v.num.n v.num.c, .bool v.den.g, .slice v.den.a v.den.n v.den.c]) (by simp [results, Tryz.results63, go_sem, r0, r1, r2, r3]) rfl ?_
      all_goals
        have bt := metQ_but (w5 := w3) (v := v) (G := w.heap.size)
        exact ⟨v, rfl, bt.below (unhide HI).bel (Nat.le_refl _) (unhide HI).bel.size, ((unhide O3).but bt (.inr (by omega))).wide (by omega) bt.size, ((unhide O4).but bt (.inr (by omega))).wide (by omega) bt.size⟩
end Go.Proofs.YtliaddmkomcmnaaGreat
namespace Go.Proofs.YtliaddmkomcmnaaGreat
open Go.RowKit
set_option linter.unusedVariables false
set_option maxRecDepth 100000
set_option linter.unusedSimpArgs false

theorem good_bd1 {w : World} {q : QV} {d : QD} (h : AllAr w [(q.num, d.num), (q.den, d.den)]) (g : IsGood w q d) (hs : sm1 d = true) : Fg 1 (nQ d, dQ d) := by
  unfold sm1 at hs
  simp only [Bool.and_eq_true, decide_eq_true_eq] at hs
  obtain ⟨xs, a1, n1⟩ := g.is.1
  obtain ⟨us, a2, n2⟩ := g.is.2
  have e1 := a1.ar.len
  have e2 := a2.ar.len
  have e3 := h.head.ar.len
  have e4 := h.tail.head.ar.len
  simp only at e1 e2 e3 e4
  exact ⟨g.pos, n1.bd (by omega), n2.bd (by omega)⟩
theorem good_ne {w : World} {q : QV} {d : QD} (h : AllAr w [(q.num, d.num), (q.den, d.den)]) (g : IsGood w q d) (hs : nz d = false) : nQ d ≠ 0 := by
  unfold nz at hs
  simp only [decide_eq_false_iff_not] at hs
  obtain ⟨xs, a1, n1⟩ := g.is.1
  have e1 := a1.ar.len
  have e3 := h.head.ar.len
  simp only at e1 e3
  intro e
  have := n1.nil_iff.2 (by omega)
  rw [this] at e1
  simp at e1
  omega
/-- The bound, by the coefficients. -/
def rbV (ds : List QD) : Int × Int := match ds.getLast? with
  | none => (0, 1)
  | some z => bndA (bnd (nQ z, dQ z) ((ds.take (ds.length - 1)).map fun e => (nQ e, dQ e)))
theorem rbV_eq {l : List (QV × QD)} {n : Nat} {z : QV × QD} (hl : l.length = n) (hz : l[n - 1]? = some z) : rbV (l.map Prod.snd) = bndA (bnd (nQ z.2, dQ z.2) ((l.take (n - 1)).map (fun y : QV × QD => (nQ y.2, dQ y.2)))) := by
  have e : (l.map Prod.snd).getLast? = some z.2 := by
    rw [List.getLast?_eq_getElem?, List.getElem?_map, List.length_map, hl, hz]
    rfl
  unfold rbV
  rw [e, List.length_map, hl, ← List.map_take, List.map_map]
  rfl
structure RbF (w : World) (n : Nat) (l : List (QV × QD)) (z : QV × QD) : Prop where
  two : 2 ≤ n
  sev : n ≤ 7
  good : ∀ y ∈ l, IsGood w y.1 y.2
  ne : nQ z.2 ≠ 0
  low : 0 < (bndA (bnd (nQ z.2, dQ z.2) ((l.take (n - 1)).map (fun y : QV × QD => (nQ y.2, dQ y.2))))).2
  kn : Bd (bndA (bnd (nQ z.2, dQ z.2) ((l.take (n - 1)).map (fun y : QV × QD => (nQ y.2, dQ y.2))))).1 3
  kd : Bd (bndA (bnd (nQ z.2, dQ z.2) ((l.take (n - 1)).map (fun y : QV × QD => (nQ y.2, dQ y.2))))).2 2
theorem rb_facts {w : World} {a : Option Addr} {n c : Nat} {l : List (QV × QD)} {z : QV × QD} (h : PArQ w a n c l) (hr : rP (l.map Prod.snd) = true) (hz : l[n - 1]? = some z) : RbF w n l z := by
  unfold rP at hr
  simp only [Bool.and_eq_true, decide_eq_true_eq, List.length_map, h.len] at hr
  obtain ⟨⟨⟨h2, h5⟩, hs⟩, hg⟩ := hr
  have hm := List.all_eq_true.1 hs
  have hgl : ∀ y ∈ l, IsGood w y.1 y.2 := fun y hy => by
    unfold gP at hg
    simp only [Bool.and_eq_true] at hg
    have h3 := List.all_eq_true.1 hg.1.2 y.2 (List.mem_map.2 ⟨y, hy, rfl⟩)
    unfold gC at h3
    simp only [Bool.and_eq_true] at h3
    exact isGood_of (h.rd y hy) h3.2
  have b1 : ∀ y ∈ l, Fg 1 (nQ y.2, dQ y.2) := fun y hy => good_bd1 (h.rd y hy) (hgl y hy) (hm y.2 (List.mem_map.2 ⟨y, hy, rfl⟩))
  have mz : z ∈ l := by obtain ⟨h1, h2⟩ := List.getElem?_eq_some_iff.1 hz; rw [← h2]; exact List.getElem_mem _
  have hne : nQ z.2 ≠ 0 := by
    refine good_ne (h.rd z mz) (hgl z mz) ?_
    unfold gP at hg
    simp only [Bool.and_eq_true] at hg
    have h3 := hg.2
    unfold lastOk at h3
    have e : (l.map Prod.snd).getLast? = some z.2 := by
      rw [List.getLast?_eq_getElem?, List.getElem?_map, List.length_map, h.len, hz]
      rfl
    rw [e] at h3
    simpa using h3
  have fg := bnd_fg (b1 z mz) hne (Nat.le_refl _) ((l.take (n - 1)).map (fun y : QV × QD => (nQ y.2, dQ y.2))) (fun c hc => by
    obtain ⟨y, hy, rfl⟩ := List.mem_map.1 hc
    exact b1 y (List.mem_of_mem_take hy))
  have fp := fg.pos
  exact ⟨h2, by omega, hgl, hne, lowD_pos (by omega), lowN_bd ((fg.kn.add fg.kd).mono (by omega)), lowD_bd fg.kd⟩
theorem ansQ_fit {N D : Int} {zs us : List Int} (h1 : Nm zs N.natAbs) (h2 : Nm us D.natAbs) (k1 : Bd N 3) (k2 : Bd D 2) : AnsQ true N D ⟨⟨decide (N < 0), zs⟩, ⟨decide (D < 0), us⟩⟩ true :=
  .inl ⟨rfl, zs, us, h1, h2, .inl ⟨by have := h1.len_le k1; omega, by have := h2.len_le k2; omega, rfl, rfl⟩⟩
set_option maxHeartbeats 4000000 in
theorem RBndI (a : Option Addr) (n c : Nat) (l : List (QV × QD)) (w : World) (h : PArQ w a n c l) :
    Calls Tryz.prog 17 #[.slice a n c] w (RetQ w (AnsQ (rP (l.map Prod.snd)) (rbV (l.map Prod.snd)).1 (rbV (l.map Prod.snd)).2)) := by
  have CR := hide (fun w1 (k : PArQ w1 a n c l) => RootsPI a n c l w1 k)
  cases hr : rP (l.map Prod.snd)
  · rw [hr] at CR
    clear hr
    have H0 := hide h
    clear h
    have B0 := hide (show Below w.heap.size w (w.alloc (.cells #[.bool false, .slice none 0 0, .bool false, .slice none 0 0] 28)) from ((Below.refl _ _).alloc (by simp) _))
    go_enter Tryz.func17, Tryz.ntmps17
    go_wp2_with fail
    refine (unhide CR _ ((unhide H0).later (unhide B0))).mono ?_
    rintro e w1 ⟨rfl, hb⟩
    have s1 : w.heap.size < w1.heap.size := by have := hb.size; simp at this; omega
    have k0_0 : w1.cell? ⟨w.heap.size, 0, none⟩ = some (.bool false) := cell_later hb (by simp [go_sem])
    have k0_1 : w1.cell? ⟨w.heap.size, 1, none⟩ = some (.slice none 0 0) := cell_later hb (by simp [go_sem])
    have k0_2 : w1.cell? ⟨w.heap.size, 2, none⟩ = some (.bool false) := cell_later hb (by simp [go_sem])
    have k0_3 : w1.cell? ⟨w.heap.size, 3, none⟩ = some (.slice none 0 0) := cell_later hb (by simp [go_sem])
    have z0 : ∀ o, w1.frozen? ⟨w.heap.size, o, none⟩ = false := fun o => frozen_later hb (by simp) (by simp [go_sem])
    have HB := hide (below_on (unhide B0) hb)
    clear hb
    go_wp2
    refine bodyPost_ret (v := .tuple #[.agg #[.bool false, .slice none 0 0, .bool false, .slice none 0 0], .bool false]) (by simp [results, Tryz.results17, go_sem, k0_0, k0_1, k0_2, k0_3]) rfl ?_
    exact retQ_fin (v := (⟨⟨false, none, 0, 0⟩, ⟨false, none, 0, 0⟩⟩ : QV)) (d := (⟨⟨false, []⟩, ⟨false, []⟩⟩ : QD)) (R := w.heap.size) (by omega) (unhide HB) (metQ_but (w5 := w1) (v := (⟨⟨false, none, 0, 0⟩, ⟨false, none, 0, 0⟩⟩ : QV)) (G := w.heap.size)) (zeroQ _ _ _) (ansQ_none _ _)
  · rw [hr] at CR
    have h2 : 2 ≤ n := by unfold rP at hr; simp only [Bool.and_eq_true, decide_eq_true_eq, List.length_map, h.len] at hr; exact hr.1.1.1
    obtain ⟨z, hz⟩ : ∃ z, l[n - 1]? = some z := ⟨_, List.getElem?_eq_getElem (by rw [h.len]; omega)⟩
    have RF := hide (rb_facts h hr hz)
    rw [rbV_eq h.len hz]
    have HZ := hide hz
    have H0 := hide h
    clear h hr hz
    have B0 := hide (show Below w.heap.size w (w.alloc (.cells #[.bool false, .slice none 0 0, .bool false, .slice none 0 0] 28)) from ((Below.refl _ _).alloc (by simp) _))
    go_enter Tryz.func17, Tryz.ntmps17
    go_wp2_with fail
    refine (unhide CR _ ((unhide H0).later (unhide B0))).mono ?_
    rintro e w1 ⟨rfl, hb⟩
    have s1 : w.heap.size < w1.heap.size := by have := hb.size; simp at this; omega
    have k0_0 : w1.cell? ⟨w.heap.size, 0, none⟩ = some (.bool false) := cell_later hb (by simp [go_sem])
    have k0_1 : w1.cell? ⟨w.heap.size, 1, none⟩ = some (.slice none 0 0) := cell_later hb (by simp [go_sem])
    have k0_2 : w1.cell? ⟨w.heap.size, 2, none⟩ = some (.bool false) := cell_later hb (by simp [go_sem])
    have k0_3 : w1.cell? ⟨w.heap.size, 3, none⟩ = some (.slice none 0 0) := cell_later hb (by simp [go_sem])
    have z0 : ∀ o, w1.frozen? ⟨w.heap.size, o, none⟩ = false := fun o => frozen_later hb (by simp) (by simp [go_sem])
    have HB := hide (below_on (unhide B0) hb)
    clear hb
    go_wp2_with fail
    refine (boundI a n c l z (nQ z.2, dQ z.2) _ ((unhide H0).later (unhide HB)) (fun y hy => ((unhide RF).good y hy).later (unhide HB)) (unhide RF).two (unhide RF).sev (unhide HZ) rfl (unhide RF).ne).mono ?_
    rintro e w2 ⟨r, zs, us, rfl, hb, or, ar, n1, n2⟩
    have s2 := hb.size
    have NN := hide (And.intro n1 n2)
    replace z0 := fun o => frozen_later hb (World.block_lt_of_cell? _ _ k0_0) (z0 o)
    replace k0_0 := cell_later hb k0_0
    replace k0_1 := cell_later hb k0_1
    replace k0_2 := cell_later hb k0_2
    replace k0_3 := cell_later hb k0_3
    have OR := hide (or)
    replace HB := hide (below_on (unhide HB) hb)
    clear hb
    clear or ar n1 n2
    go_wp2
    refine bodyPost_ret (v := .tuple #[.agg #[.bool r.num.g, .slice r.num.a r.num.n r.num.c, .bool r.den.g, .slice r.den.a r.den.n r.den.c], .bool true]) (by simp [results, Tryz.results17, go_sem, k0_0, k0_1, k0_2, k0_3]) rfl ?_
    exact retQ_fin (v := r) (R := w.heap.size) (Nat.le_refl _) (unhide HB) (metQ_but (w5 := w2) (v := r) (G := w.heap.size)) ((unhide OR).wide (by omega) (by omega)) (ansQ_fit (unhide NN).1 (unhide NN).2 (unhide RF).kn (unhide RF).kd)
set_option maxHeartbeats 4000000 in
theorem RBndS (a : Option Addr) (n c : Nat) (l : List (QV × QD)) (w : World) (h : PArQ w a n c l) :
    Calls Tryz.prog 18 #[.slice a n c] w (RetQ w (AnsQ (rP (l.map Prod.snd)) (rbV (l.map Prod.snd)).1 (rbV (l.map Prod.snd)).2)) := by
  have CR := hide (fun w1 (k : PArQ w1 a n c l) => RootsPS a n c l w1 k)
  cases hr : rP (l.map Prod.snd)
  · rw [hr] at CR
    clear hr
    have H0 := hide h
    clear h
    have B0 := hide (show Below w.heap.size w (w.alloc (.cells #[.bool false, .slice none 0 0, .bool false, .slice none 0 0] 28)) from ((Below.refl _ _).alloc (by simp) _))
    go_enter Tryz.func18, Tryz.ntmps18
    go_wp2_with fail
    refine (unhide CR _ ((unhide H0).later (unhide B0))).mono ?_
    rintro e w1 ⟨rfl, hb⟩
    have s1 : w.heap.size < w1.heap.size := by have := hb.size; simp at this; omega
    have k0_0 : w1.cell? ⟨w.heap.size, 0, none⟩ = some (.bool false) := cell_later hb (by simp [go_sem])
    have k0_1 : w1.cell? ⟨w.heap.size, 1, none⟩ = some (.slice none 0 0) := cell_later hb (by simp [go_sem])
    have k0_2 : w1.cell? ⟨w.heap.size, 2, none⟩ = some (.bool false) := cell_later hb (by simp [go_sem])
    have k0_3 : w1.cell? ⟨w.heap.size, 3, none⟩ = some (.slice none 0 0) := cell_later hb (by simp [go_sem])
    have z0 : ∀ o, w1.frozen? ⟨w.heap.size, o, none⟩ = false := fun o => frozen_later hb (by simp) (by simp [go_sem])
    have HB := hide (below_on (unhide B0) hb)
    clear hb
    go_wp2
    refine bodyPost_ret (v := .tuple #[.agg #[.bool false, .slice none 0 0, .bool false, .slice none 0 0], .bool false]) (by simp [results, Tryz.results18, go_sem, k0_0, k0_1, k0_2, k0_3]) rfl ?_
    exact retQ_fin (v := (⟨⟨false, none, 0, 0⟩, ⟨false, none, 0, 0⟩⟩ : QV)) (d := (⟨⟨false, []⟩, ⟨false, []⟩⟩ : QD)) (R := w.heap.size) (by omega) (unhide HB) (metQ_but (w5 := w1) (v := (⟨⟨false, none, 0, 0⟩, ⟨false, none, 0, 0⟩⟩ : QV)) (G := w.heap.size)) (zeroQ _ _ _) (ansQ_none _ _)
  · rw [hr] at CR
    have h2 : 2 ≤ n := by unfold rP at hr; simp only [Bool.and_eq_true, decide_eq_true_eq, List.length_map, h.len] at hr; exact hr.1.1.1
    obtain ⟨z, hz⟩ : ∃ z, l[n - 1]? = some z := ⟨_, List.getElem?_eq_getElem (by rw [h.len]; omega)⟩
    have RF := hide (rb_facts h hr hz)
    rw [rbV_eq h.len hz]
    have HZ := hide hz
    have H0 := hide h
    clear h hr hz
    have B0 := hide (show Below w.heap.size w (w.alloc (.cells #[.bool false, .slice none 0 0, .bool false, .slice none 0 0] 28)) from ((Below.refl _ _).alloc (by simp) _))
    go_enter Tryz.func18, Tryz.ntmps18
    go_wp2_with fail
    refine (unhide CR _ ((unhide H0).later (unhide B0))).mono ?_
    rintro e w1 ⟨rfl, hb⟩
    have s1 : w.heap.size < w1.heap.size := by have := hb.size; simp at this; omega
    have k0_0 : w1.cell? ⟨w.heap.size, 0, none⟩ = some (.bool false) := cell_later hb (by simp [go_sem])
    have k0_1 : w1.cell? ⟨w.heap.size, 1, none⟩ = some (.slice none 0 0) := cell_later hb (by simp [go_sem])
    have k0_2 : w1.cell? ⟨w.heap.size, 2, none⟩ = some (.bool false) := cell_later hb (by simp [go_sem])
    have k0_3 : w1.cell? ⟨w.heap.size, 3, none⟩ = some (.slice none 0 0) := cell_later hb (by simp [go_sem])
    have z0 : ∀ o, w1.frozen? ⟨w.heap.size, o, none⟩ = false := fun o => frozen_later hb (by simp) (by simp [go_sem])
    have HB := hide (below_on (unhide B0) hb)
    clear hb
    go_wp2_with fail
    refine (boundS a n c l z (nQ z.2, dQ z.2) _ ((unhide H0).later (unhide HB)) (fun y hy => ((unhide RF).good y hy).later (unhide HB)) (unhide RF).two (unhide RF).sev (unhide HZ) rfl (unhide RF).ne).mono ?_
    rintro e w2 ⟨r, rfl, hb, or1, or2⟩
    have s2 := hb.size
    replace z0 := fun o => frozen_later hb (World.block_lt_of_cell? _ _ k0_0) (z0 o)
    replace k0_0 := cell_later hb k0_0
    replace k0_1 := cell_later hb k0_1
    replace k0_2 := cell_later hb k0_2
    replace k0_3 := cell_later hb k0_3
    have OR1 := hide (or1)
    have OR2 := hide (or2)
    replace HB := hide (below_on (unhide HB) hb)
    clear hb
    clear or1 or2
    go_wp2_with fail
    refine (fitsQS r _ _ _ ⟨(unhide OR1).is, (unhide OR2).is⟩ (unhide RF).low).mono ?_
    rintro e w3 ⟨v, dv, ok, rfl, hb, ov, hu⟩
    have s3 := hb.size
    have UU := hide hu
    replace z0 := fun o => frozen_later hb (World.block_lt_of_cell? _ _ k0_0) (z0 o)
    replace k0_0 := cell_later hb k0_0
    replace k0_1 := cell_later hb k0_1
    replace k0_2 := cell_later hb k0_2
    replace k0_3 := cell_later hb k0_3
    replace OR1 := hide ((unhide OR1).later hb)
    replace OR2 := hide ((unhide OR2).later hb)
    have OV := hide (ov)
    replace HB := hide (below_on (unhide HB) hb)
    clear hb
    clear ov hu
    go_wp2
    refine bodyPost_ret (v := .tuple #[.agg #[.bool v.num.g, .slice v.num.a v.num.n v.num.c, .bool v.den.g, .slice v.den.a v.den.n v.den.c], .bool ok]) (by simp [results, Tryz.results18, go_sem, k0_0, k0_1, k0_2, k0_3]) rfl ?_
    exact retQ_fin (v := v) (d := dv) (R := w.heap.size) (Nat.le_refl _) (unhide HB) (metQ_but (w5 := w3) (v := v) (G := w.heap.size)) ((unhide OV).wide (by omega) (by omega)) (unhide UU)
end Go.Proofs.YtliaddmkomcmnaaGreat
namespace Go.Proofs.YtliaddmkomcmnaaGreat
open Go.RowKit
set_option linter.unusedVariables false
set_option maxRecDepth 100000
set_option linter.unusedSimpArgs false

/-- The mark that stands for a sign. -/
def sg (k : Int) : Bool := (k % 3 == 0)
/-- The cells of some fractions from block G's start on. -/
def RowQ (w : World) (G : Nat) (l : List (QV × QD)) : Prop := ∃ cur, w.heap[G]? = some (.cells cur 28 (0, 0)) ∧ ∀ j p, l[j]? = some p → cur[j * 4]? = some (.bool p.1.num.g) ∧ cur[j * 4 + 1]? = some (.slice p.1.num.a p.1.num.n p.1.num.c) ∧ cur[j * 4 + 2]? = some (.bool p.1.den.g) ∧ cur[j * 4 + 3]? = some (.slice p.1.den.a p.1.den.n p.1.den.c)
theorem mid_ne {α : Type} {pre post : List α} {y y' : α} {j : Nat} (h : j ≠ pre.length) : (pre ++ y :: post)[j]? = (pre ++ y' :: post)[j]? := by
  by_cases c : j < pre.length
  · rw [List.getElem?_append_left c, List.getElem?_append_left c]
  · rw [List.getElem?_append_right (by omega), List.getElem?_append_right (by omega)]
    obtain ⟨m, hm⟩ : ∃ m, j - pre.length = m + 1 := ⟨j - pre.length - 1, by omega⟩
    rw [hm, List.getElem?_cons_succ, List.getElem?_cons_succ]
theorem mid_eq {α : Type} {pre post : List α} {y : α} : (pre ++ y :: post)[pre.length]? = some y := by
  rw [List.getElem?_append_right (Nat.le_refl _), Nat.sub_self]; rfl
theorem RowQ.lt {w : World} {G : Nat} {l : List (QV × QD)} (h : RowQ w G l) : G < w.heap.size := by
  obtain ⟨cur, hg, _⟩ := h
  exact (Array.getElem?_eq_some_iff.1 hg).1
theorem RowQ.cellsAt {w : World} {G : Nat} {l : List (QV × QD)} (h : RowQ w G l) {i : Nat} {y : QV × QD} (hy : l[i]? = some y) : w.cell? ⟨G, i * 4, none⟩ = some (.bool y.1.num.g) ∧ w.cell? ⟨G, i * 4 + 1, none⟩ = some (.slice y.1.num.a y.1.num.n y.1.num.c) ∧ w.cell? ⟨G, i * 4 + 2, none⟩ = some (.bool y.1.den.g) ∧ w.cell? ⟨G, i * 4 + 3, none⟩ = some (.slice y.1.den.a y.1.den.n y.1.den.c) := by
  obtain ⟨cur, hg, hc⟩ := h
  have h1 := hc i y hy
  refine ⟨?_, ?_, ?_, ?_⟩ <;> rw [cell_of_row w G _ cur 28 (0, 0) hg]
  · exact h1.1
  · exact h1.2.1
  · exact h1.2.2.1
  · exact h1.2.2.2
theorem RowQ.frozen {w : World} {G : Nat} {l : List (QV × QD)} (h : RowQ w G l) (o : Nat) : w.frozen? ⟨G, o, none⟩ = false := by
  obtain ⟨cur, hg, hc⟩ := h
  exact frozen_of_row w G o cur 28 hg
theorem RowQ.but {w w' : World} {G lo hi : Nat} {l : List (QV × QD)} (h : RowQ w G l) (hb : But lo hi w w') (hG : G < lo ∨ hi ≤ G) : RowQ w' G l := by
  obtain ⟨cur, hg, hc⟩ := h
  exact ⟨cur, by rw [hb.block G (Array.getElem?_eq_some_iff.1 hg).1 hG]; exact hg, hc⟩
theorem RowQ.later {w w' : World} {G : Nat} {l : List (QV × QD)} (h : RowQ w G l) (hb : Below w.heap.size w w') : RowQ w' G l := by
  obtain ⟨cur, hg, hc⟩ := h
  exact ⟨cur, by rw [hb.block G (Array.getElem?_eq_some_iff.1 hg).1]; exact hg, hc⟩
theorem RowQ.g0 {w : World} {G i : Nat} {pre post : List (QV × QD)} {y : QV × QD} (g : Bool) (h : RowQ w G (pre ++ y :: post)) (hi : pre.length = i) : RowQ (w.setCell ⟨G, i * 4, none⟩ (.bool g)) G (pre ++ ((⟨⟨g, y.1.num.a, y.1.num.n, y.1.num.c⟩, y.1.den⟩ : QV), (⟨⟨g, y.2.num.xs⟩, y.2.den⟩ : QD)) :: post) := by
  obtain ⟨cur, hg, hc⟩ := h
  subst hi
  refine ⟨cur.setIfInBounds (pre.length * 4) (.bool g), heap_setCell_same w G (pre.length * 4) cur 28 (.bool g) hg, fun j p hp => ?_⟩
  by_cases e : j = pre.length
  · subst e
    rw [mid_eq] at hp
    obtain rfl := Option.some.inj hp
    have h1 := hc pre.length y mid_eq
    have hs : pre.length * 4 < cur.size := (Array.getElem?_eq_some_iff.1 (h1.1)).1
    refine ⟨?_, ?_, ?_, ?_⟩
    · simp [hs]
    · rw [Array.getElem?_setIfInBounds_ne (by omega)]; exact h1.2.1
    · rw [Array.getElem?_setIfInBounds_ne (by omega)]; exact h1.2.2.1
    · rw [Array.getElem?_setIfInBounds_ne (by omega)]; exact h1.2.2.2
  · rw [mid_ne e (y' := y)] at hp
    have h1 := hc j p hp
    refine ⟨?_, ?_, ?_, ?_⟩
    · rw [Array.getElem?_setIfInBounds_ne (by omega)]; exact h1.1
    · rw [Array.getElem?_setIfInBounds_ne (by omega)]; exact h1.2.1
    · rw [Array.getElem?_setIfInBounds_ne (by omega)]; exact h1.2.2.1
    · rw [Array.getElem?_setIfInBounds_ne (by omega)]; exact h1.2.2.2
theorem RowQ.g2 {w : World} {G i : Nat} {pre post : List (QV × QD)} {y : QV × QD} (g : Bool) (h : RowQ w G (pre ++ y :: post)) (hi : pre.length = i) : RowQ (w.setCell ⟨G, i * 4 + 2, none⟩ (.bool g)) G (pre ++ ((⟨y.1.num, ⟨g, y.1.den.a, y.1.den.n, y.1.den.c⟩⟩ : QV), (⟨y.2.num, ⟨g, y.2.den.xs⟩⟩ : QD)) :: post) := by
  obtain ⟨cur, hg, hc⟩ := h
  subst hi
  refine ⟨cur.setIfInBounds (pre.length * 4 + 2) (.bool g), heap_setCell_same w G (pre.length * 4 + 2) cur 28 (.bool g) hg, fun j p hp => ?_⟩
  by_cases e : j = pre.length
  · subst e
    rw [mid_eq] at hp
    obtain rfl := Option.some.inj hp
    have h1 := hc pre.length y mid_eq
    have hs : pre.length * 4 + 2 < cur.size := (Array.getElem?_eq_some_iff.1 (h1.2.2.1)).1
    refine ⟨?_, ?_, ?_, ?_⟩
    · rw [Array.getElem?_setIfInBounds_ne (by omega)]; exact h1.1
    · rw [Array.getElem?_setIfInBounds_ne (by omega)]; exact h1.2.1
    · simp [hs]
    · rw [Array.getElem?_setIfInBounds_ne (by omega)]; exact h1.2.2.2
  · rw [mid_ne e (y' := y)] at hp
    have h1 := hc j p hp
    refine ⟨?_, ?_, ?_, ?_⟩
    · rw [Array.getElem?_setIfInBounds_ne (by omega)]; exact h1.1
    · rw [Array.getElem?_setIfInBounds_ne (by omega)]; exact h1.2.1
    · rw [Array.getElem?_setIfInBounds_ne (by omega)]; exact h1.2.2.1
    · rw [Array.getElem?_setIfInBounds_ne (by omega)]; exact h1.2.2.2
theorem AllOwn.resign {lo hi : Nat} {w w' : World} {pre post : List (BV × BD)} {b : BV} {d : BD} (g : Bool) (h : AllOwn lo hi w (pre ++ (b, d) :: post)) (hb : ∀ k, lo ≤ k → k < w.heap.size → w'.heap[k]? = w.heap[k]?) : AllOwn lo hi w' (pre ++ (⟨g, b.a, b.n, b.c⟩, ⟨g, d.xs⟩) :: post) := by
  have mv : ∀ (a : Option Addr) (zs : List Int), Own2 lo hi w a zs → Own2 lo hi w' a zs := fun a zs ho => by
    rcases ho with e | ⟨b', cur, e, h1, h2, hg, hc⟩
    · exact .inl e
    · exact .inr ⟨b', cur, e, h1, h2, by rw [hb b' h1 (Array.getElem?_eq_some_iff.1 hg).1]; exact hg, hc⟩
  refine ⟨fun p hp => ?_, ?_⟩
  · rcases List.mem_append.1 hp with hp | hp
    · have ho := h.own p (List.mem_append_left _ hp)
      exact ⟨ho.sg, mv _ _ ho.own, ho.len⟩
    · rcases List.mem_cons.1 hp with rfl | hp
      · have ho := h.own (b, d) (List.mem_append_right _ List.mem_cons_self)
        exact ⟨rfl, mv _ _ ho.own, ho.len⟩
      · have ho := h.own p (List.mem_append_right _ (List.mem_cons_of_mem _ hp))
        exact ⟨ho.sg, mv _ _ ho.own, ho.len⟩
  · obtain ⟨p1, p2, p3⟩ := List.pairwise_append.1 h.ap
    obtain ⟨p4, p5⟩ := List.pairwise_cons.1 p2
    refine List.pairwise_append.2 ⟨p1, List.pairwise_cons.2 ⟨fun q hq => p4 q hq, p5⟩, fun p hp q hq => ?_⟩
    rcases List.mem_cons.1 hq with rfl | hq
    · exact p3 p hp (b, d) List.mem_cons_self
    · exact p3 p hp q (List.mem_cons_of_mem _ hq)
theorem RowQ.data {w : World} {G : Nat} {pre post : List (QV × QD)} {v : QV} {d d' : QD} (h : RowQ w G (pre ++ (v, d) :: post)) : RowQ w G (pre ++ (v, d') :: post) := by
  obtain ⟨cur, hg, hc⟩ := h
  refine ⟨cur, hg, fun j p hp => ?_⟩
  by_cases e : j = pre.length
  · subst e
    rw [mid_eq] at hp
    obtain rfl := Option.some.inj hp
    exact hc pre.length (v, d) mid_eq
  · rw [mid_ne e (y' := (v, d))] at hp
    exact hc j p hp
theorem But.wide {lo hi lo' hi' : Nat} {w w' : World} (h : But lo hi w w') (h1 : lo' ≤ lo) (h2 : hi ≤ hi') : But lo' hi' w w' := ⟨h.os, h.tape, h.output, h.size, fun k hk hd => h.block k hk (by omega)⟩
theorem setCell_other {w : World} {G o k : Nat} {v : Value} (h : k ≠ G) : (w.setCell ⟨G, o, none⟩ v).heap[k]? = w.heap[k]? := heap_setCell_other w ⟨G, o, none⟩ k v h
theorem zip_mid (pre post : List (QV × QD)) (y : QV × QD) : zipPQ (pre ++ y :: post) = zipPQ pre ++ (y.1.num, y.2.num) :: ((y.1.den, y.2.den) :: zipPQ post) := by simp [zipPQ]
theorem zip_mid2 (pre post : List (QV × QD)) (y : QV × QD) : zipPQ (pre ++ y :: post) = (zipPQ pre ++ [(y.1.num, y.2.num)]) ++ (y.1.den, y.2.den) :: zipPQ post := by simp [zipPQ]
/-- A marked fraction, from k on. -/
def mkQ (k : Int) (y : QV × QD) : QV × QD := (⟨⟨sg k, y.1.num.a, y.1.num.n, y.1.num.c⟩, ⟨sg (k + 1 + (y.1.num.n : Int)), y.1.den.a, y.1.den.n, y.1.den.c⟩⟩, ⟨⟨sg k, marks (k + 1) y.1.num.n⟩, ⟨sg (k + 1 + (y.1.num.n : Int)), marks (k + 1 + (y.1.num.n : Int) + 1) y.1.den.n⟩⟩)
def nxK (k : Int) (y : QV × QD) : Int := k + 1 + (y.1.num.n : Int) + 1 + (y.1.den.n : Int)
def mkP : Int → List (QV × QD) → List (QV × QD)
  | _, [] => []
  | k, y :: l => mkQ k y :: mkP (nxK k y) l
def enK : Int → List (QV × QD) → Int
  | k, [] => k
  | k, y :: l => enK (nxK k y) l
theorem mkP_snoc (l : List (QV × QD)) (y : QV × QD) : ∀ k, mkP k (l ++ [y]) = mkP k l ++ [mkQ (enK k l) y] := by
  induction l with
  | nil => intro k; rfl
  | cons z l ih => intro k; show mkQ k z :: mkP (nxK k z) (l ++ [y]) = _; rw [ih]; rfl
theorem enK_snoc (l : List (QV × QD)) (y : QV × QD) : ∀ k, enK k (l ++ [y]) = nxK (enK k l) y := by
  induction l with
  | nil => intro k; rfl
  | cons z l ih => intro k; show enK (nxK k z) (l ++ [y]) = _; rw [ih]; rfl
theorem mkP_len (l : List (QV × QD)) : ∀ k, (mkP k l).length = l.length := by
  induction l with
  | nil => intro k; rfl
  | cons z l ih => intro k; show (mkP (nxK k z) l).length + 1 = _; rw [ih]; rfl
theorem enK_eq (l : List (QV × QD)) : ∀ k, enK k l = k + 2 * (l.length : Int) + (lenPQ l : Int) := by
  induction l with
  | nil => intro k; simp [enK, lenPQ]
  | cons z l ih =>
    intro k
    show enK (nxK k z) l = _
    rw [ih]
    have h2 : lenPQ (z :: l) = lenQ z + lenPQ l := rfl
    have h3 : lenQ z = z.1.num.n + z.1.den.n := rfl
    rw [h2, h3]
    unfold nxK
    simp only [List.length_cons]
    omega
theorem mkP_get (l : List (QV × QD)) : ∀ (k : Int) (i : Nat) (h : i < l.length), (mkP k l)[i]? = some (mkQ (enK k (l.take i)) l[i]) := by
  induction l with
  | nil => intro k i h; simp at h
  | cons z l ih =>
    intro k i h
    match i with
    | 0 => rfl
    | i + 1 => exact ih (nxK k z) i (by simpa using h)

set_option maxHeartbeats 4000000 in
theorem markP (G n c : Nat) (l : List (QV × QD)) (k : Int) (lo hi : Nat) (w : World) (hr : RowQ w G l) (ho : AllOwn lo hi w (zipPQ l)) (hn : l.length = n) (ml : ∀ p ∈ l, p.1.num.n ≤ 1048576 ∧ p.1.den.n ≤ 1048576) (hG : G < lo) (hH : lo ≤ hi) (k0 : 0 ≤ k) (k1 : k + 2 * (n : Int) + (lenPQ l : Int) ≤ 3900000) :
    Calls Tryz.prog 44 #[.slice (some ⟨G, 0, none⟩) n c, .int .i64 k] w fun e w' => e = .returned (.int .i64 (enK k l)) ∧ But G hi w w' ∧ RowQ w' G (mkP k l) ∧ AllOwn lo hi w' (zipPQ (mkP k l)) := by
  have HR := hide hr
  have HO := hide ho
  have HN := hide hn
  have ML := hide ml
  clear hr ho hn ml
  have hn1 : n ≤ 3900000 := by omega
  go_enter Tryz.func44, Tryz.ntmps44
  go_wp2
  go_loopw [1, 5] (fun kv iv wr => ∃ (i : Nat) (a b : List (QV × QD)) (q : Int), i ≤ n ∧ iv = .int .i64 i ∧ kv = .int .i64 q ∧ 0 ≤ q ∧ a.length = i ∧ Hid (l = a ++ b) ∧ Hid (q = enK k a) ∧ Hid (RowQ wr G (mkP k a ++ b)) ∧ Hid (AllOwn lo hi wr (zipPQ (mkP k a ++ b))) ∧ Hid (But G hi w wr)) (fun _ iv _ => n - (intOf iv).toNat)
  case atStart => exact ⟨0, [], l, k, Nat.zero_le _, rfl, rfl, k0, rfl, hide rfl, hide rfl, HR, HO, hide (But.refl _ _ _)⟩
  case round =>
    clear HR HO
    obtain ⟨i, a, b, q, hi', rfl, rfl, q0, ha, EL, EQ, HR, HO, HB⟩ := hrel
    by_cases hlt : i < n
    · have hlt' : (i : Int) < (n : Int) := by omega
      obtain ⟨y, b', rfl⟩ : ∃ y b', b = y :: b' := by
        cases b with
        | nil => have h1 := unhide HN; rw [unhide EL, List.append_nil] at h1; omega
        | cons y b' => exact ⟨y, b', rfl⟩
      have LB : Hid ((y.1.num.n : Int) + (y.1.den.n : Int) + (q + 2) ≤ 3900000) := hide (by
        have h1 := unhide EQ
        rw [enK_eq, ha] at h1
        have h2 : lenPQ l = lenPQ a + (lenQ y + lenPQ b') := by rw [unhide EL, lenPQ_append]; rfl
        have h3 : lenQ y = y.1.num.n + y.1.den.n := rfl
        have h4 := unhide HN
        rw [unhide EL] at h4
        simp at h4
        omega)
      have l1 : (y.1.num.n : Int) + (y.1.den.n : Int) + (q + 2) ≤ 3900000 := unhide LB
      have m1 : y.1.num.n ≤ 1048576 := ((unhide ML) y (by rw [unhide EL]; simp)).1
      have m2 : y.1.den.n ≤ 1048576 := ((unhide ML) y (by rw [unhide EL]; simp)).2
      have pl : (mkP k a).length = i := by rw [mkP_len]; exact ha
      obtain ⟨c0, c1, c2, c3⟩ := (unhide HR).cellsAt (i := i) (y := y) (by rw [← pl]; exact mid_eq)
      have fz := (unhide HR).frozen
      have gG : G < wr.heap.size := (unhide HR).lt
      -- the first sign
      have HR1 := hide ((unhide HR).g0 (sg q) pl)
      have HO1 := hide (AllOwn.resign (sg q) (by have h := unhide HO; rw [zip_mid] at h; exact h) (w' := wr.setCell ⟨G, i * 4, none⟩ (.bool (sg q))) (fun k h1 _ => setCell_other (by omega)))
      have HB1 := hide ((unhide HB).set (p := ⟨G, i * 4, none⟩) (Nat.le_refl _) (by show G < hi; omega) (.bool (sg q)))
      go_wp2_with fail
      refine (mark_at ⟨sg q, y.1.num.a, y.1.num.n, y.1.num.c⟩ ⟨sg q, y.2.num.xs⟩ (zipPQ (mkP k a)) ((y.1.den, y.2.den) :: zipPQ b') (q + 1) lo hi _ (unhide HO1) m1 (by omega) (by omega)).mono ?_
      rintro e w2 ⟨rfl, hbt, ho2⟩
      have HR2 : Hid (RowQ w2 G (mkP k a ++ ((⟨⟨sg q, y.1.num.a, y.1.num.n, y.1.num.c⟩, y.1.den⟩ : QV), (⟨⟨sg q, marks (q + 1) y.1.num.n⟩, y.2.den⟩ : QD)) :: b')) := hide ((unhide HR1).but hbt (.inl hG)).data
      have HO2 : Hid (AllOwn lo hi w2 (zipPQ (mkP k a ++ ((⟨⟨sg q, y.1.num.a, y.1.num.n, y.1.num.c⟩, y.1.den⟩ : QV), (⟨⟨sg q, marks (q + 1) y.1.num.n⟩, y.2.den⟩ : QD)) :: b'))) := hide (by rw [zip_mid]; exact ho2)
      have HB2 := hide ((unhide HB1).trans (hbt.wide (by omega) (Nat.le_refl _)))
      clear hbt ho2 c0 c1 c2 c3 fz HR HO HB HR1 HO1 HB1
      obtain ⟨c0, c1, c2, c3⟩ := (unhide HR2).cellsAt (i := i) (by rw [← pl]; exact mid_eq)
      simp only at c0 c1 c2 c3
      have fz := (unhide HR2).frozen
      have HR3 := hide ((unhide HR2).g2 (sg (q + 1 + (y.1.num.n : Int))) pl)
      have HO3 := hide (AllOwn.resign (sg (q + 1 + (y.1.num.n : Int))) (by have h := unhide HO2; rw [zip_mid2] at h; exact h) (w' := w2.setCell ⟨G, i * 4 + 2, none⟩ (.bool (sg (q + 1 + (y.1.num.n : Int))))) (fun k h1 _ => setCell_other (by omega)))
      have HB3 := hide ((unhide HB2).set (p := ⟨G, i * 4 + 2, none⟩) (Nat.le_refl _) (by show G < hi; omega) (.bool (sg (q + 1 + (y.1.num.n : Int)))))
      go_wp2_with fail
      refine (mark_at ⟨sg (q + 1 + (y.1.num.n : Int)), y.1.den.a, y.1.den.n, y.1.den.c⟩ ⟨sg (q + 1 + (y.1.num.n : Int)), y.2.den.xs⟩ _ (zipPQ b') (q + 1 + (y.1.num.n : Int) + 1) lo hi _ (unhide HO3) m2 (by omega) (by omega)).mono ?_
      rintro e w4 ⟨rfl, hbt, ho4⟩
      have EK : Hid (mkP k (a ++ [y]) ++ b' = mkP k a ++ mkQ q y :: b') := hide (by rw [mkP_snoc, ← unhide EQ, List.append_assoc]; rfl)
      have HR4 : Hid (RowQ w4 G (mkP k (a ++ [y]) ++ b')) := hide (by rw [unhide EK]; exact ((unhide HR3).but hbt (.inl hG)).data)
      have HO4 : Hid (AllOwn lo hi w4 (zipPQ (mkP k (a ++ [y]) ++ b'))) := hide (by rw [unhide EK, zip_mid2]; exact ho4)
      have HB4 := hide ((unhide HB3).trans (hbt.wide (by omega) (Nat.le_refl _)))
      have EQ4 : Hid (nxK q y = enK k (a ++ [y])) := hide (by rw [enK_snoc, ← unhide EQ])
      clear hbt ho4 c0 c1 c2 c3 fz HR2 HO2 HB2 HR3 HO3 HB3
      go_wp2
      go_roundw
      case rel => exact ⟨i + 1, a ++ [y], b', nxK q y, by omega, by go_num, rfl, by unfold nxK; omega, by simp [ha], hide (by rw [unhide EL, List.append_assoc]; rfl), EQ4, HR4, HO4, HB4⟩
      case measure => simp [intOf]; omega
    · obtain rfl : i = n := by omega
      have hb0 : b = [] := by
        have h1 := unhide HN
        rw [unhide EL, List.length_append] at h1
        exact List.length_eq_zero_iff.1 (by omega)
      subst hb0
      have EA : Hid (l = a) := hide (by rw [unhide EL, List.append_nil])
      go_wp2
      go_ret
      refine ⟨by rw [unhide EA, ← unhide EQ]; rfl, unhide HB, ?_, ?_⟩
      · have h := unhide HR
        rw [List.append_nil, ← unhide EA] at h
        exact h
      · have h := unhide HO
        rw [List.append_nil, ← unhide EA] at h
        exact h

theorem mkP_mem {l : List (QV × QD)} {k : Int} {P : QV × QD → Prop} (h : ∀ q y, y ∈ l → P (mkQ q y)) : ∀ p ∈ mkP k l, P p := by
  induction l generalizing k with
  | nil => intro p hp; cases hp
  | cons z l ih =>
    intro p hp
    rcases List.mem_cons.1 hp with rfl | hp
    · exact h k z List.mem_cons_self
    · exact ih (fun q y hy => h q y (List.mem_cons_of_mem _ hy)) p hp
theorem mkP_lenP (l : List (QV × QD)) : ∀ k, lenPQ (mkP k l) = lenPQ l := by
  induction l with
  | nil => intro k; rfl
  | cons z l ih => intro k; show lenQ (mkQ k z) + lenPQ (mkP (nxK k z) l) = lenQ z + lenPQ l; rw [ih]; rfl
set_option maxHeartbeats 4000000 in
theorem heldP (G n c : Nat) (l : List (QV × QD)) (k : Int) (w : World) (hr : RowQ w G (mkP k l)) (hs : AllSl w (zipPQ (mkP k l))) (hn : l.length = n) (ml : ∀ p ∈ l, p.1.num.n ≤ 1048576 ∧ p.1.den.n ≤ 1048576) (k0 : 0 ≤ k) (k1 : k + 2 * (n : Int) + (lenPQ l : Int) ≤ 3900000) :
    Calls Tryz.prog 46 #[.slice (some ⟨G, 0, none⟩) n c, .int .i64 k] w fun e w' => e = .returned (.int .i64 (enK k l)) ∧ w' = w := by
  have HR := hide hr
  have HS := hide hs
  have HN := hide hn
  have ML := hide ml
  clear hr hs hn ml
  have hn1 : n ≤ 3900000 := by omega
  go_enter Tryz.func46, Tryz.ntmps46
  go_wp2
  go_loopw [1, 5] (fun kv iv wr => ∃ (i : Nat) (q : Int), i ≤ n ∧ iv = .int .i64 i ∧ kv = .int .i64 q ∧ 0 ≤ q ∧ Hid (q = enK k (l.take i)) ∧ wr = w) (fun _ iv _ => n - (intOf iv).toNat)
  case atStart => exact ⟨0, k, Nat.zero_le _, rfl, rfl, k0, hide (by simp [enK]), rfl⟩
  case round =>
    obtain ⟨i, q, hi', rfl, rfl, q0, EQ, rfl⟩ := hrel
    by_cases hlt : i < n
    · have hlt' : (i : Int) < (n : Int) := by omega
      have hil : i < l.length := by rw [unhide HN]; exact hlt
      have hget := mkP_get l k i hil
      rw [← unhide EQ] at hget
      have TK : Hid (l.take (i + 1) = l.take i ++ [l[i]]) := hide (take_succQ hil)
      have MY : Hid (l[i] ∈ l) := hide (List.getElem_mem _)
      have EQ2 : Hid (nxK q l[i] = enK k (l.take (i + 1))) := hide (by rw [unhide TK, enK_snoc, ← unhide EQ])
      have LE : Hid (nxK q l[i] ≤ 3900000) := hide (by
        rw [unhide EQ2, enK_eq]
        have h1 : (l.take (i + 1)).length = i + 1 := by rw [List.length_take]; omega
        have h2 : lenPQ l = lenPQ (l.take (i + 1)) + lenPQ (l.drop (i + 1)) := by rw [← lenPQ_append, List.take_append_drop]
        rw [h1]
        omega)
      have hm := List.mem_of_getElem? hget
      have S1 := (unhide HS) ((mkQ q l[i]).1.num, (mkQ q l[i]).2.num) (zipPQ_mem hm (by simp))
      have S2 := (unhide HS) ((mkQ q l[i]).1.den, (mkQ q l[i]).2.den) (zipPQ_mem hm (by simp))
      have m0 := (unhide ML) l[i] (unhide MY)
      obtain ⟨b0, b1, b2, b3⟩ := (unhide HR).cellsAt hget
      obtain ⟨y, hy⟩ : ∃ y, y = l[i] := ⟨_, rfl⟩
      rw [← hy] at b0 b1 b2 b3 S1 S2 m0 EQ2 LE
      clear hy hget hm TK MY hil
      have c0 : wr.cell? ⟨G, i * 4, none⟩ = some (.bool (q % 3 == 0)) := b0
      have c1 : wr.cell? ⟨G, i * 4 + 1, none⟩ = some (.slice y.1.num.a y.1.num.n y.1.num.c) := b1
      have c2 : wr.cell? ⟨G, i * 4 + 2, none⟩ = some (.bool ((q + 1 + (y.1.num.n : Int)) % 3 == 0)) := b2
      have c3 : wr.cell? ⟨G, i * 4 + 3, none⟩ = some (.slice y.1.den.a y.1.den.n y.1.den.c) := b3
      have X1 := hide (show Sl wr y.1.num.a (marks (q + 1) y.1.num.n) from S1.sl)
      have X2 := hide (show Sl wr y.1.den.a (marks (q + 1 + (y.1.num.n : Int) + 1) y.1.den.n) from S2.sl)
      have le : q + 1 + (y.1.num.n : Int) + 1 + (y.1.den.n : Int) ≤ 3900000 := unhide LE
      clear b0 b1 b2 b3 S1 S2 LE
      go_wp2_with fail
      refine (heldI_any _ _ _ (q + 1) _ (unhide X1) m0.1 (by omega) (by omega)).mono ?_
      rintro e w1 ⟨rfl, rfl⟩
      have d1 : ¬ (q + 1 + (y.1.num.n : Int) < 0) := by omega
      go_wp2_with fail
      refine (heldI_any _ _ _ (q + 1 + (y.1.num.n : Int) + 1) _ (unhide X2) m0.2 (by omega) (by omega)).mono ?_
      rintro e w2 ⟨rfl, rfl⟩
      have d2 : ¬ (q + 1 + (y.1.num.n : Int) + 1 + (y.1.den.n : Int) < 0) := by omega
      go_wp2
      go_roundw
      case rel => exact ⟨i + 1, nxK q y, by omega, by go_num, rfl, by unfold nxK; omega, EQ2, trivial⟩
      case measure => simp [intOf]; omega
    · obtain rfl : i = n := by omega
      have EL : Hid (q = enK k l) := hide (by have h := unhide EQ; rw [← unhide HN, List.take_length] at h; exact h)
      go_wp2
      go_ret
      exact ⟨by rw [← unhide EL]; rfl, rfl⟩
theorem markP0 (a : Option Addr) (c : Nat) (k : Int) (w : World) : Calls Tryz.prog 44 #[.slice a 0 c, .int .i64 k] w fun e w' => e = .returned (.int .i64 k) ∧ w' = w := by
  go_enter Tryz.func44, Tryz.ntmps44
  go_wp2
  refine wp_loop_rounds 1 ?_
  rw [rounds_succ]
  go_wp2
  go_ret
  exact ⟨rfl, rfl⟩
theorem heldP0 (a : Option Addr) (c : Nat) (k : Int) (w : World) : Calls Tryz.prog 46 #[.slice a 0 c, .int .i64 k] w fun e w' => e = .returned (.int .i64 k) ∧ w' = w := by
  go_enter Tryz.func46, Tryz.ntmps46
  go_wp2
  refine wp_loop_rounds 1 ?_
  rw [rounds_succ]
  go_wp2
  go_ret
  exact ⟨rfl, rfl⟩

/-- A slice of fractions that is the call's own: its row and its numbers in blocks from B to below E. -/
structure PRo (B E : Nat) (w : World) (a : Option Addr) (n c : Nat) (l : List (QV × QD)) : Prop where
  len : l.length = n
  sz : 2 * n + lenPQ l ≤ 3200000
  ml : ∀ p ∈ l, p.1.num.n ≤ 1048576 ∧ p.1.den.n ≤ 1048576
  row : n = 0 ∨ ∃ G lo hi, a = some ⟨G, 0, none⟩ ∧ B ≤ G ∧ G < lo ∧ lo ≤ hi ∧ hi ≤ E ∧ RowQ w G l ∧ AllOwn lo hi w (zipPQ l)
theorem PRo.later {B E : Nat} {w w' : World} {a : Option Addr} {n c : Nat} {l : List (QV × QD)} (h : PRo B E w a n c l) (hb : Below w.heap.size w w') : PRo B E w' a n c l := by
  refine ⟨h.len, h.sz, h.ml, ?_⟩
  rcases h.row with e | ⟨G, lo, hi, e, h1, h2, h3, h4, h5, h6⟩
  · exact .inl e
  · exact .inr ⟨G, lo, hi, e, h1, h2, h3, h4, h5.later hb, h6.later hb⟩
theorem PRo.but {B E lo' hi' : Nat} {w w' : World} {a : Option Addr} {n c : Nat} {l : List (QV × QD)} (h : PRo B E w a n c l) (hb : But lo' hi' w w') (hd : E ≤ lo' ∨ hi' ≤ B) : PRo B E w' a n c l := by
  refine ⟨h.len, h.sz, h.ml, ?_⟩
  rcases h.row with e | ⟨G, lo, hi, e, h1, h2, h3, h4, h5, h6⟩
  · exact .inl e
  · exact .inr ⟨G, lo, hi, e, h1, h2, h3, h4, h5.but hb (by omega), h6.but hb (by omega)⟩
theorem PRo.wide {B E B' E' : Nat} {w : World} {a : Option Addr} {n c : Nat} {l : List (QV × QD)} (h : PRo B E w a n c l) (h1 : B' ≤ B) (h2 : E ≤ E') : PRo B' E' w a n c l := by
  refine ⟨h.len, h.sz, h.ml, ?_⟩
  rcases h.row with e | ⟨G, lo, hi, e, k1, k2, k3, k4, k5, k6⟩
  · exact .inl e
  · exact .inr ⟨G, lo, hi, e, by omega, k2, k3, by omega, k5, k6⟩
theorem PRo.sl {B E : Nat} {w : World} {a : Option Addr} {n c : Nat} {l : List (QV × QD)} (h : PRo B E w a n c l) : PSlQ w a l := by
  rcases h.row with e | ⟨G, lo, hi, e, h1, h2, h3, h4, h5, h6⟩
  · have hl : l = [] := List.length_eq_zero_iff.1 (by rw [h.len]; exact e)
    subst hl
    exact ⟨.inl rfl, fun p hp => by cases hp⟩
  · subst e
    refine ⟨.inr ⟨G, 0, rfl, h5.lt, fun i hi => ?_⟩, fun p hp x hx => h6.sl x (zipPQ_mem hp hx)⟩
    have hc := h5.cellsAt (List.getElem?_eq_getElem hi)
    simpa using hc
theorem PRo.lens {B E : Nat} {w : World} {a : Option Addr} {n c : Nat} {l : List (QV × QD)} (h : PRo B E w a n c l) : ∀ p ∈ l, p.1.num.n ≤ maxLen ∧ p.1.den.n ≤ maxLen := fun p hp => by
  have := h.ml p hp
  unfold maxLen
  omega
theorem PRo.max {B E : Nat} {w : World} {a : Option Addr} {n c : Nat} {l : List (QV × QD)} (h : PRo B E w a n c l) : n ≤ maxLen := by
  have := h.sz
  unfold maxLen
  omega
theorem mkP_ml {l : List (QV × QD)} (k : Int) (h : ∀ p ∈ l, p.1.num.n ≤ 1048576 ∧ p.1.den.n ≤ 1048576) : ∀ p ∈ mkP k l, p.1.num.n ≤ 1048576 ∧ p.1.den.n ≤ 1048576 := mkP_mem (fun q y hy => h y hy)
theorem markR (B E : Nat) (a : Option Addr) (n c : Nat) (l : List (QV × QD)) (w : World) (h : PRo B E w a n c l) (hE : E ≤ w.heap.size) :
    Calls Tryz.prog 44 #[.slice a n c, .int .i64 1] w fun e w' => e = .returned (.int .i64 (enK 1 l)) ∧ But B E w w' ∧ PRo B E w' a n c (mkP 1 l) := by
  have hs := h.sz
  rcases h.row with e | ⟨G, lo, hi, e, h1, h2, h3, h4, h5, h6⟩
  · have hl : l = [] := List.length_eq_zero_iff.1 (by rw [h.len]; exact e)
    subst hl e
    refine (markP0 a c 1 w).mono ?_
    rintro e w' ⟨rfl, rfl⟩
    exact ⟨rfl, But.refl _ _ _, ⟨rfl, by simp [mkP, lenPQ], fun p hp => (by cases hp), .inl rfl⟩⟩
  · subst e
    refine (markP G n c l 1 lo hi w h5 h6 h.len h.ml h2 h3 (by omega) (by omega)).mono ?_
    rintro e w' ⟨rfl, hb, hr, ho⟩
    exact ⟨rfl, hb.wide h1 h4, ⟨by rw [mkP_len]; exact h.len, by rw [mkP_lenP]; exact h.sz, mkP_ml 1 h.ml, .inr ⟨G, lo, hi, rfl, h1, h2, h3, h4, hr, ho⟩⟩⟩
theorem heldR (B E : Nat) (a : Option Addr) (n c : Nat) (l : List (QV × QD)) (w : World) (h : PRo B E w a n c (mkP 1 l)) (h0 : 2 * n + lenPQ l ≤ 3200000) (ml : ∀ p ∈ l, p.1.num.n ≤ 1048576 ∧ p.1.den.n ≤ 1048576) :
    Calls Tryz.prog 46 #[.slice a n c, .int .i64 1] w fun e w' => e = .returned (.int .i64 (enK 1 l)) ∧ w' = w := by
  have hl' : l.length = n := by have := h.len; rw [mkP_len] at this; exact this
  rcases h.row with e | ⟨G, lo, hi, e, h1, h2, h3, h4, h5, h6⟩
  · have hl : l = [] := List.length_eq_zero_iff.1 (by omega)
    subst hl e
    exact heldP0 a c 1 w
  · subst e
    exact heldP G n c l 1 w h5 h6.sl hl' ml (by omega) (by omega)
theorem POwQ.ro {lo hi : Nat} {w : World} {G n c : Nat} {l : List (QV × QD)} (h : POwQ lo hi w G n c l) (hG : G < lo) (hl : lo ≤ hi) (sz : 2 * n + lenPQ l ≤ 3200000) (ml : ∀ p ∈ l, p.1.num.n ≤ 1048576 ∧ p.1.den.n ≤ 1048576) : PRo G hi w (some ⟨G, 0, none⟩) n c l := by
  refine ⟨h.len, sz, ml, .inr ⟨G, lo, hi, rfl, Nat.le_refl _, hG, hl, Nat.le_refl _, ?_, h.own⟩⟩
  obtain ⟨M, hr, hM⟩ := h.row
  rcases hr.2 with ⟨h', _⟩ | ⟨g', cap, cur, hv, _, hg, _, _, _, htake⟩
  · simp at h'
  simp only [Value.slice.injEq, Option.some.injEq, Addr.mk.injEq, and_true, true_and] at hv
  obtain ⟨rfl, rfl⟩ := hv
  refine ⟨cur, hg, fun j p hp => ?_⟩
  have hj : j < l.length := (List.getElem?_eq_some_iff.1 hp).1
  have hc := hM j hj
  have e : l[j] = p := by rw [List.getElem?_eq_getElem hj] at hp; exact Option.some.inj hp
  rw [e] at hc
  have hlen := h.len
  have up : ∀ t v, t < n * 4 → M[t]? = some v → cur[t]? = some v := fun t v ht hv => by
    rw [← htake, List.getElem?_take, if_pos ht] at hv
    simpa using hv
  exact ⟨up _ _ (by omega) hc.1, up _ _ (by omega) hc.2.1, up _ _ (by omega) hc.2.2.1, up _ _ (by omega) hc.2.2.2⟩
/-- The lengths of what is read. -/
def lenD : List QD → Nat
  | [] => 0
  | d :: l => d.num.xs.length + d.den.xs.length + lenD l
theorem lenPQ_data {l : List (QV × QD)} (h : ∀ p ∈ l, p.2.num.xs.length = p.1.num.n ∧ p.2.den.xs.length = p.1.den.n) : lenPQ l = lenD (l.map Prod.snd) := by
  induction l with
  | nil => rfl
  | cons p l ih =>
    have h1 := h p List.mem_cons_self
    have h2 := ih (fun q hq => h q (List.mem_cons_of_mem _ hq))
    show p.1.num.n + p.1.den.n + lenPQ l = p.2.num.xs.length + p.2.den.xs.length + lenD (l.map Prod.snd)
    omega
theorem PSlQ.data {w : World} {a : Option Addr} {l : List (QV × QD)} (h : PSlQ w a l) : ∀ p ∈ l, p.2.num.xs.length = p.1.num.n ∧ p.2.den.xs.length = p.1.den.n := fun p hp => ⟨(h.rd p hp).head.len, (h.rd p hp).tail.head.len⟩
theorem lenPQ_snd {w w' : World} {a a' : Option Addr} {l l' : List (QV × QD)} (h : PSlQ w a l) (h' : PSlQ w' a' l') (e : l.map Prod.snd = l'.map Prod.snd) : lenPQ l = lenPQ l' := by
  rw [lenPQ_data h.data, lenPQ_data h'.data, e]
theorem ml_snd {w w' : World} {a a' : Option Addr} {l l' : List (QV × QD)} (h : PSlQ w a l) (h' : PSlQ w' a' l') (e : l.map Prod.snd = l'.map Prod.snd) (ml : ∀ p ∈ l', p.1.num.n ≤ 1048576 ∧ p.1.den.n ≤ 1048576) : ∀ p ∈ l, p.1.num.n ≤ 1048576 ∧ p.1.den.n ≤ 1048576 := fun p hp => by
  have h1 : p.2 ∈ l'.map Prod.snd := by rw [← e]; exact List.mem_map.2 ⟨p, hp, rfl⟩
  obtain ⟨q, hq, e2⟩ := List.mem_map.1 h1
  have h2 := h.data p hp
  have h3 := h'.data q hq
  have h4 := ml q hq
  rw [e2] at h3
  omega
def RetPr (w : World) (U : List QD → Bool → Prop) (e : Ending) (w' : World) : Prop := ∃ (a : Option Addr) (n c : Nat) (l : List (QV × QD)) (ok : Bool), e = .returned (.tuple #[.slice a n c, .bool ok]) ∧ Below w.heap.size w w' ∧ PSlQ w' a l ∧ l.length = n ∧ U (l.map Prod.snd) ok
def RetPo (w : World) (U : List QD → Bool → Prop) (e : Ending) (w' : World) : Prop := ∃ (a : Option Addr) (n c : Nat) (l : List (QV × QD)) (ok : Bool), e = .returned (.tuple #[.slice a n c, .bool ok]) ∧ Below w.heap.size w w' ∧ PRo w.heap.size w'.heap.size w' a n c l ∧ U (l.map Prod.snd) ok
end Go.Proofs.YtliaddmkomcmnaaGreat
namespace Go.Proofs.YtliaddmkomcmnaaGreat
open Go.RowKit
set_option linter.unusedVariables false
set_option maxRecDepth 100000
set_option linter.unusedSimpArgs false

set_option maxRecDepth 100000 in
set_option maxHeartbeats 16000000 in
theorem lawRBnd_walk (a0 : Option Addr) (n0 c0 : Nat) (l0 : List (QV × QD))   (w : World) (h0 : PSlQ w a0 l0) (hn0 : l0.length = n0)  (hm0 : n0 ≤ maxLen) (ml0 : ∀ p ∈ l0, p.1.num.n ≤ maxLen ∧ p.1.den.n ≤ maxLen)  :
    Calls Tryz.prog 10 #[.slice a0 n0 c0] w fun e w' => e = .returned (.bool true) ∧ Below w.heap.size w w' := by
  obtain ⟨U, HU⟩ : ∃ U : QD → Bool → Prop, Hid (U = AnsQ (rP (l0.map Prod.snd)) (rbV (l0.map Prod.snd)).1 (rbV (l0.map Prod.snd)).2) := ⟨_, hide rfl⟩
  have US : Hid (∀ d ok d' ok', U d ok → U d' ok' → d = d' ∧ ok = ok') := hide (by rw [unhide HU]; exact fun d ok d' ok' h k => h.same k)
  have UL : Hid (∀ d ok, U d ok → d.num.xs.length ≤ 40 ∧ d.den.xs.length ≤ 40) := hide (by rw [unhide HU]; exact fun d ok h => h.lens)
  have CS : Hid (∀ (a : Option Addr) (n c : Nat) (k : List (QV × QD))  (w : World), PArQ w a n c k → k.map Prod.snd = l0.map Prod.snd → Calls Tryz.prog 18 #[.slice a n c] w (RetQ w U)) := hide (by rw [unhide HU]; exact fun a n c k w h e => by have := RBndS a n c k w h; rw [e] at this; exact this)
  have CI : Hid (∀ (a : Option Addr) (n c : Nat) (k : List (QV × QD))  (w : World), PArQ w a n c k → k.map Prod.snd = l0.map Prod.snd → Calls Tryz.prog 17 #[.slice a n c] w (RetQ w U)) := hide (by rw [unhide HU]; exact fun a n c k w h e => by have := RBndI a n c k w h; rw [e] at this; exact this)
  clear HU
  have SZ0 := hide (fun w1 (left : Int) (b0 : 0 ≤ left) (b1 : left ≤ 1048576) (k : PSlQ w1 a0 l0) => szPQ a0 n0 c0 l0 left w1 k hn0 hm0 ml0 b0 b1)
  have HS0 := hide h0
  have HN0 := hide hn0
  clear h0 hn0 hm0 ml0 
  have HB := hide (Below.refl w.heap.size w)
  go_enter Tryz.func10, Tryz.ntmps10
  go_wp2_with fail
  refine (unhide SZ0 _ 1048576 (by omega) (by omega) ((unhide HS0).later (unhide HB))).mono ?_
  rintro e ws0 ⟨r0, rfl, hb, hr⟩
  have z := hb.size
  replace HB := hide (below_on (unhide HB) hb)
  clear hb SZ0
  replace z : w.heap.size ≤ ws0.heap.size := z
  by_cases hneg : r0 < 0
  · clear hr
    go_wp2
    go_ret
    exact ⟨rfl, (unhide HB)⟩
  have e0 : Hid (r0 = 1048576 - (n0 : Int) - (lenPQ l0 : Int)) := hide (by
    rcases hr with e | e
    · exact absurd (show r0 < 0 by omega) hneg
    · exact e.2)
  clear hr
  have b0 : r0 ≤ 1048576 := by have := unhide e0; omega
  have pp0 : 0 ≤ r0 := by omega
  have M0 : Hid (∀ p ∈ l0, p.1.num.n ≤ 1048576 ∧ p.1.den.n ≤ 1048576) := hide (fun p hp => by have h1 := lenPQ_mem hp; have h2 : lenQ p = p.1.num.n + p.1.den.n := rfl; have := unhide e0; omega)
  have Z0 : Hid (2 * n0 + lenPQ l0 ≤ 3200000) := hide (by have := unhide e0; omega)
  have TT0 := hide (fun w1 (k : PSlQ w1 a0 l0) => toPQ a0 n0 c0 l0 w1 k (unhide HN0) (by have := unhide e0; omega) (unhide M0))
  go_wp2_with fail
  refine (unhide TT0 _ ((unhide HS0).later (unhide HB))).mono ?_
  rintro e ws ⟨ls, rfl, hb, zs, ds, os⟩
  have szs := hb.size
  replace HB := hide (below_on (unhide HB) hb)
  have Ds := hide ds
  have Os := hide os
  clear hb ds os
  go_wp2_with fail
  refine (unhide CS _ _ _ ls _ (unhide Os).arg (unhide Ds)).mono ?_
  rintro e wc ⟨vr, dr, okr, rfl, hb, hown, hu⟩
  have V0 := hide (VarQ.start 28 hown)
  have UR := hide hu
  have ss := hb.size
  replace HB := hide (below_on (unhide HB) hb)
  replace HB := hide ((unhide HB).alloc (unhide HB).size (.cells #[.bool vr.num.g, .slice vr.num.a vr.num.n vr.num.c, .bool vr.den.g, .slice vr.den.a vr.den.n vr.den.c] 28))
  clear hb hown hu Os Ds
  have zG1 : w.heap.size ≤ wc.heap.size := by omega
  have r_0 : vr.num.n ≤ 40 := by rw [← ((unhide V0).own.own (vr.num, dr.num) (by simp)).len]; exact (unhide UL _ _ (unhide UR)).1
  have rm0 : vr.num.n ≤ maxLen := by unfold maxLen; omega
  have rl0 : vr.num.n ≤ 1048576 := by omega
  have r_1 : vr.den.n ≤ 40 := by rw [← ((unhide V0).own.own (vr.den, dr.den) (by simp)).len]; exact (unhide UL _ _ (unhide UR)).2
  have rm1 : vr.den.n ≤ maxLen := by unfold maxLen; omega
  have rl1 : vr.den.n ≤ 1048576 := by omega
  go_wp2_with fail
  refine (unhide TT0 _ ((unhide HS0).later (unhide HB))).mono ?_
  rintro e wx ⟨lx, rfl, hb, zx, dx, ox⟩
  have szx := hb.size
  simp only [World.size_alloc] at ox szx zx
  replace V0 := hide ((unhide V0).later hb)
  replace HB := hide (below_on (unhide HB) hb)
  have Dx := hide dx
  have Ox := hide ox
  clear hb dx ox
  go_wp2_with fail
  refine (unhide CI _ _ _ lx  _ (unhide Ox).arg (unhide Dx) ).mono ?_
  rintro e w5 ⟨vg, dg, okg, rfl, hb, hown, hu⟩
  obtain ⟨e1, e2⟩ := unhide US _ _ _ _ (unhide UR) hu
  subst e1 e2
  have VG := hide (VarQ.start 28 hown)
  have sg : wx.heap.size ≤ w5.heap.size := by have := hb.size; exact this
  have en0 : vg.num.n = vr.num.n := by rw [← ((unhide VG).own.own (vg.num, dr.num) (by simp)).len, ← ((unhide V0).own.own (vr.num, dr.num) (by simp)).len]
  have q0 : vg.num.n ≤ 40 := by omega
  have qm0 : vg.num.n ≤ maxLen := by omega
  have ql0 : vg.num.n ≤ 1048576 := by omega
  have en1 : vg.den.n = vr.den.n := by rw [← ((unhide VG).own.own (vg.den, dr.den) (by simp)).len, ← ((unhide V0).own.own (vr.den, dr.den) (by simp)).len]
  have q1 : vg.den.n ≤ 40 := by omega
  have qm1 : vg.den.n ≤ maxLen := by omega
  have ql1 : vg.den.n ≤ 1048576 := by omega
  replace V0 := hide ((unhide V0).later hb)
  replace Ox := hide ((unhide Ox).later hb)
  replace HB := hide (below_on (unhide HB) hb)
  clear hb hown hu
  replace V0 := hide ((unhide V0).later ((Below.refl _ _).alloc (Nat.le_refl _) (.cells #[.bool vg.num.g, .slice vg.num.a vg.num.n vg.num.c, .bool vg.den.g, .slice vg.den.a vg.den.n vg.den.c] 28)))
  replace Ox := hide ((unhide Ox).later ((Below.refl _ _).alloc (Nat.le_refl _) (.cells #[.bool vg.num.g, .slice vg.num.a vg.num.n vg.num.c, .bool vg.den.g, .slice vg.den.a vg.den.n vg.den.c] 28)))
  replace HB := hide ((unhide HB).alloc (unhide HB).size (.cells #[.bool vg.num.g, .slice vg.num.a vg.num.n vg.num.c, .bool vg.den.g, .slice vg.den.a vg.den.n vg.den.c] 28))
  have enh0 := hide en0
  clear en0
  have enh1 := hide en1
  clear en1
  have PX : Hid (PRo (wc.heap.size + 1) wx.heap.size (w5.alloc (.cells #[.bool vg.num.g, .slice vg.num.a vg.num.n vg.num.c, .bool vg.den.g, .slice vg.den.a vg.den.n vg.den.c] 28)) (some ⟨wc.heap.size + 1, 0, none⟩) n0 n0 lx) := hide ((unhide Ox).ro (Nat.lt_succ_self _) (by omega) (by rw [lenPQ_snd (unhide Ox).arg.sl (unhide HS0) (unhide Dx)]; exact unhide Z0) (ml_snd (unhide Ox).arg.sl (unhide HS0) (unhide Dx) (unhide M0)))
  have KL : Hid (lenPQ lx = lenPQ l0 ∧ lx.length = n0) := hide ⟨lenPQ_snd (unhide Ox).arg.sl (unhide HS0) (unhide Dx), (unhide Ox).len⟩
  clear Ox
  have p0 := (unhide V0).c0
  have p1 := (unhide V0).c1
  have p2 := (unhide V0).c2
  have p3 := (unhide V0).c3
  have okk : (okr == okr) = true := by simp
  go_wp2_with fail
  refine (eqQ_at vg vr dr _ (unhide VG).own.sl (unhide V0).own.sl qm0 qm1).mono ?_
  rintro e w6 ⟨rfl, hb⟩
  have sz6 := hb.size
  clear p0 p1 p2 p3
  replace V0 := hide ((unhide V0).later hb)
  replace VG := hide ((unhide VG).later hb)
  replace PX := hide ((unhide PX).later hb)
  replace HB := hide (below_on (unhide HB) hb)
  clear hb
  go_wp2_with fail
  refine (unhide TT0 _ ((unhide HS0).later (unhide HB))).mono ?_
  rintro e wy ⟨ly, rfl, hb, zy, dy, oy⟩
  have szy := hb.size
  replace V0 := hide ((unhide V0).later hb)
  replace VG := hide ((unhide VG).later hb)
  replace PX := hide ((unhide PX).later hb)
  replace HB := hide (below_on (unhide HB) hb)
  have Dy := hide dy
  have Oy := hide oy
  clear hb dy oy
  go_wp2_with fail
  refine (eqPQ _ _ n0 _ _ lx ly _ (unhide PX).sl (unhide Oy).arg.sl (unhide PX).len ((unhide Dx).trans (unhide Dy).symm) (unhide PX).max (unhide PX).lens).mono ?_
  rintro e wy1 ⟨rfl, hb⟩
  have szy1 := hb.size
  replace V0 := hide ((unhide V0).later hb)
  replace VG := hide ((unhide VG).later hb)
  replace PX := hide ((unhide PX).later hb)
  replace HB := hide (below_on (unhide HB) hb)
  clear hb Oy Dy zy
  have WW : w5.heap.size + 1 ≤ wy1.heap.size := by simp at sz6; omega
  clear sz6 szy szy1
  generalize w5.heap.size = GG at *
  generalize wx.heap.size = GX0 at *
  generalize wc.heap.size = GC at *
  go_wp2_with fail
  refine (markR _ _ _ n0 n0 lx _ (unhide PX) (by omega)).mono ?_
  rintro e wm0 ⟨rfl, hbt, _⟩
  have kb : 0 ≤ enK 1 lx ∧ enK 1 lx = 1 + 2 * (n0 : Int) + (lenPQ l0 : Int) := by rw [enK_eq, (unhide KL).1, (unhide KL).2]; omega
  have kb2 : enK 1 lx + 0 ≤ 2200000 := by have := unhide e0; omega
  generalize enK 1 lx = kk at *
  replace HB := hide (hbt.below (unhide HB) (by omega) (unhide HB).size)
  replace V0 := hide ((unhide V0).but hbt (by omega) (by omega))
  replace VG := hide ((unhide VG).but hbt (by omega) (by omega))
  replace WW : GG + 1 ≤ wm0.heap.size := Nat.le_trans WW hbt.size
  clear hbt PX KL
  have kb0 := hide kb.2
  replace kb := kb.1
  have hk0 : decide (kk < 0) = false := decide_eq_false (by omega)
  have p0 := (unhide VG).c0
  have pq0 := (unhide V0).c0
  have p1 := (unhide VG).c1
  have pq1 := (unhide V0).c1
  have p2 := (unhide VG).c2
  have pq2 := (unhide V0).c2
  have p3 := (unhide VG).c3
  have pq3 := (unhide V0).c3
  go_wp2_with fail
  refine (eqQ_at vg vr dr _ (unhide VG).own.sl (unhide V0).own.sl qm0 qm1).mono ?_
  rintro e w20 ⟨rfl, hb⟩
  clear p0 pq0 p1 pq1 p2 pq2 p3 pq3 hk0
  replace WW : GG + 1 ≤ w20.heap.size := Nat.le_trans WW hb.size
  replace V0 := hide ((unhide V0).later hb)
  replace VG := hide ((unhide VG).later hb)
  replace HB := hide (below_on (unhide HB) hb)
  clear hb
  have p0 := (unhide VG).c0
  have p1 := (unhide VG).c1
  have p2 := (unhide VG).c2
  have p3 := (unhide VG).c3
  go_wp2_with fail
  refine (markQ_at vg dr [] [] 1 (GX0) GG _ (unhide VG).own ql0 ql1 (by have := (unhide VG).gt; omega) (by omega) (by omega)).mono ?_
  rintro e w21 ⟨rfl, hbt, hmk⟩
  replace HB := hide (hbt.below (unhide HB) (by omega) (unhide HB).size)
  replace V0 := hide ((unhide V0).but hbt (by omega) (by omega))
  replace VG := hide ((unhide VG).mark (d' := ⟨⟨dr.num.g, marks 1 vg.num.n⟩, ⟨dr.den.g, marks (1 + vg.num.n) vg.den.n⟩⟩) hbt (by omega) hmk)
  clear p0 p1 p2 p3 hbt hmk
  have p0 := (unhide VG).c0
  have p1 := (unhide VG).c1
  have p2 := (unhide VG).c2
  have p3 := (unhide VG).c3
  go_wp2_with fail
  refine (heldQ_at vg 1 _ ((unhide VG).own.sl (vg.num, ⟨dr.num.g, marks 1 vg.num.n⟩) (by simp)).sl ((unhide VG).own.sl (vg.den, ⟨dr.den.g, marks (1 + vg.num.n) vg.den.n⟩) (by simp)).sl ql0 ql1 (by omega) (by omega)).mono ?_
  rintro e wk ⟨rfl, hb⟩
  replace V0 := hide ((unhide V0).later hb)
  replace VG := hide ((unhide VG).later hb)
  replace HB := hide (below_on (unhide HB) hb)
  have hr0 : ¬ ((1 : Int) + (vg.num.n : Int) + (vg.den.n : Int) < 0) := by omega
  have zk : w.heap.size + 0 ≤ wk.heap.size := by have h1 := (unhide VG).gt; omega
  clear p0 p1 p2 p3 hb
  go_wp2_with fail
  refine (unhide TT0 _ ((unhide HS0).later (unhide HB))).mono ?_
  rintro e wh ⟨lh, rfl, hb, zh, dh, oh⟩
  have szh := hb.size
  replace V0 := hide ((unhide V0).later hb)
  replace VG := hide ((unhide VG).later hb)
  replace HB := hide (below_on (unhide HB) hb)
  have Dh := hide dh
  have Oh := hide oh
  clear hb dh oh
  go_wp2_with fail
  refine (unhide CI _ _ _ lh _ (unhide Oh).arg (unhide Dh)).mono ?_
  rintro e wh9 ⟨vh, dh, okh, rfl, hb, hown, hu⟩
  obtain ⟨e1, e2⟩ := unhide US _ _ _ _ (unhide UR) hu
  subst e1 e2
  have VH := hide (VarQ.start 28 hown)
  replace V0 := hide ((unhide V0).later hb)
  replace VG := hide ((unhide VG).later hb)
  replace HB := hide (below_on (unhide HB) hb)
  replace HB := hide ((unhide HB).alloc (unhide HB).size (.cells #[.bool vh.num.g, .slice vh.num.a vh.num.n vh.num.c, .bool vh.den.g, .slice vh.den.a vh.den.n vh.den.c] 28))
  replace V0 := hide ((unhide V0).later ((Below.refl _ _).alloc (Nat.le_refl _) (.cells #[.bool vh.num.g, .slice vh.num.a vh.num.n vh.num.c, .bool vh.den.g, .slice vh.den.a vh.den.n vh.den.c] 28)))
  replace VG := hide ((unhide VG).later ((Below.refl _ _).alloc (Nat.le_refl _) (.cells #[.bool vh.num.g, .slice vh.num.a vh.num.n vh.num.c, .bool vh.den.g, .slice vh.den.a vh.den.n vh.den.c] 28)))
  clear hb hown hu Oh Dh
  have hm0 : vh.num.n ≤ maxLen := by rw [← ((unhide VH).own.own (vh.num, dr.num) (by simp)).len, ((unhide V0).own.own (vr.num, dr.num) (by simp)).len]; exact rm0
  have hm1 : vh.den.n ≤ maxLen := by rw [← ((unhide VH).own.own (vh.den, dr.den) (by simp)).len, ((unhide V0).own.own (vr.den, dr.den) (by simp)).len]; exact rm1
  have p0 := (unhide VH).c0
  have pq0 := (unhide V0).c0
  have p1 := (unhide VH).c1
  have pq1 := (unhide V0).c1
  have p2 := (unhide VH).c2
  have pq2 := (unhide V0).c2
  have p3 := (unhide VH).c3
  have pq3 := (unhide V0).c3
  go_wp2_with fail
  refine (eqQ_at vh vr dr _ (unhide VH).own.sl (unhide V0).own.sl hm0 hm1).mono ?_
  rintro e w30 ⟨rfl, hb⟩
  clear p0 pq0 p1 pq1 p2 pq2 p3 pq3
  replace HB := hide (below_on (unhide HB) hb)
  replace VG := hide ((unhide VG).later hb)
  clear hb VH V0
  have p0 := (unhide VG).c0
  have p1 := (unhide VG).c1
  have p2 := (unhide VG).c2
  have p3 := (unhide VG).c3
  go_wp2_with fail
  refine (heldQ_at vg 1 _ ((unhide VG).own.sl (vg.num, ⟨dr.num.g, marks 1 vg.num.n⟩) (by simp)).sl ((unhide VG).own.sl (vg.den, ⟨dr.den.g, marks (1 + vg.num.n) vg.den.n⟩) (by simp)).sl ql0 ql1 (by omega) (by omega)).mono ?_
  rintro e w31 ⟨rfl, hb⟩
  replace HB := hide (below_on (unhide HB) hb)
  clear p0 p1 p2 p3 hb
  go_wp2
  go_ret
  exact ⟨rfl, (unhide HB)⟩
end Go.Proofs.YtliaddmkomcmnaaGreat
namespace Go.Proofs.YtliaddmkomcmnaaGreat
open Go.ChangeShapes Go.WideShapes Go.ChangeAt Go.RowKit Go.Joins
set_option linter.unusedVariables false
set_option maxRecDepth 100000
set_option linter.unusedSimpArgs false

theorem open_ratc {H : Type} {enc : TypeId × Value → H} {W : World} {m : Nat} {c0 c1 c2 c3 : Value} {x : DataW H × List MemPlace}
    (hf : DataW.trod enc Tryz.prog W 0 (fun _ => true) true m 56 [c0, c1, c2, c3] = some x) :
    ∃ p : QV × QD, (c0 = .bool p.1.num.g ∧ c1 = .slice p.1.num.a p.1.num.n p.1.num.c ∧ c2 = .bool p.1.den.g ∧ c3 = .slice p.1.den.a p.1.den.n p.1.den.c) ∧ AllSl W [(p.1.num, p.2.num), (p.1.den, p.2.den)] ∧ p.1.num.n ≤ maxLen ∧ p.1.den.n ≤ maxLen := by
  obtain ⟨y0, y1, n, hx, _, h0, h1⟩ := trod_struct2 Tryz.underlying56 hf
  have k0 : DataW.trod enc Tryz.prog W 0 (fun _ => true) true n 54 [c0, c1] = some y0 := by simpa [Value.cells, Tryz.cells54] using h0
  have k1 : DataW.trod enc Tryz.prog W 0 (fun _ => true) true n 54 [c2, c3] = some y1 := by simpa [Value.cells, Tryz.cells54] using h1
  obtain ⟨z0, z1, n1, _, _, p0, p1⟩ := trod_struct2 Tryz.underlying54 k0
  obtain ⟨z2, z3, n2, _, _, p2, p3⟩ := trod_struct2 Tryz.underlying54 k1
  have c_b : Tryz.prog.cellsOf 4 = 1 := by kernel_rfl
  have c_s : Tryz.prog.cellsOf 24 = 1 := by kernel_rfl
  obtain ⟨g, a, n', c, xs, rfl, rfl, s1, s2, s3, _⟩ := open_two (c0 := c0) (c1 := c1) (by simpa [c_b] using p0) (by simpa [c_s] using p1)
  obtain ⟨h, b, q, e, us, rfl, rfl, t1, t2, t3, _⟩ := open_two (c0 := c2) (c1 := c3) (by simpa [c_b] using p2) (by simpa [c_s] using p3)
  exact ⟨(⟨⟨g, a, n', c⟩, ⟨h, b, q, e⟩⟩, ⟨⟨g, xs⟩, ⟨h, us⟩⟩), ⟨rfl, rfl, rfl, rfl⟩, AllSl.cons ⟨rfl, s1, s2⟩ (AllSl.cons ⟨rfl, t1, t2⟩ (AllSl.nil _)), s3, t3⟩
theorem addr_add (b off k : Nat) : (⟨b, off, none⟩ : Addr).add k = ⟨b, off + k, none⟩ := by
  unfold Addr.add
  split
  · rename_i h; subst h; rfl
  · rfl
theorem addr_add_block (a : Addr) (k : Nat) : (a.add k).block = a.block := by unfold Addr.add; split <;> rfl
theorem open_PQ {H : Type} {enc : TypeId × Value → H} {W : World} {r : Reach} {b0 : Nat} {v : Value} {d : DataW H} {p : List MemPlace}
    (hv : Value.okWide Tryz.prog W r b0 53 v) (h : DataW.Trod enc Tryz.prog W 0 (fun _ => true) true 53 v d p) :
    ∃ (a : Option Addr) (n c : Nat) (l : List (QV × QD)), v = .slice a n c ∧ PSlQ W a l ∧ l.length = n ∧ n ≤ maxLen ∧ ∀ p ∈ l, p.1.num.n ≤ maxLen ∧ p.1.den.n ≤ maxLen := by
  obtain ⟨a, n, c, rfl⟩ := okWide_slice Tryz.underlying53 hv
  obtain ⟨fuel, hf⟩ := h
  rcases Go.Deep.open_slice Tryz.underlying53 hf with ⟨hcs, _⟩ | ⟨a', len, cap, m, n', D, Pl, hcs, _, hl, hm, hmm, _, hx⟩
  · simp only [Value.cells, List.cons.injEq, Value.slice.injEq, and_true] at hcs
    obtain ⟨rfl, rfl, rfl⟩ := hcs
    exact ⟨none, 0, 0, [], rfl, ⟨.inl rfl, fun p hp => by cases hp⟩, rfl, Nat.zero_le _, fun p hp => by cases hp⟩
  · simp only [Value.cells, List.cons.injEq, Value.slice.injEq, and_true] at hcs
    obtain ⟨rfl, rfl, rfl⟩ := hcs
    simp only [if_true] at hmm
    subst hmm
    have each : ∀ i, i < n → ∃ p : QV × QD, (W.cell? ((a'.add (i * 4)).add 0) = some (.bool p.1.num.g) ∧ W.cell? ((a'.add (i * 4)).add 1) = some (.slice p.1.num.a p.1.num.n p.1.num.c) ∧ W.cell? ((a'.add (i * 4)).add 2) = some (.bool p.1.den.g) ∧ W.cell? ((a'.add (i * 4)).add 3) = some (.slice p.1.den.a p.1.den.n p.1.den.c)) ∧ AllSl W [(p.1.num, p.2.num), (p.1.den, p.2.den)] ∧ p.1.num.n ≤ maxLen ∧ p.1.den.n ≤ maxLen := by
      intro i hi
      obtain ⟨cs, h1, h2⟩ := hx i (by omega)
      rw [Tryz.cells56] at h1
      obtain ⟨_, h3, h4⟩ := World.cells?_some h1
      match cs, h3 with
      | [c0, c1, c2, c3], _ =>
        obtain ⟨p, ⟨rfl, rfl, rfl, rfl⟩, hp⟩ := open_ratc h2
        exact ⟨p, ⟨h4 0 (by omega), h4 1 (by omega), h4 2 (by omega), h4 3 (by omega)⟩, hp⟩
    have inh : Inhabited (QV × QD) := ⟨(⟨⟨false, none, 0, 0⟩, ⟨false, none, 0, 0⟩⟩, ⟨⟨false, []⟩, ⟨false, []⟩⟩)⟩
    obtain ⟨f, hf⟩ := Go.Deep.choose_lt each
    refine ⟨some a', n, m, (List.range n).map f, rfl, ⟨?_, ?_⟩, by simp, Nat.le_trans hl hm, ?_⟩
    · by_cases h0 : n = 0
      · subst h0; exact .inl rfl
      · obtain ⟨b, off, spot⟩ := a'
        have hc := (hf 0 (by omega)).1.1
        have hspot : spot = none := by simpa [Addr.add] using World.cell?_spot hc
        subst hspot
        refine .inr ⟨b, off, rfl, ?_, fun i hi => ?_⟩
        · have := World.block_lt_of_cell? _ _ hc
          rw [addr_add, addr_add] at this
          exact this
        · have hi' : i < n := by simpa using hi
          have h1 := (hf i hi').1
          rw [addr_add, addr_add, addr_add, addr_add, addr_add] at h1
          simpa using h1
    · intro p hp
      obtain ⟨i, hi, rfl⟩ := List.mem_map.1 hp
      exact (hf i (List.mem_range.1 hi)).2.1
    · intro p hp
      obtain ⟨i, hi, rfl⟩ := List.mem_map.1 hp
      exact (hf i (List.mem_range.1 hi)).2.2
end Go.Proofs.YtliaddmkomcmnaaGreat
namespace Go.Proofs.YtliaddmkomcmnaaGreat
open Go.ChangeShapes Go.WideShapes Go.ChangeAt Go.RowKit Go.Joins
set_option linter.unusedVariables false
set_option maxRecDepth 100000
set_option linter.unusedSimpArgs false

set_option maxRecDepth 100000 in
theorem rbnd_holds_lifted (os : Os) (started : os.Started) (H : Type) (enc : TypeId × Value → H) :
    ReturnsInHanded {} Tryz.checked os 10 .any (Rows.fnExactRootBoundSpec.pre6 enc Tryz.prog Tryz.f10 Rows.fnExactRootBoundRow.domain false) (Rows.fnExactRootBoundSpec.post enc Tryz.prog Tryz.f10 false true false false) := by
  refine returnsInHanded_of_change (C := Tryz.checked) own started (by kernel_rfl) Tryz.func10
    (ChangeSpec.witness6 (enc := enc) (C := Tryz.checked) false ⟨#[], #[.slice none 0 0], []⟩ 8 (by kernel_rfl) (by kernel_rfl) (by kernel_rfl) (by kernel_rfl)) ?_
  intro W base args ds gs before hval0 hW hcnd _
  have hval : ∀ (j : Nat) t v, Tryz.f10.params[j]? = some t → args[j]? = some v → Value.okWide Tryz.prog W .any base t v := hval0
  have hW' := hW
  obtain ⟨p, q, hA0, hV, rfl, hfz, hnd⟩ := hW
  have hA : DataW.TrodAll enc Tryz.prog W 0 (fun _ => true) true Tryz.f10.params.toList args.toList ds p := hA0
  rw [Tryz.params10] at hA hval
  obtain ⟨v0, vs0, d0, ds0, p0, q0, hargs, rfl, rfl, h0, r0⟩ := trodAll_cons hA
  obtain ⟨rfl, rfl, rfl⟩ := trodAll_nil r0
  obtain rfl : args = #[v0] := by cases args; simp_all
  obtain ⟨rfl, rfl⟩ := trodVars_none hV
  have lt0 : ∀ x ∈ p0, x.block < W.heap.size := by obtain ⟨m, hm⟩ := h0; exact DataW.trod_lt m _ _ _ hm
  obtain ⟨a0, n0, c0, l0, rfl, sl0, hn0, hm0, ml0⟩ := open_PQ (hval 0 53 v0 rfl rfl) h0
  clear hA0 hval0
  refine (lawRBnd_walk a0 n0 c0 l0 W sl0 hn0 hm0 ml0).mono fun e W' ⟨he, bel⟩ => ?_
  subst he
  exact ⟨_, rfl, _, _, _, [], _, [], hW', trodAll_mk1 (shut_bool Tryz.underlying4 _), (trodAll_cons_mk (Below.trod laidOut (by kernel_rfl) (of_decide_eq_true (by kernel_rfl)) h0 bel lt0) trodAll_mk0), rfl, bel.frame _, fun h => by cases h⟩

theorem rbnd_holds_c0 : (Rows.fnExactRootBoundRow.wf (OpenSpec.ofChange Rows.fnExactRootBoundSpec)) = true := by kernel_rfl
theorem rbnd_holds_c1 : (laidOutB Tryz.pinned.checked.prog) = true := by kernel_rfl
theorem rbnd_holds_c2 : (mapsRowed Tryz.pinned.checked.prog) = true := by kernel_rfl
theorem rbnd_holds_c3 : (Tryz.f10.params.all (Tryz.pinned.checked.prog.readableRec ·)) = true := by kernel_rfl
theorem rbnd_holds_c4 : (namedTie Tryz.pinned.checked.prog Rows.fnExactRootBoundRow.named Rows.fnExactRootBoundSpec.vars) = true := by kernel_rfl
theorem rbnd_holds_c5 : (Rows.fnExactRootBoundRow.stops == []) = true := by kernel_rfl
theorem rbnd_holds_c6 : (Tryz.pinned.checked.prog.stops == []) = true := by kernel_rfl
theorem rbnd_holds_c7 : (Rows.fnExactRootBoundRow.knobs == []) = true := by kernel_rfl
theorem rbnd_holds_c8 : (Tryz.pinned.checked.prog.stopKnobs == []) = true := by kernel_rfl
theorem rbnd_holds_c9 : (Rows.fnExactRootBoundRow.inPlace == Tryz.pinned.checked.prog.inPlace 10) = true := by kernel_rfl
theorem rbnd_holds_c10 : (Rows.fnExactRootBoundRow.unfollowed == Tryz.pinned.checked.prog.unfollowed 10) = true := by kernel_rfl
theorem rbnd_holds_c11 : (Rows.fnExactRootBoundRow.recurses == Tryz.pinned.checked.prog.recurses 10) = true := by kernel_rfl
theorem rbnd_holds_c12 : (Rows.fnExactRootBoundRow.named == Tryz.pinned.checked.prog.varsNamed 10) = true := by kernel_rfl
theorem rbnd_holds_c13 : (Rows.fnExactRootBoundRow.maps == (Tryz.f10.params.toList ++ Rows.fnExactRootBoundSpec.plain.varTypes Tryz.pinned.checked.prog).any (Tryz.pinned.checked.prog.mapsRec ·)) = true := by kernel_rfl
theorem rbnd_holds_c14 : (Rows.fnExactRootBoundRow.ifaces == (Tryz.f10.params.toList ++ Rows.fnExactRootBoundSpec.plain.varTypes Tryz.pinned.checked.prog).any (Tryz.pinned.checked.prog.ifacesRec ·)) = true := by kernel_rfl
theorem rbnd_holds_c15 : (Rows.fnExactRootBoundRow.mapsOut == Tryz.pinned.checked.prog.mapsAmong Tryz.f10.resultTypes.toList) = true := by kernel_rfl
theorem rbnd_holds_c16 : (Rows.fnExactRootBoundRow.loops == (Tryz.f10.params.toList ++ Rows.fnExactRootBoundSpec.plain.varTypes Tryz.pinned.checked.prog).any (Tryz.pinned.checked.prog.loopsFrom ·)) = true := by kernel_rfl
theorem rbnd_holds_c17 : (Rows.fnExactRootBoundRow.wideKeys == (Tryz.f10.params.toList ++ Rows.fnExactRootBoundSpec.plain.varTypes Tryz.pinned.checked.prog ++ Tryz.f10.resultTypes.toList).any (Tryz.pinned.checked.prog.wideKeysFrom ·)) = true := by kernel_rfl
theorem rbnd_holds_c18 : (Rows.fnExactRootBoundSpec.vars.all (Tryz.pinned.checked.prog.varReadable ·)) = true := by kernel_rfl
theorem rbnd_holds_c19 : (Tryz.f10.resultTypes.all (fun t => Tryz.pinned.checked.prog.readableRec t && decide (t < Tryz.pinned.checked.prog.types.size))) = true := by kernel_rfl
theorem rbnd_holds_c20 : (Rows.fnExactRootBoundRow.ifacesOut == Tryz.f10.resultTypes.toList.any (Tryz.pinned.checked.prog.ifacesRec ·)) = true := by kernel_rfl
theorem rbnd_holds_c21 : (Rows.fnExactRootBoundRow.loopsOut == Tryz.f10.resultTypes.toList.any (Tryz.pinned.checked.prog.loopsFrom ·)) = true := by kernel_rfl
theorem rbnd_holds_c22 : (Rows.fnExactRootBoundRow.plainKeys == Tryz.pinned.checked.prog.plainKeys) = true := by kernel_rfl
theorem rbnd_holds_c23 : (Rows.fnExactRootBoundRow.shortTexts.isNone) = true := by kernel_rfl
theorem rbnd_holds_c24 : (Tryz.pinned.checked.prog.stopsHeard) = true := by kernel_rfl
theorem rbnd_holds_c25 : (Tryz.pinned.checked.prog.mayEnter) = true := io_enter
theorem rbnd_holds_c26 : (Rows.fnExactRootBoundRow.lifted == Tryz.pinned.checked.prog.liftsFinal) = true := by rw [io_lifts]; kernel_rfl
theorem rbnd_holds_c27 : (Tryz.pinned.checked.prog.make == some Rows.fnExactRootBoundRow.make) = true := by rw [io_make]; kernel_rfl
theorem rbnd_holds_c28 : (Rows.fnExactRootBoundRow.kinds == (if Rows.fnExactRootBoundRow.domain.isEmpty then [] else Tryz.f10.params.toList.map fun t => match Tryz.pinned.checked.prog.underlying t with | some (.int k) => some k | _ => none)) = true := by kernel_rfl
theorem rbnd_holds_c29 : (Rows.fnExactRootBoundRow.pinned == Rows.fnExactRootBoundRow.pinnedBy) = true := by kernel_rfl
theorem rbnd_holds_c30 : (Rows.fnExactRootBoundRow.veiled == (Tryz.f10.params.toList ++ Rows.fnExactRootBoundSpec.plain.varTypes Tryz.pinned.checked.prog ++ Tryz.f10.resultTypes.toList).any (Tryz.pinned.checked.prog.veiledRec ·)) = true := by kernel_rfl
theorem rbnd_holds_c31 : (Rows.fnExactRootBoundRow.veiledFits Tryz.pinned.checked.prog Tryz.f10.params.toList (Tryz.f10.params.toList ++ Rows.fnExactRootBoundSpec.plain.varTypes Tryz.pinned.checked.prog ++ Tryz.f10.resultTypes.toList)) = true := by kernel_rfl
theorem rbnd_holds_and {a b : Bool} (h : a = true) (k : b = true) : (a && b) = true := by rw [h, k]; rfl
theorem rbnd_holds_closed : joinedFacts Tryz.pinned.checked.prog 10 Tryz.f10 Rows.fnExactRootBoundSpec Rows.fnExactRootBoundRow = true := (rbnd_holds_and (rbnd_holds_and (rbnd_holds_and (rbnd_holds_and (rbnd_holds_and (rbnd_holds_and (rbnd_holds_and (rbnd_holds_and (rbnd_holds_and (rbnd_holds_and (rbnd_holds_and (rbnd_holds_and (rbnd_holds_and (rbnd_holds_and (rbnd_holds_and (rbnd_holds_and (rbnd_holds_and (rbnd_holds_and (rbnd_holds_and (rbnd_holds_and (rbnd_holds_and (rbnd_holds_and (rbnd_holds_and (rbnd_holds_and (rbnd_holds_and (rbnd_holds_and (rbnd_holds_and (rbnd_holds_and (rbnd_holds_and (rbnd_holds_and (rbnd_holds_and rbnd_holds_c0 rbnd_holds_c1) rbnd_holds_c2) rbnd_holds_c3) rbnd_holds_c4) rbnd_holds_c5) rbnd_holds_c6) rbnd_holds_c7) rbnd_holds_c8) rbnd_holds_c9) rbnd_holds_c10) rbnd_holds_c11) rbnd_holds_c12) rbnd_holds_c13) rbnd_holds_c14) rbnd_holds_c15) rbnd_holds_c16) rbnd_holds_c17) rbnd_holds_c18) rbnd_holds_c19) rbnd_holds_c20) rbnd_holds_c21) rbnd_holds_c22) rbnd_holds_c23) rbnd_holds_c24) rbnd_holds_c25) rbnd_holds_c26) rbnd_holds_c27) rbnd_holds_c28) rbnd_holds_c29) rbnd_holds_c30) rbnd_holds_c31)
theorem rbnd_holds_named : Tryz.pinned.checked.prog.funcNamed Rows.fnExactRootBoundRow.func = some 10 := by kernel_rfl
theorem rbnd_holds_inst : Tryz.f10.isInstance Tryz.pinned.checked.prog Rows.fnExactRootBoundRow.origin Rows.fnExactRootBoundRow.targs := of_decide_eq_true (by kernel_rfl)
theorem rbnd_holds_wrap : Tryz.f10.isWrapper Tryz.pinned.checked.prog Rows.fnExactRootBoundRow.wrapper Rows.fnExactRootBoundRow.mainSum := by unfold Func.isWrapper; first | (rw [if_pos (by decide +kernel)]; kernel_rfl) | (rw [if_neg (by decide +kernel)]; exact ⟨rfl, rfl⟩)
theorem rbnd_holds : Rows.FnExactRootBoundSaid :=
  OpenClaim.holds_of_wide 10 Tryz.f10 rfl rfl rfl rfl rfl rfl rfl ⟨rfl, rfl, rfl, rfl, rfl⟩ rfl rfl rfl rfl rfl rbnd_holds_named Tryz.func10 rbnd_holds_closed rbnd_holds_inst rbnd_holds_wrap
    (fun os started H enc _ => rbnd_holds_lifted os started H enc)
#print axioms rbnd_holds
end Go.Proofs.YtliaddmkomcmnaaGreat
