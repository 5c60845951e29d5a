/- Chapter 8 of the specification: points in range, turns, segments. No condition beyond those typed. -/
import Derived.Test.YtoffondgdnmhkaaDoorRRRPtH
namespace Go.Proofs.YtoffondgdnmhkaaDoorRRR
open Go.RowKit
set_option linter.unusedVariables false
set_option maxRecDepth 100000
set_option linter.unusedSimpArgs false

def inR (n lo hi : Int) : Bool := decide (lo ≤ n) && decide (n ≤ hi)
theorem inS8 (n lo hi : Int) (w : World) :
    Calls Tryd.prog 12 #[.int .i64 n, .int .i64 lo, .int .i64 hi] w fun e w' => e = .returned (.bool (inR n lo hi)) ∧ w' = w := by
  unfold inR
  by_cases h1 : lo ≤ n
  · by_cases h2 : n ≤ hi
    · have d1 : decide (lo ≤ n) = true := decide_eq_true h1
      have d2 : decide (n ≤ hi) = true := decide_eq_true h2
      go_enter Tryd.func12, Tryd.ntmps12
      go_wp2
      go_ret
      exact ⟨by first | rfl | (rw [d1, d2]; rfl), rfl⟩
    · have d1 : decide (lo ≤ n) = true := decide_eq_true h1
      have d2 : decide (n ≤ hi) = false := decide_eq_false h2
      go_enter Tryd.func12, Tryd.ntmps12
      go_wp2
      go_ret
      exact ⟨by first | rfl | (rw [d1, d2]; rfl), rfl⟩
  · have d1 : decide (lo ≤ n) = false := decide_eq_false h1
    go_enter Tryd.func12, Tryd.ntmps12
    go_wp2
    go_ret
    exact ⟨by first | rfl | (rw [d1]; rfl), rfl⟩
def gPt (p : Int × Int) : Bool := inR p.1 (-1000) 1000 && inR p.2 (-1000) 1000
theorem goodPS (x y : Int) (w : World) :
    Calls Tryd.prog 42 #[.agg #[.int .i64 x, .int .i64 y]] w fun e w' => e = .returned (.bool (gPt (x, y))) ∧ Below w.heap.size w w' := by
  unfold gPt
  cases h1 : inR x (-1000) 1000
  · have C1 := hide (fun w => inS8 x (-1000) 1000 w)
    rw [h1] at C1
    go_enter Tryd.func42, Tryd.ntmps42
    go_wp2_with fail
    refine (unhide C1 _).mono ?_
    rintro e w1 ⟨rfl, rfl⟩
    go_wp2_with fail
    go_ret
    exact ⟨rfl, (Below.refl _ _).alloc (Nat.le_refl _) _⟩
  · have C1 := hide (fun w => inS8 x (-1000) 1000 w)
    have C2 := hide (fun w => inS8 y (-1000) 1000 w)
    rw [h1] at C1
    generalize inR y (-1000) 1000 = r at *
    go_enter Tryd.func42, Tryd.ntmps42
    go_wp2_with fail
    refine (unhide C1 _).mono ?_
    rintro e w1 ⟨rfl, rfl⟩
    go_wp2_with fail
    refine (unhide C2 _).mono ?_
    rintro e w1 ⟨rfl, rfl⟩
    go_wp2_with fail
    go_ret
    exact ⟨by cases r <;> rfl, (Below.refl _ _).alloc (Nat.le_refl _) _⟩
set_option maxHeartbeats 2000000 in
theorem ptsS (a : Option Addr) (n c : Nat) (l : List (Int × Int)) (w : World) (h : SlP w a l) (hn : l.length = n) (hm : n ≤ maxLen) :
    Calls Tryd.prog 33 #[.slice a n c] w fun e w' => e = .returned (.bool (l.all gPt)) ∧ Below w.heap.size w w' := by
  have HS := hide h
  have HN := hide hn
  clear h hn
  unfold maxLen at hm
  go_enter Tryd.func33, Tryd.ntmps33
  go_wp2
  go_loopw [7] (fun iv wr => ∃ i : Nat, i ≤ n ∧ iv = .int .i64 i ∧ Hid ((l.take i).all gPt = true) ∧ Hid (Below w.heap.size w wr)) (fun iv _ => n - (intOf iv).toNat)
  case atStart => exact ⟨0, Nat.zero_le _, rfl, hide rfl, hide (Below.refl _ _)⟩
  case round =>
    obtain ⟨i, hi, rfl, HA, HB⟩ := hrel
    by_cases hlt : i < n
    · have hlt' : (i : Int) < (n : Int) := by omega
      rcases (unhide HS) with e | ⟨b, off, rfl, hb, hc⟩
      · exact absurd (unhide HN) (by rw [e]; simp; omega)
      have e0 := hc i (by rw [unhide HN]; exact hlt)
      obtain ⟨y, hy⟩ : ∃ y, y = l[i]'(by rw [unhide HN]; exact hlt) := ⟨_, rfl⟩
      rw [← hy] at e0
      have MY : Hid (y ∈ l) := hide (by rw [hy]; exact List.getElem_mem _)
      have TK : Hid ((l.take (i + 1)).all gPt = gPt y) := hide (by rw [take_succP (by rw [unhide HN]; exact hlt), List.all_append, unhide HA, ← hy]; simp)
      clear hy hc
      have E0 : wr.cell? ⟨b, off + i * 2, none⟩ = some (.int .i64 y.1) := ((unhide HB).cell (p := ⟨b, off + i * 2, none⟩) hb).trans (e0.1)
      have E1 : wr.cell? ⟨b, off + i * 2 + 1, none⟩ = some (.int .i64 y.2) := ((unhide HB).cell (p := ⟨b, off + i * 2 + 1, none⟩) hb).trans (e0.2)
      clear e0
      have C1 := hide (fun w => goodPS y.1 y.2 w)
      cases hg : gPt y
      · have hg2 : gPt (y.1, y.2) = false := hg
        rw [hg2] at C1
        have NA : Hid (l.all gPt = false) := hide (by rw [List.all_eq_false]; exact ⟨y, unhide MY, by rw [hg]; simp⟩)
        go_wp2_with fail
        refine (unhide C1 _).mono ?_
        rintro e w1 ⟨rfl, hb1⟩
        have HB1 := hide (below_on (below_on (unhide HB) ((Below.refl _ _).alloc (Nat.le_refl _) _)) hb1)
        clear hb1 E0 E1
        go_wp2
        go_ret
        exact ⟨by rw [unhide NA]; rfl, unhide HB1⟩
      · have hg2 : gPt (y.1, y.2) = true := hg
        rw [hg2] at C1
        go_wp2_with fail
        refine (unhide C1 _).mono ?_
        rintro e w1 ⟨rfl, hb1⟩
        have HB1 := hide (below_on (below_on (unhide HB) ((Below.refl _ _).alloc (Nat.le_refl _) _)) hb1)
        clear hb1 E0 E1
        go_wp2
        go_roundw
        case rel => exact ⟨i + 1, by omega, by go_num, hide (by rw [unhide TK, hg]), HB1⟩
        case measure => simp [intOf]; omega
    · obtain rfl : i = n := by omega
      have EA : Hid (l.all gPt = true) := hide (by have := unhide HA; rw [← unhide HN, List.take_length] at this; exact this)
      go_wp2
      go_ret
      exact ⟨by rw [unhide EA]; rfl, unhide HB⟩
def crs (a b c : Int × Int) : Int := (b.1 - a.1) * (c.2 - a.2) - (b.2 - a.2) * (c.1 - a.1)
def sgZ (n : Int) : Int := if 0 < n then 1 else if n < 0 then -1 else 0
/-- A point of the document's, or one a little beyond. -/
structure Near (p : Int × Int) : Prop where
  x0 : -100000 ≤ p.1
  x1 : p.1 ≤ 100000
  y0 : -100000 ≤ p.2
  y1 : p.2 ≤ 100000
theorem near_of {p : Int × Int} (h : gPt p = true) : Near p := by
  simp [gPt, inR] at h
  exact ⟨by omega, by omega, by omega, by omega⟩
theorem mul_bd {u v : Int} (h1 : -200000 ≤ u) (h2 : u ≤ 200000) (h3 : -200000 ≤ v) (h4 : v ≤ 200000) : -40000000000 ≤ u * v ∧ u * v ≤ 40000000000 := by
  have h := Nat.mul_le_mul (show u.natAbs ≤ 200000 by omega) (show v.natAbs ≤ 200000 by omega)
  rw [← Int.natAbs_mul] at h
  omega
theorem al3 (w : World) (o p q : Obj) : Below w.heap.size w (((w.alloc o).alloc p).alloc q) := (((Below.refl _ _).alloc (Nat.le_refl _) _).alloc (by simp) _).alloc (by simp; omega) _
theorem crs_bd {a b c : Int × Int} (ha : Near a) (hb : Near b) (hc : Near c) : -80000000000 ≤ crs a b c ∧ crs a b c ≤ 80000000000 := by
  obtain ⟨a0, a1, a2, a3⟩ := ha
  obtain ⟨b0, b1, b2, b3⟩ := hb
  obtain ⟨c0, c1, c2, c3⟩ := hc
  have m1 := @mul_bd (b.1 - a.1) (c.2 - a.2) (by omega) (by omega) (by omega) (by omega)
  have m2 := @mul_bd (b.2 - a.2) (c.1 - a.1) (by omega) (by omega) (by omega) (by omega)
  unfold crs
  omega
/-- What three points tell. -/
def orV (a b c : Int × Int) : Int := if [a, b, c].all gPt then sgZ (crs a b c) else 0
theorem cellsP3 (w : World) (a b c : Int × Int) : SlP (w.alloc (.cells #[.int .i64 a.1, .int .i64 a.2, .int .i64 b.1, .int .i64 b.2, .int .i64 c.1, .int .i64 c.2] 46)) (some ⟨w.heap.size, 0, none⟩) [a, b, c] := by
  refine .inr ⟨w.heap.size, 0, rfl, by simp, fun i hi => ?_⟩
  match i, hi with
  | 0, _ => exact ⟨by simp [go_sem], by simp [go_sem]⟩
  | 1, _ => exact ⟨by simp [go_sem], by simp [go_sem]⟩
  | 2, _ => exact ⟨by simp [go_sem], by simp [go_sem]⟩
def btw (a b x : Int) : Bool := (decide (a ≤ x) && decide (x ≤ b)) || (decide (b ≤ x) && decide (x ≤ a))
def onV (a b p : Int × Int) : Bool := decide (crs a b p = 0) && (btw a.1 b.1 p.1 && btw a.2 b.2 p.2)
/-- Whether a point is on a segment, as told. -/
def osV (a b c : Int × Int) : Bool := if [a, b, c].all gPt then onV a b c else false
def gcdZ (a b : Int) : Int := ((Nat.gcd a.natAbs b.natAbs : Nat) : Int)
def gcI (a b : Int) : Bool := inR a (-10000) 10000 && inR b (-10000) 10000
theorem inR_le {n lo hi : Int} (h : inR n lo hi = true) : lo ≤ n ∧ n ≤ hi := by simpa [inR] using h
def wayB (l : List (Int × Int)) : Bool := inR l.length 3 12 && l.all gPt
theorem wayS (a : Option Addr) (n c : Nat) (l : List (Int × Int)) (w : World) (h : SlP w a l) (hn : l.length = n) (hm : n ≤ maxLen) :
    Calls Tryd.prog 27 #[.slice a n c] w fun e w' => e = .returned (.bool (wayB l)) ∧ Below w.heap.size w w' := by
  have C1 := hide (fun w => inS8 n 3 12 w)
  have C2 := hide (fun w (k : SlP w a l) => ptsS a n c l w k hn hm)
  have HS := hide h
  unfold wayB
  rw [hn]
  clear h hn hm
  cases h1 : inR (n : Int) 3 12
  · rw [h1] at C1
    go_enter Tryd.func27, Tryd.ntmps27
    go_wp2_with fail
    refine (unhide C1 _).mono ?_
    rintro e w1 ⟨rfl, rfl⟩
    go_wp2_with fail
    go_ret
    exact ⟨rfl, Below.refl _ _⟩
  · rw [h1] at C1
    generalize l.all gPt = r at *
    go_enter Tryd.func27, Tryd.ntmps27
    go_wp2_with fail
    refine (unhide C1 _).mono ?_
    rintro e w1 ⟨rfl, rfl⟩
    go_wp2_with fail
    refine (unhide C2 _ (unhide HS)).mono ?_
    rintro e w2 ⟨rfl, hb⟩
    go_wp2_with fail
    go_ret
    exact ⟨by cases r <;> rfl, hb⟩
/-- The point behind one. -/
def nxt (l : List (Int × Int)) (i : Nat) : Int × Int := l.getD ((i + 1) % l.length) (0, 0)
theorem getD_gt {l : List (Int × Int)} {i : Nat} (h : i < l.length) : l.getD i (0, 0) = l[i] := by rw [List.getD_eq_getElem?_getD, List.getElem?_eq_getElem h]; rfl
theorem nxt_mem {l : List (Int × Int)} (h : 0 < l.length) (i : Nat) : nxt l i ∈ l := by
  unfold nxt
  rw [getD_gt (Nat.mod_lt _ h)]
  exact List.getElem_mem _
def arS (l : List (Int × Int)) : Nat → Int
  | 0 => 0
  | k + 1 => arS l k + ((l.getD k (0, 0)).1 * (nxt l k).2 - (nxt l k).1 * (l.getD k (0, 0)).2)
theorem cr_bd {p q : Int × Int} (hp : Near p) (hq : Near q) : -80000000000 ≤ p.1 * q.2 - q.1 * p.2 ∧ p.1 * q.2 - q.1 * p.2 ≤ 80000000000 := by
  have m1 := @mul_bd p.1 q.2 (by have := hp.x0; omega) (by have := hp.x1; omega) (by have := hq.y0; omega) (by have := hq.y1; omega)
  have m2 := @mul_bd q.1 p.2 (by have := hq.x0; omega) (by have := hq.x1; omega) (by have := hp.y0; omega) (by have := hp.y1; omega)
  omega
theorem arS_bd {l : List (Int × Int)} (h : ∀ p ∈ l, Near p) : ∀ k, k ≤ l.length → -((k : Int) * 80000000000) ≤ arS l k ∧ arS l k ≤ (k : Int) * 80000000000
  | 0, _ => by simp [arS]
  | k + 1, hk => by
    have ih := arS_bd h k (by omega)
    have b := cr_bd (h (l.getD k (0, 0)) (by rw [getD_gt (by omega)]; exact List.getElem_mem _)) (h _ (nxt_mem (by omega) k))
    unfold arS
    omega
theorem gcd_bd {a b : Int} (h0 : -200000 ≤ a) (h1 : a ≤ 200000) (h2 : -200000 ≤ b) (h3 : b ≤ 200000) : 0 ≤ gcdZ a b ∧ gcdZ a b ≤ 200000 := by
  unfold gcdZ
  refine ⟨by omega, ?_⟩
  by_cases ha : a.natAbs = 0
  · rw [ha, Nat.gcd_zero_left]; omega
  · have := Nat.gcd_le_left b.natAbs (show 0 < a.natAbs by omega)
    omega
def boS (l : List (Int × Int)) : Nat → Int
  | 0 => 0
  | k + 1 => boS l k + gcdZ ((nxt l k).1 - (l.getD k (0, 0)).1) ((nxt l k).2 - (l.getD k (0, 0)).2)
theorem boS_bd {l : List (Int × Int)} (h : ∀ p ∈ l, Near p) : ∀ k, k ≤ l.length → 0 ≤ boS l k ∧ boS l k ≤ (k : Int) * 200000
  | 0, _ => by simp [boS]
  | k + 1, hk => by
    have ih := boS_bd h k (by omega)
    have np := h (l.getD k (0, 0)) (by rw [getD_gt (by omega)]; exact List.getElem_mem _)
    have nq := h _ (nxt_mem (show 0 < l.length by omega) k)
    have n0 := np.x0
    have n1 := np.x1
    have n2 := np.y0
    have n3 := np.y1
    have n4 := nq.x0
    have n5 := nq.x1
    have n6 := nq.y0
    have n7 := nq.y1
    have b := gcd_bd (a := (nxt l k).1 - (l.getD k (0, 0)).1) (b := (nxt l k).2 - (l.getD k (0, 0)).2) (by omega) (by omega) (by omega) (by omega)
    unfold boS
    omega
theorem way_parts {l : List (Int × Int)} (h : wayB l = true) : (3 ≤ l.length ∧ l.length ≤ 12) ∧ ∀ p ∈ l, Near p := by
  unfold wayB at h
  have h2 := (Bool.and_eq_true _ _).mp h
  have h3 := inR_le h2.1
  exact ⟨by omega, fun p hp => near_of (List.all_eq_true.1 h2.2 p hp)⟩
end Go.Proofs.YtoffondgdnmhkaaDoorRRR
