/- What FnPoints asks of points: plain mathematics, and the calls that it makes. No condition beyond those typed. -/
import Derived.Test.YtpchoiaombigjaaDrw8
import Derived.Test.YtpchoiaombigjaaTm8
import Derived.Test.YtpchoiaombigjaaOpenY
namespace Go.Proofs.Ytpchoiaombigjaa
open Go.RowKit
set_option linter.unusedVariables false
set_option maxRecDepth 100000
set_option linter.unusedSimpArgs false

theorem crs_flip (a b c : Int × Int) : crs b a c = -crs a b c := by unfold crs; grind
theorem crs_turn (a b c : Int × Int) : crs b c a = crs a b c := by unfold crs; grind
theorem sg_neg (n : Int) : sgZ (-n) = -sgZ n := by
  unfold sgZ
  by_cases h1 : 0 < n
  · rw [if_neg (by omega), if_pos (by omega), if_pos h1]
  · by_cases h2 : n < 0
    · rw [if_pos (by omega), if_neg h1, if_pos h2]; rfl
    · rw [if_neg (by omega), if_neg (by omega), if_neg h1, if_neg h2]; rfl
theorem btw_comm (a b x : Int) : btw a b x = btw b a x := by unfold btw; rw [Bool.or_comm]
theorem on_comm (a b p : Int × Int) : onV a b p = onV b a p := by
  unfold onV
  rw [btw_comm a.1, btw_comm a.2, crs_flip a b p]
  congr 1
  rw [decide_eq_decide]
  omega
theorem mul_neg_neg (x y : Int) : (-x) * (-y) = x * y := by grind
theorem me_back (a b c d : Int × Int) : meV d c b a = meV a b c d := by
  unfold meV
  rw [on_comm d c b, on_comm d c a, on_comm b a d, on_comm b a c]
  have e1 : sgZ (crs d c b) * sgZ (crs d c a) = sgZ (crs c d a) * sgZ (crs c d b) := by rw [crs_flip c d b, crs_flip c d a, sg_neg, sg_neg, mul_neg_neg, Int.mul_comm]
  have e2 : sgZ (crs b a d) * sgZ (crs b a c) = sgZ (crs a b c) * sgZ (crs a b d) := by rw [crs_flip a b d, crs_flip a b c, sg_neg, sg_neg, mul_neg_neg, Int.mul_comm]
  rw [e1, e2]
  generalize onV a b c = x1
  generalize onV a b d = x2
  generalize onV c d a = x3
  generalize onV c d b = x4
  generalize decide (sgZ (crs a b c) * sgZ (crs a b d) < 0) = y1
  generalize decide (sgZ (crs c d a) * sgZ (crs c d b) < 0) = y2
  cases x1 <;> cases x2 <;> cases x3 <;> cases x4 <;> cases y1 <;> cases y2 <;> rfl
/-- The calls on four points, and what is known of their answers. -/
structure PF (p q r s : Int × Int) (m ok : Bool) (o : Int) (ok3 sg g : Bool) : Prop where
  c1 : ∀ w, Calls Try.prog 17 #[.agg #[.int .i64 p.1, .int .i64 p.2], .agg #[.int .i64 q.1, .int .i64 q.2], .agg #[.int .i64 r.1, .int .i64 r.2], .agg #[.int .i64 s.1, .int .i64 s.2]] w fun e w' => e = .returned (.tuple #[.bool m, .bool ok]) ∧ Below w.heap.size w w'
  c2 : ∀ w, Calls Try.prog 18 #[.agg #[.int .i64 p.1, .int .i64 p.2], .agg #[.int .i64 q.1, .int .i64 q.2], .agg #[.int .i64 r.1, .int .i64 r.2], .agg #[.int .i64 s.1, .int .i64 s.2]] w fun e w' => e = .returned (.tuple #[.bool m, .bool ok]) ∧ Below w.heap.size w w'
  c3 : ∀ w, Calls Try.prog 19 #[.agg #[.int .i64 p.1, .int .i64 p.2], .agg #[.int .i64 q.1, .int .i64 q.2], .agg #[.int .i64 r.1, .int .i64 r.2]] w fun e w' => e = .returned (.tuple #[.int .i64 o, .bool ok3]) ∧ Below w.heap.size w w'
  c4 : ∀ w, Calls Try.prog 20 #[.agg #[.int .i64 p.1, .int .i64 p.2], .agg #[.int .i64 q.1, .int .i64 q.2], .agg #[.int .i64 r.1, .int .i64 r.2]] w fun e w' => e = .returned (.tuple #[.int .i64 o, .bool ok3]) ∧ Below w.heap.size w w'
  c5 : ∀ w, Calls Try.prog 21 #[.agg #[.int .i64 p.1, .int .i64 p.2], .agg #[.int .i64 q.1, .int .i64 q.2], .agg #[.int .i64 r.1, .int .i64 r.2]] w fun e w' => e = .returned (.tuple #[.bool sg, .bool ok3]) ∧ Below w.heap.size w w'
  c6 : ∀ w, Calls Try.prog 22 #[.agg #[.int .i64 p.1, .int .i64 p.2], .agg #[.int .i64 q.1, .int .i64 q.2], .agg #[.int .i64 r.1, .int .i64 r.2]] w fun e w' => e = .returned (.tuple #[.bool sg, .bool ok3]) ∧ Below w.heap.size w w'
  g1 : ∀ w, Calls Try.prog 23 #[.agg #[.int .i64 p.1, .int .i64 p.2]] w fun e w' => e = .returned (.bool g) ∧ Below w.heap.size w w'
  g2 : ∀ w, Calls Try.prog 24 #[.agg #[.int .i64 p.1, .int .i64 p.2]] w fun e w' => e = .returned (.bool g) ∧ Below w.heap.size w w'
  c7 : ∀ w, Calls Try.prog 17 #[.agg #[.int .i64 s.1, .int .i64 s.2], .agg #[.int .i64 r.1, .int .i64 r.2], .agg #[.int .i64 q.1, .int .i64 q.2], .agg #[.int .i64 p.1, .int .i64 p.2]] w fun e w' => e = .returned (.tuple #[.bool m, .bool ok]) ∧ Below w.heap.size w w'
  c8 : ∀ w, Calls Try.prog 19 #[.agg #[.int .i64 q.1, .int .i64 q.2], .agg #[.int .i64 p.1, .int .i64 p.2], .agg #[.int .i64 r.1, .int .i64 r.2]] w fun e w' => e = .returned (.tuple #[.int .i64 (-o), .bool ok3]) ∧ Below w.heap.size w w'
  c9 : ∀ w, Calls Try.prog 19 #[.agg #[.int .i64 q.1, .int .i64 q.2], .agg #[.int .i64 r.1, .int .i64 r.2], .agg #[.int .i64 p.1, .int .i64 p.2]] w fun e w' => e = .returned (.tuple #[.int .i64 o, .bool ok3]) ∧ Below w.heap.size w w'
  ho : -1 ≤ o ∧ o ≤ 1
  h3 : ok = true → ok3 = true
  hs : ok = true → sg = true → o = 0 ∧ m = true
theorem all4 (p q r s : Int × Int) : [s, r, q, p].all gPt = [p, q, r, s].all gPt := by
  simp only [List.all_cons, List.all_nil, Bool.and_true]
  generalize gPt p = a
  generalize gPt q = b
  generalize gPt r = c
  generalize gPt s = d
  cases a <;> cases b <;> cases c <;> cases d <;> rfl
theorem all3a (p q r : Int × Int) : [q, p, r].all gPt = [p, q, r].all gPt := by
  simp only [List.all_cons, List.all_nil, Bool.and_true]
  generalize gPt p = a
  generalize gPt q = b
  generalize gPt r = c
  cases a <;> cases b <;> cases c <;> rfl
theorem all3b (p q r : Int × Int) : [q, r, p].all gPt = [p, q, r].all gPt := by
  simp only [List.all_cons, List.all_nil, Bool.and_true]
  generalize gPt p = a
  generalize gPt q = b
  generalize gPt r = c
  cases a <;> cases b <;> cases c <;> rfl
theorem sm_back (p q r s : Int × Int) : smV s r q p = smV p q r s := by unfold smV; rw [all4, me_back]
theorem or_flip (p q r : Int × Int) : orV q p r = -orV p q r := by
  unfold orV
  rw [all3a, crs_flip, sg_neg]
  split <;> simp
theorem or_turn (p q r : Int × Int) : orV q r p = orV p q r := by unfold orV; rw [all3b, crs_turn]
theorem pts_pf (p q r s : Int × Int) : ∃ m ok o ok3 sg g, PF p q r s m ok o ok3 sg g := by
  refine ⟨smV p q r s, [p, q, r, s].all gPt, orV p q r, [p, q, r].all gPt, osV p q r, gPt (p.1, p.2), ?_⟩
  refine ⟨fun w => SegmentsMeetI p q r s w, fun w => SegmentsMeetS p q r s w, fun w => OrientI p q r w, fun w => OrientS p q r w, fun w => OnSegmentI p q r w, fun w => OnSegmentS p q r w, fun w => goodPI p.1 p.2 w, fun w => goodPS p.1 p.2 w, fun w => ?_, fun w => ?_, fun w => ?_, ?_, ?_, ?_⟩
  · have h := SegmentsMeetI s r q p w; rw [sm_back, all4] at h; exact h
  · have h := OrientI q p r w; rw [or_flip, all3a] at h; exact h
  · have h := OrientI q r p w; rw [or_turn, all3b] at h; exact h
  · unfold orV; split
    · exact sg_bd _
    · omega
  · simp only [List.all_cons, List.all_nil, Bool.and_true]
    generalize gPt p = a
    generalize gPt q = b
    generalize gPt r = c
    generalize gPt s = d
    cases a <;> cases b <;> cases c <;> cases d <;> simp
  · intro hok hsg
    have h3 : [p, q, r].all gPt = true := by
      simp only [List.all_cons, List.all_nil, Bool.and_true] at hok ⊢
      generalize gPt p = a at *
      generalize gPt q = b at *
      generalize gPt r = c at *
      generalize gPt s = d at *
      cases a <;> cases b <;> cases c <;> cases d <;> simp_all
    have h1 : onV p q r = true := by unfold osV at hsg; rw [h3] at hsg; exact hsg
    refine ⟨?_, ?_⟩
    · unfold orV
      rw [h3]
      have : crs p q r = 0 := by
        unfold onV at h1
        exact of_decide_eq_true ((Bool.and_eq_true _ _).mp h1).1
      rw [this]
      rfl
    · unfold smV
      rw [hok]
      unfold meV
      rw [h1]
      rfl
/-- The calls on two integers. -/
structure GF (x y g : Int) (k : Bool) : Prop where
  c1 : ∀ w, Calls Try.prog 26 #[.int .i64 x, .int .i64 y] w fun e w' => e = .returned (.tuple #[.int .i64 g, .bool k]) ∧ Below w.heap.size w w'
  c2 : ∀ w, Calls Try.prog 27 #[.int .i64 x, .int .i64 y] w fun e w' => e = .returned (.tuple #[.int .i64 g, .bool k]) ∧ Below w.heap.size w w'
  hb : 0 ≤ g ∧ g ≤ 1000000
  hd : 0 < g → x.tmod g = 0 ∧ y.tmod g = 0
theorem tmod_of_dvd {x : Int} {n : Nat} (h : n ∣ x.natAbs) : x.tmod (n : Int) = 0 := by
  have h1 : (x.tmod (n : Int)).natAbs = 0 := by rw [Int.natAbs_tmod, Int.natAbs_natCast]; exact Nat.mod_eq_zero_of_dvd h
  omega
theorem gcd_gf (x y : Int) (hx : -100000 ≤ x ∧ x ≤ 100000) (hy : -100000 ≤ y ∧ y ≤ 100000) : ∃ g k, GF x y g k := by
  refine ⟨if gcI x y then gcdZ x y else 0, gcI x y, fun w => GcdIntI x y w, fun w => (GcdIntS x y w).mono (fun e w' h => ⟨h.1, h.2 ▸ Below.refl _ _⟩), ?_, ?_⟩
  · split
    · have := gcd_bd (a := x) (b := y) (by omega) (by omega) (by omega) (by omega); omega
    · omega
  · split
    · intro h
      unfold gcdZ
      exact ⟨tmod_of_dvd (Nat.gcd_dvd_left _ _), tmod_of_dvd (Nat.gcd_dvd_right _ _)⟩
    · intro h; omega
theorem mv_at (l : List (Int × Int)) (q : Int × Int) {i : Nat} (h : i < l.length) : (mvL l q).getD i (0, 0) = ((l.getD i (0, 0)).1 + q.1, (l.getD i (0, 0)).2 + q.2) := by
  have h' : i < (mvL l q).length := by simpa [mvL] using h
  rw [getD_gt h', getD_gt h]
  simp [mvL]
theorem mv_len (l : List (Int × Int)) (q : Int × Int) : (mvL l q).length = l.length := by simp [mvL]
theorem ar_mv (l : List (Int × Int)) (q : Int × Int) (h0 : 0 < l.length) : ∀ k, k ≤ l.length → arS (mvL l q) k = arS l k + q.2 * ((l.getD 0 (0, 0)).1 - (l.getD (k % l.length) (0, 0)).1) + q.1 * ((l.getD (k % l.length) (0, 0)).2 - (l.getD 0 (0, 0)).2)
  | 0, _ => by simp [arS]
  | k + 1, hk => by
    have ih := ar_mv l q h0 k (by omega)
    have lt := Nat.mod_lt (k + 1) h0
    have e1 : nxt (mvL l q) k = ((l.getD ((k + 1) % l.length) (0, 0)).1 + q.1, (l.getD ((k + 1) % l.length) (0, 0)).2 + q.2) := by
      unfold nxt
      rw [mv_len, mv_at l q lt]
    have e2 : nxt l k = l.getD ((k + 1) % l.length) (0, 0) := rfl
    have e3 : k % l.length = k := Nat.mod_eq_of_lt (by omega)
    rw [e3] at ih
    unfold arS
    rw [ih, e1, e2, mv_at l q (by omega)]
    generalize l.getD k (0, 0) = a
    generalize l.getD ((k + 1) % l.length) (0, 0) = b
    generalize l.getD 0 (0, 0) = c
    generalize arS l k = A
    dsimp only
    grind
theorem ar_moved {l : List (Int × Int)} {q : Int × Int} (h0 : 0 < l.length) : arS (mvL l q) (mvL l q).length = arS l l.length := by
  rw [mv_len, ar_mv l q h0 l.length (Nat.le_refl _), Nat.mod_self]
  simp
theorem mvB_way {l : List (Int × Int)} {q : Int × Int} (h : mvB l q = true) : wayB l = true ∧ wayB (mvL l q) = true ∧ mvV l q = mvL l q := by
  have h' := h
  unfold mvB at h
  have h1 := (Bool.and_eq_true _ _).mp h
  have h2 := (Bool.and_eq_true _ _).mp h1.1
  exact ⟨h2.1, by rw [way_mv h2.1]; exact h1.2, by unfold mvV; rw [h']; rfl⟩
end Go.Proofs.Ytpchoiaombigjaa
