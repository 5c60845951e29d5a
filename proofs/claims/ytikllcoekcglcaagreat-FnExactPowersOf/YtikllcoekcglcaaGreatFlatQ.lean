/- The laws' functions over values of the kind Rat: size, copy, comparison, marks. No condition beyond those typed. Written by mkpair.py. -/
import Derived.Test.YtikllcoekcglcaaGreatFlat
namespace Go.Proofs.YtikllcoekcglcaaGreat
open Go.RowKit
set_option linter.unusedVariables false
set_option maxRecDepth 100000
set_option linter.unusedSimpArgs false

theorem szQ_in (v : QV) (left : Int) (w : World) (h0 : 0 ≤ left) (h1 : left ≤ 1048576) (h : (v.num.n : Int) + (v.den.n : Int) ≤ left) :
    Calls Tryz.prog 69 #[.agg #[.bool v.num.g, .slice v.num.a v.num.n v.num.c, .bool v.den.g, .slice v.den.a v.den.n v.den.c], .int .i64 left] w fun e w' => e = .returned (.int .i64 (left - (v.num.n : Int) - (v.den.n : Int))) ∧ Below w.heap.size w w' := by
  have k1 : ¬ (left - (v.num.n : Int) < 0) := by omega
  have k2 : ¬ (left - (v.num.n : Int) - (v.den.n : Int) < 0) := by omega
  go_enter Tryz.func69, Tryz.ntmps69
  go_wp2_with fail
  refine (sz_in v.num.g v.num.a v.num.n v.num.c left _ h0 h1 (by omega)).mono ?_
  rintro e w1 ⟨rfl, hb1⟩
  have y2 : w1.cell? ⟨w.heap.size, 2, none⟩ = some (.bool v.den.g) := cell_later hb1 (by simp [go_sem])
  have y3 : w1.cell? ⟨w.heap.size, 3, none⟩ = some (.slice v.den.a v.den.n v.den.c) := cell_later hb1 (by simp [go_sem])
  have HB := hide (ba hb1)
  clear hb1
  go_wp2_with fail
  refine (sz_in v.den.g v.den.a v.den.n v.den.c _ _ (by omega) (by omega) (by omega)).mono ?_
  rintro e w2 ⟨rfl, hb2⟩
  have HB2 := hide (below_on (unhide HB) hb2)
  clear hb2
  go_wp2
  go_ret
  exact ⟨rfl, unhide HB2⟩

theorem szQ_out (v : QV) (left : Int) (w : World) (h0 : 0 ≤ left) (h1 : left ≤ 1048576) (hm0 : v.num.n ≤ maxLen) (hm1 : v.den.n ≤ maxLen) (h : left < (v.num.n : Int) + (v.den.n : Int)) :
    Calls Tryz.prog 69 #[.agg #[.bool v.num.g, .slice v.num.a v.num.n v.num.c, .bool v.den.g, .slice v.den.a v.den.n v.den.c], .int .i64 left] w fun e w' => e = .returned (.int .i64 (-1)) ∧ Below w.heap.size w w' := by
  by_cases hn : left < (v.num.n : Int)
  · go_enter Tryz.func69, Tryz.ntmps69
    go_wp2_with fail
    refine (sz_out v.num.g v.num.a v.num.n v.num.c left _ h0 h1 hm0 hn).mono ?_
    rintro e w1 ⟨rfl, hb1⟩
    have HB := hide (ba hb1)
    clear hb1
    go_wp2
    go_ret
    exact ⟨rfl, unhide HB⟩
  · have k1 : ¬ (left - (v.num.n : Int) < 0) := by omega
    go_enter Tryz.func69, Tryz.ntmps69
    go_wp2_with fail
    refine (sz_in v.num.g v.num.a v.num.n v.num.c left _ h0 h1 (by omega)).mono ?_
    rintro e w1 ⟨rfl, hb1⟩
    have y2 : w1.cell? ⟨w.heap.size, 2, none⟩ = some (.bool v.den.g) := cell_later hb1 (by simp [go_sem])
    have y3 : w1.cell? ⟨w.heap.size, 3, none⟩ = some (.slice v.den.a v.den.n v.den.c) := cell_later hb1 (by simp [go_sem])
    have HB := hide (ba hb1)
    clear hb1
    go_wp2_with fail
    refine (sz_out v.den.g v.den.a v.den.n v.den.c _ _ (by omega) (by omega) hm1 (by omega)).mono ?_
    rintro e w2 ⟨rfl, hb2⟩
    have HB2 := hide (below_on (unhide HB) hb2)
    clear hb2
    go_wp2
    go_ret
    exact ⟨rfl, unhide HB2⟩

theorem AllSl.Ql {w : World} {v : QV} {d : QD} (h : AllSl w [(v.num, d.num), (v.den, d.den)]) : AllSl w [(v.num, d.num)] := fun p hp => h p (show p ∈ [(v.num, d.num), (v.den, d.den)] from (List.mem_append_left [(v.den, d.den)] hp : p ∈ [(v.num, d.num)] ++ [(v.den, d.den)]))
theorem AllSl.Qr {w : World} {v : QV} {d : QD} (h : AllSl w [(v.num, d.num), (v.den, d.den)]) : AllSl w [(v.den, d.den)] := fun p hp => h p (show p ∈ [(v.num, d.num), (v.den, d.den)] from (List.mem_append_right [(v.num, d.num)] hp : p ∈ [(v.num, d.num)] ++ [(v.den, d.den)]))
theorem AllAr.Ql {w : World} {v : QV} {d : QD} (h : AllAr w [(v.num, d.num), (v.den, d.den)]) : AllAr w [(v.num, d.num)] := fun p hp => h p (show p ∈ [(v.num, d.num), (v.den, d.den)] from (List.mem_append_left [(v.den, d.den)] hp : p ∈ [(v.num, d.num)] ++ [(v.den, d.den)]))
theorem AllAr.Qr {w : World} {v : QV} {d : QD} (h : AllAr w [(v.num, d.num), (v.den, d.den)]) : AllAr w [(v.den, d.den)] := fun p hp => h p (show p ∈ [(v.num, d.num), (v.den, d.den)] from (List.mem_append_right [(v.num, d.num)] hp : p ∈ [(v.num, d.num)] ++ [(v.den, d.den)]))

set_option maxHeartbeats 4000000 in
theorem toQ_at (v : QV) (d : QD) (w : World) (h : AllSl w [(v.num, d.num), (v.den, d.den)]) (h1 : v.num.n ≤ 1048576) (h2 : v.den.n ≤ 1048576) :
    Calls Tryz.prog 71 #[.agg #[.bool v.num.g, .slice v.num.a v.num.n v.num.c, .bool v.den.g, .slice v.den.a v.den.n v.den.c]] w fun e w' => ∃ u : QV, e = .returned (.agg #[.bool u.num.g, .slice u.num.a u.num.n u.num.c, .bool u.den.g, .slice u.den.a u.den.n u.den.c]) ∧ Below w.heap.size w w' ∧ (u.num.n = v.num.n ∧ u.den.n = v.den.n) ∧ AllOwn w.heap.size w'.heap.size w' [(u.num, d.num), (u.den, d.den)] ∧ AllAr w' [(u.num, d.num), (u.den, d.den)] := by
  have HX := hide h
  clear h
  have B3 := hide (below_three w (.cells #[.bool v.num.g, .slice v.num.a v.num.n v.num.c, .bool v.den.g, .slice v.den.a v.den.n v.den.c] 69) (.cells #[.bool false, .slice none 0 0, .bool false, .slice none 0 0] 28) (.cells #[.bool false, .slice none 0 0, .bool false, .slice none 0 0] 28))
  go_enter Tryz.func71, Tryz.ntmps71
  go_wp2_with fail
  refine (toB_at v.num d.num _ ((unhide HX).Ql.head.later (unhide B3)) h1).mono ?_
  rintro e w1 ⟨u1, rfl, hb1, hn1, ow1, ar1⟩
  have hs1 : w.heap.size + 3 ≤ w1.heap.size := by have := hb1.size; simp at this; omega
  have ow1' : AllOwn (w.heap.size + 3) w1.heap.size w1 [(u1, d.num)] := ow1.wide (by simp) (Nat.le_refl _)
  have B1 : Below w.heap.size w w1 := (unhide B3).trans (hb1.mono (by simp <;> omega))
  have y2 : w1.cell? ⟨w.heap.size, 2, none⟩ = some (.bool v.den.g) := cell_later hb1 (by simp [go_sem])
  have y3 : w1.cell? ⟨w.heap.size, 3, none⟩ = some (.slice v.den.a v.den.n v.den.c) := cell_later hb1 (by simp [go_sem])
  have q0 : w1.cell? ⟨w.heap.size + 1, 0, none⟩ = some (.bool false) := cell_later hb1 (by simp [go_sem])
  have q1 : w1.cell? ⟨w.heap.size + 1, 1, none⟩ = some (.slice none 0 0) := cell_later hb1 (by simp [go_sem])
  have q2 : w1.cell? ⟨w.heap.size + 1, 2, none⟩ = some (.bool false) := cell_later hb1 (by simp [go_sem])
  have q3 : w1.cell? ⟨w.heap.size + 1, 3, none⟩ = some (.slice none 0 0) := cell_later hb1 (by simp [go_sem])
  have r0 : w1.cell? ⟨w.heap.size + 1 + 1, 0, none⟩ = some (.bool false) := cell_later hb1 (by simp [go_sem])
  have r1 : w1.cell? ⟨w.heap.size + 1 + 1, 1, none⟩ = some (.slice none 0 0) := cell_later hb1 (by simp [go_sem])
  have r2 : w1.cell? ⟨w.heap.size + 1 + 1, 2, none⟩ = some (.bool false) := cell_later hb1 (by simp [go_sem])
  have r3 : w1.cell? ⟨w.heap.size + 1 + 1, 3, none⟩ = some (.slice none 0 0) := cell_later hb1 (by simp [go_sem])
  have f1 : ∀ o, w1.frozen? ⟨w.heap.size + 1, o, none⟩ = false := fun o => frozen_later hb1 (by simp) (by simp [go_sem])
  have f2 : ∀ o, w1.frozen? ⟨w.heap.size + 1 + 1, o, none⟩ = false := fun o => frozen_later hb1 (by simp) (by simp [go_sem])
  have O1 := hide (And.intro ow1' (And.intro ar1 hn1))
  have HB1 := hide B1
  clear ow1 ow1' ar1 hn1 hb1 B1
  go_wp2_with fail
  have B1' : Below w.heap.size w ((w1.setCell ⟨w.heap.size + 1 + 1, 0, none⟩ (.bool u1.g)).setCell ⟨w.heap.size + 1 + 1, 1, none⟩ (.slice u1.a u1.n u1.c)) := (((unhide HB1).setCell (by show w.heap.size ≤ w.heap.size + 1 + 1; omega) _).setCell (by show w.heap.size ≤ w.heap.size + 1 + 1; omega) _)
  refine (toB_at v.den d.den _ ((unhide HX).Qr.head.later B1') h2).mono ?_
  rintro e w2 ⟨u2, rfl, hb2, hn2, ow2, ar2⟩
  have hsz : ((w1.setCell ⟨w.heap.size + 1 + 1, 0, none⟩ (.bool u1.g)).setCell ⟨w.heap.size + 1 + 1, 1, none⟩ (.slice u1.a u1.n u1.c)).heap.size = w1.heap.size := by simp [World.setCell]
  have ow2' : AllOwn w1.heap.size w2.heap.size w2 [(u2, d.den)] := ow2.wide (by rw [hsz]; exact Nat.le_refl _) (Nat.le_refl _)
  have bt : But (w.heap.size + 1 + 1) (w.heap.size + 3) w1 ((w1.setCell ⟨w.heap.size + 1 + 1, 0, none⟩ (.bool u1.g)).setCell ⟨w.heap.size + 1 + 1, 1, none⟩ (.slice u1.a u1.n u1.c)) := (((But.refl _ _ _).set (p := ⟨w.heap.size + 1 + 1, 0, none⟩) (Nat.le_refl _) (by show w.heap.size + 1 + 1 < w.heap.size + 3; omega) _).set (p := ⟨w.heap.size + 1 + 1, 1, none⟩) (Nat.le_refl _) (by show w.heap.size + 1 + 1 < w.heap.size + 3; omega) _)
  have ow1 : AllOwn (w.heap.size + 3) w1.heap.size w2 [(u1, d.num)] := ((unhide O1).1.but bt (.inr (Nat.le_refl _))).later hb2
  have ar1 : AllAr w2 [(u1, d.num)] := fun p hp => ⟨((unhide O1).2.1 p hp).sg, ⟨(ow1.sl p hp).sl, ((unhide O1).2.1 p hp).ar.len, ((unhide O1).2.1 p hp).ar.cap, ((unhide O1).2.1 p hp).ar.top, ((unhide O1).2.1 p hp).ar.addr⟩⟩
  have hs2 : w1.heap.size ≤ w2.heap.size := by have := hb2.size; rw [hsz] at this; exact this
  have s0 : w2.cell? ⟨w.heap.size + 1 + 1, 0, none⟩ = some (.bool u1.g) := cell_later hb2 (by simp [go_sem, r0, r1, r2, r3])
  have s1 : w2.cell? ⟨w.heap.size + 1 + 1, 1, none⟩ = some (.slice u1.a u1.n u1.c) := cell_later hb2 (by simp [go_sem, r0, r1, r2, r3])
  have s2 : w2.cell? ⟨w.heap.size + 1 + 1, 2, none⟩ = some (.bool false) := cell_later hb2 (by simp [go_sem, r2])
  have s3 : w2.cell? ⟨w.heap.size + 1 + 1, 3, none⟩ = some (.slice none 0 0) := cell_later hb2 (by simp [go_sem, r3])
  have t0 : w2.cell? ⟨w.heap.size + 1, 0, none⟩ = some (.bool false) := cell_later hb2 (by simp [go_sem, q0])
  have t1 : w2.cell? ⟨w.heap.size + 1, 1, none⟩ = some (.slice none 0 0) := cell_later hb2 (by simp [go_sem, q1])
  have t2 : w2.cell? ⟨w.heap.size + 1, 2, none⟩ = some (.bool false) := cell_later hb2 (by simp [go_sem, q2])
  have t3 : w2.cell? ⟨w.heap.size + 1, 3, none⟩ = some (.slice none 0 0) := cell_later hb2 (by simp [go_sem, q3])
  have f3 : ∀ o, w2.frozen? ⟨w.heap.size + 1, o, none⟩ = false := fun o => frozen_later hb2 (by rw [hsz]; omega) (by simp [go_sem, f1])
  have f4 : ∀ o, w2.frozen? ⟨w.heap.size + 1 + 1, o, none⟩ = false := fun o => frozen_later hb2 (by rw [hsz]; omega) (by simp [go_sem, f2])
  have HO := hide (And.intro (ow1.join ow2' hs1 hs2) (And.intro ar1 (And.intro ar2 (And.intro (unhide O1).2.2 hn2))))
  have HB2 := hide (below_on B1' hb2)
  clear ow1 ow2 ow2' ar1 ar2 hn2 hb2 bt B1' y2 y3 q0 r0 q1 r1 q2 r2 q3 r3 f1 f2 O1 HB1 hsz
  go_wp2
  have hlt : (w.heap.size ≤ w.heap.size + 1 + 1) ∧ (w.heap.size ≤ w.heap.size + 1) ∧ (w.heap.size + 1 + 1 < w.heap.size + 3) ∧ (w.heap.size + 1 < w.heap.size + 3) ∧ (w.heap.size + 1 ≤ w.heap.size + 1 + 1) := by omega
  have bt : But (w.heap.size + 1) (w.heap.size + 3) w2 ((((((w2.setCell ⟨w.heap.size + 1 + 1, 2, none⟩ (.bool u2.g)).setCell ⟨w.heap.size + 1 + 1, 3, none⟩ (.slice u2.a u2.n u2.c)).setCell ⟨w.heap.size + 1, 0, none⟩ (.bool u1.g)).setCell ⟨w.heap.size + 1, 1, none⟩ (.slice u1.a u1.n u1.c)).setCell ⟨w.heap.size + 1, 2, none⟩ (.bool u2.g)).setCell ⟨w.heap.size + 1, 3, none⟩ (.slice u2.a u2.n u2.c)) := by
    refine ((((((But.refl _ _ _).set (p := ⟨w.heap.size + 1 + 1, 2, none⟩) ?_ ?_ _).set (p := ⟨w.heap.size + 1 + 1, 3, none⟩) ?_ ?_ _).set (p := ⟨w.heap.size + 1, 0, none⟩) ?_ ?_ _).set (p := ⟨w.heap.size + 1, 1, none⟩) ?_ ?_ _).set (p := ⟨w.heap.size + 1, 2, none⟩) ?_ ?_ _).set (p := ⟨w.heap.size + 1, 3, none⟩) ?_ ?_ _ <;> first | exact hlt.1 | exact hlt.2.1 | exact hlt.2.2.1 | exact hlt.2.2.2.1 | exact hlt.2.2.2.2 | exact Nat.le_refl _
  refine bodyPost_ret (v := .agg #[.bool u1.g, .slice u1.a u1.n u1.c, .bool u2.g, .slice u2.a u2.n u2.c]) (by simp [results, Tryz.results71, go_sem, s0, t0, s1, t1, s2, t2, s3, t3]) rfl ⟨⟨u1, u2⟩, rfl, bt.below (unhide HB2) (Nat.le_succ _) (unhide HB2).size, ?_, ?_, ?_⟩
  · have q := (unhide HO).2.2.2
    exact ⟨q.1, q.2⟩
  · exact ((unhide HO).1.but bt (.inr (Nat.le_refl _))).wide (by omega) bt.size
  · have oo := ((unhide HO).1.but bt (.inr (Nat.le_refl _))).sl
    have aa := (unhide HO).2.1.append (unhide HO).2.2.1
    exact fun p hp => ⟨(aa p hp).sg, ⟨(oo p hp).sl, (aa p hp).ar.len, (aa p hp).ar.cap, (aa p hp).ar.top, (aa p hp).ar.addr⟩⟩

set_option maxHeartbeats 1000000 in
theorem eqQ_at (v v' : QV) (d : QD) (w : World) (h : AllSl w [(v.num, d.num), (v.den, d.den)]) (h' : AllSl w [(v'.num, d.num), (v'.den, d.den)]) (hm0 : v.num.n ≤ maxLen) (hm1 : v.den.n ≤ maxLen) :
    Calls Tryz.prog 74 #[.agg #[.bool v.num.g, .slice v.num.a v.num.n v.num.c, .bool v.den.g, .slice v.den.a v.den.n v.den.c], .agg #[.bool v'.num.g, .slice v'.num.a v'.num.n v'.num.c, .bool v'.den.g, .slice v'.den.a v'.den.n v'.den.c]] w fun e w' => e = .returned (.bool true) ∧ Below w.heap.size w w' := by
  have HX := hide h
  have HX' := hide h'
  clear h h'
  have B2 := hide (below_two w (.cells #[.bool v.num.g, .slice v.num.a v.num.n v.num.c, .bool v.den.g, .slice v.den.a v.den.n v.den.c] 28) (.cells #[.bool v'.num.g, .slice v'.num.a v'.num.n v'.num.c, .bool v'.den.g, .slice v'.den.a v'.den.n v'.den.c] 28))
  go_enter Tryz.func74, Tryz.ntmps74
  go_wp2_with fail
  refine (eqB_at v.num v'.num d.num _ ((unhide HX).Ql.head.later (unhide B2)) ((unhide HX').Ql.head.later (unhide B2)) hm0).mono ?_
  rintro e w1 ⟨rfl, hb1⟩
  have x2 : w1.cell? ⟨w.heap.size, 2, none⟩ = some (.bool v.den.g) := cell_later hb1 (by simp [go_sem])
  have x3 : w1.cell? ⟨w.heap.size, 3, none⟩ = some (.slice v.den.a v.den.n v.den.c) := cell_later hb1 (by simp [go_sem])
  have y2 : w1.cell? ⟨w.heap.size + 1, 2, none⟩ = some (.bool v'.den.g) := cell_later hb1 (by simp [go_sem])
  have y3 : w1.cell? ⟨w.heap.size + 1, 3, none⟩ = some (.slice v'.den.a v'.den.n v'.den.c) := cell_later hb1 (by simp [go_sem])
  have HB := hide (below_two' hb1)
  clear hb1
  go_wp2_with fail
  refine (eqB_at v.den v'.den d.den _ ((unhide HX).Qr.head.later (unhide HB)) ((unhide HX').Qr.head.later (unhide HB)) hm1).mono ?_
  rintro e w2 ⟨rfl, hb2⟩
  have HB2 := hide (below_on (unhide HB) hb2)
  clear hb2
  go_wp2
  go_ret
  exact ⟨rfl, unhide HB2⟩

theorem re_assocQ {lo hi : Nat} {w : World} {pre post xs ys : List (BV × BD)} (h : AllOwn lo hi w (pre ++ (xs ++ (ys ++ post)))) : AllOwn lo hi w ((pre ++ xs) ++ (ys ++ post)) := by rw [List.append_assoc]; exact h
set_option maxHeartbeats 1000000 in
theorem markQ_at (v : QV) (d : QD) (pre post : List (BV × BD)) (k : Int) (lo hi : Nat) (w : World) (h : AllOwn lo hi w (pre ++ (v.num, d.num) :: (v.den, d.den) :: post)) (h1 : v.num.n ≤ 1048576) (h2 : v.den.n ≤ 1048576) (hh : hi ≤ w.heap.size) (k0 : 0 ≤ k) (k1 : k + (v.num.n : Int) + (v.den.n : Int) ≤ 4000000) :
    Calls Tryz.prog 76 #[.agg #[.bool v.num.g, .slice v.num.a v.num.n v.num.c, .bool v.den.g, .slice v.den.a v.den.n v.den.c], .int .i64 k] w fun e w' => e = .returned (.int .i64 (k + (v.num.n : Int) + (v.den.n : Int))) ∧ But lo hi w w' ∧ AllOwn lo hi w' (pre ++ (v.num, ⟨d.num.g, marks (k) v.num.n⟩) :: (v.den, ⟨d.den.g, marks (k + v.num.n) v.den.n⟩) :: post) := by
  have HO := hide h
  clear h
  have HB := hide (show ∀ o, Below w.heap.size w (w.alloc o) from fun o => (Below.refl _ _).alloc (Nat.le_refl _) _)
  have y : (w.alloc (.cells #[.bool v.num.g, .slice v.num.a v.num.n v.num.c, .bool v.den.g, .slice v.den.a v.den.n v.den.c] 28)).cell? ⟨w.heap.size, 2, none⟩ = some (.bool v.den.g) ∧ (w.alloc (.cells #[.bool v.num.g, .slice v.num.a v.num.n v.num.c, .bool v.den.g, .slice v.den.a v.den.n v.den.c] 28)).cell? ⟨w.heap.size, 3, none⟩ = some (.slice v.den.a v.den.n v.den.c) := by refine ⟨?_, ?_⟩ <;> simp [go_sem]
  go_enter Tryz.func76, Tryz.ntmps76
  go_wp2_with fail
  refine (markB_at v.num d.num pre ((v.den, d.den) :: post) k lo hi _ ((unhide HO).later (unhide HB _)) h1 k0 (by omega)).mono ?_
  rintro e w1 ⟨rfl, hb, ho⟩
  have HF := hide (And.intro ((But.of_below (unhide HB _)).trans hb) ho)
  obtain ⟨y2, y3⟩ := y
  have hz1 : hi ≤ w1.heap.size := by have := hb.size; simp at this; omega
  replace y2 := hb.cell y2 (.inr hh)
  replace y3 := hb.cell y3 (.inr hh)
  clear hb ho
  go_wp2_with fail
  refine (markB_at v.den d.den (pre ++ [(v.num, ⟨d.num.g, marks (k) v.num.n⟩)]) post _ lo hi w1 (re_assocQ (xs := [(v.num, ⟨d.num.g, marks (k) v.num.n⟩)]) (ys := [(v.den, d.den)]) (unhide HF).2) h2 (by omega) (by omega)).mono ?_
  rintro e w2 ⟨rfl, hb2, ho2⟩
  have HF2 := hide (And.intro ((unhide HF).1.trans hb2) ho2)
  clear hb2 ho2
  go_wp2
  go_ret
  refine ⟨rfl, (unhide HF2).1, ?_⟩
  have := (unhide HF2).2
  rw [List.append_assoc] at this
  exact this

set_option maxHeartbeats 1000000 in
theorem heldQ_at (v : QV) (k : Int) (w : World) (s0 : Sl w v.num.a (marks (k) v.num.n)) (s1 : Sl w v.den.a (marks (k + v.num.n) v.den.n)) (h1 : v.num.n ≤ 1048576) (h2 : v.den.n ≤ 1048576) (k0 : 0 ≤ k) (k1 : k + (v.num.n : Int) + (v.den.n : Int) ≤ 4000000) :
    Calls Tryz.prog 80 #[.agg #[.bool v.num.g, .slice v.num.a v.num.n v.num.c, .bool v.den.g, .slice v.den.a v.den.n v.den.c], .int .i64 k] w fun e w' => e = .returned (.int .i64 (k + (v.num.n : Int) + (v.den.n : Int))) ∧ Below w.heap.size w w' := by
  have HS := hide (And.intro s0 (And.intro s1 trivial))
  clear s0 s1
  have hk1 : ¬ (k + (v.num.n : Int) < 0) := by omega
  have hk2 : ¬ (k + (v.num.n : Int) + (v.den.n : Int) < 0) := by omega
  have HB := hide (show ∀ o, Below w.heap.size w (w.alloc o) from fun o => (Below.refl _ _).alloc (Nat.le_refl _) _)
  go_enter Tryz.func80, Tryz.ntmps80
  go_wp2_with fail
  refine (heldB_at v.num k _ ((unhide HS).1.later (Nat.le_refl _) (unhide HB _)) h1 k0 (by omega)).mono ?_
  rintro e w1 ⟨rfl, hb1⟩
  have y2 : w1.cell? ⟨w.heap.size, 2, none⟩ = some (.bool v.den.g) := cell_later hb1 (by simp [go_sem])
  have y3 : w1.cell? ⟨w.heap.size, 3, none⟩ = some (.slice v.den.a v.den.n v.den.c) := cell_later hb1 (by simp [go_sem])
  have HB1 := hide (ba hb1)
  clear hb1
  go_wp2_with fail
  refine (heldB_at v.den _ _ ((unhide HS).2.1.later (Nat.le_refl _) (unhide HB1)) h2 (by omega) (by omega)).mono ?_
  rintro e w2 ⟨rfl, hb2⟩
  have HB2 := hide (below_on (unhide HB1) hb2)
  clear hb2
  go_wp2
  go_ret
  exact ⟨rfl, unhide HB2⟩
end Go.Proofs.YtikllcoekcglcaaGreat
