/- The law FnExactMixPt returns true for every argument and leaves it as it was: the given statement FnExactMixPtSaid. No condition. -/
import Derived.Test.YtikllcoekcglcaaGreatPkR4
namespace Go.Proofs.YtikllcoekcglcaaGreat
open Go.RowKit
set_option linter.unusedVariables false
set_option maxRecDepth 100000
set_option linter.unusedSimpArgs false

structure TlawMix (w wx : World) (v0 : SV) (d0 : SD) (v1 : SV) (d1 : SD) (v2 : QV) (d2 : QD) : Prop where
  bel : Below w.heap.size w wx
  x0_0 : wx.cell? ⟨w.heap.size, 0, none⟩ = some (.bool v0.lo.num.g)
  x0_1 : wx.cell? ⟨w.heap.size, 1, none⟩ = some (.slice v0.lo.num.a v0.lo.num.n v0.lo.num.c)
  x0_2 : wx.cell? ⟨w.heap.size, 2, none⟩ = some (.bool v0.lo.den.g)
  x0_3 : wx.cell? ⟨w.heap.size, 3, none⟩ = some (.slice v0.lo.den.a v0.lo.den.n v0.lo.den.c)
  x0_4 : wx.cell? ⟨w.heap.size, 4, none⟩ = some (.bool v0.hi.num.g)
  x0_5 : wx.cell? ⟨w.heap.size, 5, none⟩ = some (.slice v0.hi.num.a v0.hi.num.n v0.hi.num.c)
  x0_6 : wx.cell? ⟨w.heap.size, 6, none⟩ = some (.bool v0.hi.den.g)
  x0_7 : wx.cell? ⟨w.heap.size, 7, none⟩ = some (.slice v0.hi.den.a v0.hi.den.n v0.hi.den.c)
  x1_0 : wx.cell? ⟨w.heap.size + 1, 0, none⟩ = some (.bool v1.lo.num.g)
  x1_1 : wx.cell? ⟨w.heap.size + 1, 1, none⟩ = some (.slice v1.lo.num.a v1.lo.num.n v1.lo.num.c)
  x1_2 : wx.cell? ⟨w.heap.size + 1, 2, none⟩ = some (.bool v1.lo.den.g)
  x1_3 : wx.cell? ⟨w.heap.size + 1, 3, none⟩ = some (.slice v1.lo.den.a v1.lo.den.n v1.lo.den.c)
  x1_4 : wx.cell? ⟨w.heap.size + 1, 4, none⟩ = some (.bool v1.hi.num.g)
  x1_5 : wx.cell? ⟨w.heap.size + 1, 5, none⟩ = some (.slice v1.hi.num.a v1.hi.num.n v1.hi.num.c)
  x1_6 : wx.cell? ⟨w.heap.size + 1, 6, none⟩ = some (.bool v1.hi.den.g)
  x1_7 : wx.cell? ⟨w.heap.size + 1, 7, none⟩ = some (.slice v1.hi.den.a v1.hi.den.n v1.hi.den.c)
  x2_0 : wx.cell? ⟨w.heap.size + 1 + 1, 0, none⟩ = some (.bool v2.num.g)
  x2_1 : wx.cell? ⟨w.heap.size + 1 + 1, 1, none⟩ = some (.slice v2.num.a v2.num.n v2.num.c)
  x2_2 : wx.cell? ⟨w.heap.size + 1 + 1, 2, none⟩ = some (.bool v2.den.g)
  x2_3 : wx.cell? ⟨w.heap.size + 1 + 1, 3, none⟩ = some (.slice v2.den.a v2.den.n v2.den.c)
  s0 : AllSl wx [(v0.lo.num, d0.lo.num), (v0.lo.den, d0.lo.den), (v0.hi.num, d0.hi.num), (v0.hi.den, d0.hi.den)]
  s1 : AllSl wx [(v1.lo.num, d1.lo.num), (v1.lo.den, d1.lo.den), (v1.hi.num, d1.hi.num), (v1.hi.den, d1.hi.den)]
  s2 : AllSl wx [(v2.num, d2.num), (v2.den, d2.den)]
theorem TlawMix.later {w wx wy : World} {v0 : SV} {d0 : SD} {v1 : SV} {d1 : SD} {v2 : QV} {d2 : QD} (h : TlawMix w wx v0 d0 v1 d1 v2 d2) (hb : Below wx.heap.size wx wy) : TlawMix w wy v0 d0 v1 d1 v2 d2 :=
  ⟨below_on h.bel hb, cell_later hb h.x0_0, cell_later hb h.x0_1, cell_later hb h.x0_2, cell_later hb h.x0_3, cell_later hb h.x0_4, cell_later hb h.x0_5, cell_later hb h.x0_6, cell_later hb h.x0_7, cell_later hb h.x1_0, cell_later hb h.x1_1, cell_later hb h.x1_2, cell_later hb h.x1_3, cell_later hb h.x1_4, cell_later hb h.x1_5, cell_later hb h.x1_6, cell_later hb h.x1_7, cell_later hb h.x2_0, cell_later hb h.x2_1, cell_later hb h.x2_2, cell_later hb h.x2_3, h.s0.later hb, h.s1.later hb, h.s2.later hb⟩
theorem TlawMix.but {w wx wy : World} {v0 : SV} {d0 : SD} {v1 : SV} {d1 : SD} {v2 : QV} {d2 : QD} {lo hi : Nat} (h : TlawMix w wx v0 d0 v1 d1 v2 d2) (hb : But lo hi wx wy) (hl : w.heap.size + 3 ≤ lo) (hx0 : AllSl w [(v0.lo.num, d0.lo.num), (v0.lo.den, d0.lo.den), (v0.hi.num, d0.hi.num), (v0.hi.den, d0.hi.den)]) (hx1 : AllSl w [(v1.lo.num, d1.lo.num), (v1.lo.den, d1.lo.den), (v1.hi.num, d1.hi.num), (v1.hi.den, d1.hi.den)]) (hx2 : AllSl w [(v2.num, d2.num), (v2.den, d2.den)]) : TlawMix w wy v0 d0 v1 d1 v2 d2 := by
  have hB := hb.below h.bel (by omega) h.bel.size
  exact ⟨hB, hb.cell h.x0_0 (by omega), hb.cell h.x0_1 (by omega), hb.cell h.x0_2 (by omega), hb.cell h.x0_3 (by omega), hb.cell h.x0_4 (by omega), hb.cell h.x0_5 (by omega), hb.cell h.x0_6 (by omega), hb.cell h.x0_7 (by omega), hb.cell h.x1_0 (by omega), hb.cell h.x1_1 (by omega), hb.cell h.x1_2 (by omega), hb.cell h.x1_3 (by omega), hb.cell h.x1_4 (by omega), hb.cell h.x1_5 (by omega), hb.cell h.x1_6 (by omega), hb.cell h.x1_7 (by omega), hb.cell h.x2_0 (by omega), hb.cell h.x2_1 (by omega), hb.cell h.x2_2 (by omega), hb.cell h.x2_3 (by omega), hx0.later hB, hx1.later hB, hx2.later hB⟩
theorem TlawMix.start (w : World) (v0 : SV) (d0 : SD) (v1 : SV) (d1 : SD) (v2 : QV) (d2 : QD) (t0 : TypeId) (t1 : TypeId) (t2 : TypeId) (hx0 : AllSl w [(v0.lo.num, d0.lo.num), (v0.lo.den, d0.lo.den), (v0.hi.num, d0.hi.num), (v0.hi.den, d0.hi.den)]) (hx1 : AllSl w [(v1.lo.num, d1.lo.num), (v1.lo.den, d1.lo.den), (v1.hi.num, d1.hi.num), (v1.hi.den, d1.hi.den)]) (hx2 : AllSl w [(v2.num, d2.num), (v2.den, d2.den)]) : TlawMix w (((w.alloc (.cells #[.bool v0.lo.num.g, .slice v0.lo.num.a v0.lo.num.n v0.lo.num.c, .bool v0.lo.den.g, .slice v0.lo.den.a v0.lo.den.n v0.lo.den.c, .bool v0.hi.num.g, .slice v0.hi.num.a v0.hi.num.n v0.hi.num.c, .bool v0.hi.den.g, .slice v0.hi.den.a v0.hi.den.n v0.hi.den.c] t0)).alloc (.cells #[.bool v1.lo.num.g, .slice v1.lo.num.a v1.lo.num.n v1.lo.num.c, .bool v1.lo.den.g, .slice v1.lo.den.a v1.lo.den.n v1.lo.den.c, .bool v1.hi.num.g, .slice v1.hi.num.a v1.hi.num.n v1.hi.num.c, .bool v1.hi.den.g, .slice v1.hi.den.a v1.hi.den.n v1.hi.den.c] t1)).alloc (.cells #[.bool v2.num.g, .slice v2.num.a v2.num.n v2.num.c, .bool v2.den.g, .slice v2.den.a v2.den.n v2.den.c] t2)) v0 d0 v1 d1 v2 d2 := by
  have hb : Below w.heap.size w (((w.alloc (.cells #[.bool v0.lo.num.g, .slice v0.lo.num.a v0.lo.num.n v0.lo.num.c, .bool v0.lo.den.g, .slice v0.lo.den.a v0.lo.den.n v0.lo.den.c, .bool v0.hi.num.g, .slice v0.hi.num.a v0.hi.num.n v0.hi.num.c, .bool v0.hi.den.g, .slice v0.hi.den.a v0.hi.den.n v0.hi.den.c] t0)).alloc (.cells #[.bool v1.lo.num.g, .slice v1.lo.num.a v1.lo.num.n v1.lo.num.c, .bool v1.lo.den.g, .slice v1.lo.den.a v1.lo.den.n v1.lo.den.c, .bool v1.hi.num.g, .slice v1.hi.num.a v1.hi.num.n v1.hi.num.c, .bool v1.hi.den.g, .slice v1.hi.den.a v1.hi.den.n v1.hi.den.c] t1)).alloc (.cells #[.bool v2.num.g, .slice v2.num.a v2.num.n v2.num.c, .bool v2.den.g, .slice v2.den.a v2.den.n v2.den.c] t2)) := (((Below.refl _ _).alloc (Nat.le_refl _) _).alloc (by simp) _).alloc (by simp; omega) _
  exact ⟨hb, by simp [go_sem], by simp [go_sem], by simp [go_sem], by simp [go_sem], by simp [go_sem], by simp [go_sem], by simp [go_sem], by simp [go_sem], by simp [go_sem], by simp [go_sem], by simp [go_sem], by simp [go_sem], by simp [go_sem], by simp [go_sem], by simp [go_sem], by simp [go_sem], by simp [go_sem], by simp [go_sem], by simp [go_sem], by simp [go_sem], hx0.later hb, hx1.later hb, hx2.later hb⟩

set_option maxHeartbeats 1000000 in
theorem lawMix_out0 (v0 : SV) (v1 : SV) (v2 : QV) (w : World) (m0 : v0.lo.num.n ≤ maxLen) (m1 : v0.lo.den.n ≤ maxLen) (m2 : v0.hi.num.n ≤ maxLen) (m3 : v0.hi.den.n ≤ maxLen) (h0 : 0 ≤ 1048576) (h : 1048576 < v0.lo.num.n + v0.lo.den.n + v0.hi.num.n + v0.hi.den.n) :
    Calls Tryz.prog 12 #[.agg #[.bool v0.lo.num.g, .slice v0.lo.num.a v0.lo.num.n v0.lo.num.c, .bool v0.lo.den.g, .slice v0.lo.den.a v0.lo.den.n v0.lo.den.c, .bool v0.hi.num.g, .slice v0.hi.num.a v0.hi.num.n v0.hi.num.c, .bool v0.hi.den.g, .slice v0.hi.den.a v0.hi.den.n v0.hi.den.c], .agg #[.bool v1.lo.num.g, .slice v1.lo.num.a v1.lo.num.n v1.lo.num.c, .bool v1.lo.den.g, .slice v1.lo.den.a v1.lo.den.n v1.lo.den.c, .bool v1.hi.num.g, .slice v1.hi.num.a v1.hi.num.n v1.hi.num.c, .bool v1.hi.den.g, .slice v1.hi.den.a v1.hi.den.n v1.hi.den.c], .agg #[.bool v2.num.g, .slice v2.num.a v2.num.n v2.num.c, .bool v2.den.g, .slice v2.den.a v2.den.n v2.den.c]] w fun e w' => e = .returned (.bool true) ∧ Below w.heap.size w w' := by
  go_enter Tryz.func12, Tryz.ntmps12
  go_wp2_with fail
  refine (szS_out v0 _ _ (by omega) (by omega) m0 m1 m2 m3 (by omega)).mono ?_
  rintro e w1 ⟨rfl, hb⟩
  have HB := hide (ba (ba (ba hb)))
  clear hb
  go_wp2
  go_ret
  exact ⟨rfl, unhide HB⟩

set_option maxHeartbeats 1000000 in
theorem lawMix_out1 (v0 : SV) (v1 : SV) (v2 : QV) (w : World) (m0 : v1.lo.num.n ≤ maxLen) (m1 : v1.lo.den.n ≤ maxLen) (m2 : v1.hi.num.n ≤ maxLen) (m3 : v1.hi.den.n ≤ maxLen) (h0 : v0.lo.num.n + v0.lo.den.n + v0.hi.num.n + v0.hi.den.n ≤ 1048576) (h : 1048576 < v0.lo.num.n + v0.lo.den.n + v0.hi.num.n + v0.hi.den.n + v1.lo.num.n + v1.lo.den.n + v1.hi.num.n + v1.hi.den.n) :
    Calls Tryz.prog 12 #[.agg #[.bool v0.lo.num.g, .slice v0.lo.num.a v0.lo.num.n v0.lo.num.c, .bool v0.lo.den.g, .slice v0.lo.den.a v0.lo.den.n v0.lo.den.c, .bool v0.hi.num.g, .slice v0.hi.num.a v0.hi.num.n v0.hi.num.c, .bool v0.hi.den.g, .slice v0.hi.den.a v0.hi.den.n v0.hi.den.c], .agg #[.bool v1.lo.num.g, .slice v1.lo.num.a v1.lo.num.n v1.lo.num.c, .bool v1.lo.den.g, .slice v1.lo.den.a v1.lo.den.n v1.lo.den.c, .bool v1.hi.num.g, .slice v1.hi.num.a v1.hi.num.n v1.hi.num.c, .bool v1.hi.den.g, .slice v1.hi.den.a v1.hi.den.n v1.hi.den.c], .agg #[.bool v2.num.g, .slice v2.num.a v2.num.n v2.num.c, .bool v2.den.g, .slice v2.den.a v2.den.n v2.den.c]] w fun e w' => e = .returned (.bool true) ∧ Below w.heap.size w w' := by
  have hd0 : ¬ ((1048576 : Int) - (v0.lo.num.n : Int) - (v0.lo.den.n : Int) - (v0.hi.num.n : Int) - (v0.hi.den.n : Int) < 0) := by omega
  go_enter Tryz.func12, Tryz.ntmps12
  go_wp2_with fail
  refine (szS_in v0 _ _ (by omega) (by omega) (by omega)).mono ?_
  rintro e w1 ⟨rfl, hb⟩
  have y1_0 : w1.cell? ⟨w.heap.size + 1, 0, none⟩ = some (.bool v1.lo.num.g) := cell_later hb (by simp [go_sem])
  have y1_1 : w1.cell? ⟨w.heap.size + 1, 1, none⟩ = some (.slice v1.lo.num.a v1.lo.num.n v1.lo.num.c) := cell_later hb (by simp [go_sem])
  have y1_2 : w1.cell? ⟨w.heap.size + 1, 2, none⟩ = some (.bool v1.lo.den.g) := cell_later hb (by simp [go_sem])
  have y1_3 : w1.cell? ⟨w.heap.size + 1, 3, none⟩ = some (.slice v1.lo.den.a v1.lo.den.n v1.lo.den.c) := cell_later hb (by simp [go_sem])
  have y1_4 : w1.cell? ⟨w.heap.size + 1, 4, none⟩ = some (.bool v1.hi.num.g) := cell_later hb (by simp [go_sem])
  have y1_5 : w1.cell? ⟨w.heap.size + 1, 5, none⟩ = some (.slice v1.hi.num.a v1.hi.num.n v1.hi.num.c) := cell_later hb (by simp [go_sem])
  have y1_6 : w1.cell? ⟨w.heap.size + 1, 6, none⟩ = some (.bool v1.hi.den.g) := cell_later hb (by simp [go_sem])
  have y1_7 : w1.cell? ⟨w.heap.size + 1, 7, none⟩ = some (.slice v1.hi.den.a v1.hi.den.n v1.hi.den.c) := cell_later hb (by simp [go_sem])
  have HB := hide (ba (ba (ba hb)))
  clear hb
  go_wp2_with fail
  refine (szS_out v1 _ _ (by omega) (by omega) m0 m1 m2 m3 (by omega)).mono ?_
  rintro e w2 ⟨rfl, hb⟩
  replace HB := hide (below_on (unhide HB) hb)
  clear hb
  go_wp2
  go_ret
  exact ⟨rfl, unhide HB⟩

set_option maxHeartbeats 1000000 in
theorem lawMix_out2 (v0 : SV) (v1 : SV) (v2 : QV) (w : World) (m0 : v2.num.n ≤ maxLen) (m1 : v2.den.n ≤ maxLen) (h0 : v0.lo.num.n + v0.lo.den.n + v0.hi.num.n + v0.hi.den.n + v1.lo.num.n + v1.lo.den.n + v1.hi.num.n + v1.hi.den.n ≤ 1048576) (h : 1048576 < v0.lo.num.n + v0.lo.den.n + v0.hi.num.n + v0.hi.den.n + v1.lo.num.n + v1.lo.den.n + v1.hi.num.n + v1.hi.den.n + v2.num.n + v2.den.n) :
    Calls Tryz.prog 12 #[.agg #[.bool v0.lo.num.g, .slice v0.lo.num.a v0.lo.num.n v0.lo.num.c, .bool v0.lo.den.g, .slice v0.lo.den.a v0.lo.den.n v0.lo.den.c, .bool v0.hi.num.g, .slice v0.hi.num.a v0.hi.num.n v0.hi.num.c, .bool v0.hi.den.g, .slice v0.hi.den.a v0.hi.den.n v0.hi.den.c], .agg #[.bool v1.lo.num.g, .slice v1.lo.num.a v1.lo.num.n v1.lo.num.c, .bool v1.lo.den.g, .slice v1.lo.den.a v1.lo.den.n v1.lo.den.c, .bool v1.hi.num.g, .slice v1.hi.num.a v1.hi.num.n v1.hi.num.c, .bool v1.hi.den.g, .slice v1.hi.den.a v1.hi.den.n v1.hi.den.c], .agg #[.bool v2.num.g, .slice v2.num.a v2.num.n v2.num.c, .bool v2.den.g, .slice v2.den.a v2.den.n v2.den.c]] w fun e w' => e = .returned (.bool true) ∧ Below w.heap.size w w' := by
  have hd0 : ¬ ((1048576 : Int) - (v0.lo.num.n : Int) - (v0.lo.den.n : Int) - (v0.hi.num.n : Int) - (v0.hi.den.n : Int) < 0) := by omega
  have hd1 : ¬ ((1048576 : Int) - (v0.lo.num.n : Int) - (v0.lo.den.n : Int) - (v0.hi.num.n : Int) - (v0.hi.den.n : Int) - (v1.lo.num.n : Int) - (v1.lo.den.n : Int) - (v1.hi.num.n : Int) - (v1.hi.den.n : Int) < 0) := by omega
  go_enter Tryz.func12, Tryz.ntmps12
  go_wp2_with fail
  refine (szS_in v0 _ _ (by omega) (by omega) (by omega)).mono ?_
  rintro e w1 ⟨rfl, hb⟩
  have y1_0 : w1.cell? ⟨w.heap.size + 1, 0, none⟩ = some (.bool v1.lo.num.g) := cell_later hb (by simp [go_sem])
  have y1_1 : w1.cell? ⟨w.heap.size + 1, 1, none⟩ = some (.slice v1.lo.num.a v1.lo.num.n v1.lo.num.c) := cell_later hb (by simp [go_sem])
  have y1_2 : w1.cell? ⟨w.heap.size + 1, 2, none⟩ = some (.bool v1.lo.den.g) := cell_later hb (by simp [go_sem])
  have y1_3 : w1.cell? ⟨w.heap.size + 1, 3, none⟩ = some (.slice v1.lo.den.a v1.lo.den.n v1.lo.den.c) := cell_later hb (by simp [go_sem])
  have y1_4 : w1.cell? ⟨w.heap.size + 1, 4, none⟩ = some (.bool v1.hi.num.g) := cell_later hb (by simp [go_sem])
  have y1_5 : w1.cell? ⟨w.heap.size + 1, 5, none⟩ = some (.slice v1.hi.num.a v1.hi.num.n v1.hi.num.c) := cell_later hb (by simp [go_sem])
  have y1_6 : w1.cell? ⟨w.heap.size + 1, 6, none⟩ = some (.bool v1.hi.den.g) := cell_later hb (by simp [go_sem])
  have y1_7 : w1.cell? ⟨w.heap.size + 1, 7, none⟩ = some (.slice v1.hi.den.a v1.hi.den.n v1.hi.den.c) := cell_later hb (by simp [go_sem])
  have y2_0 : w1.cell? ⟨w.heap.size + 1 + 1, 0, none⟩ = some (.bool v2.num.g) := cell_later hb (by simp [go_sem])
  have y2_1 : w1.cell? ⟨w.heap.size + 1 + 1, 1, none⟩ = some (.slice v2.num.a v2.num.n v2.num.c) := cell_later hb (by simp [go_sem])
  have y2_2 : w1.cell? ⟨w.heap.size + 1 + 1, 2, none⟩ = some (.bool v2.den.g) := cell_later hb (by simp [go_sem])
  have y2_3 : w1.cell? ⟨w.heap.size + 1 + 1, 3, none⟩ = some (.slice v2.den.a v2.den.n v2.den.c) := cell_later hb (by simp [go_sem])
  have HB := hide (ba (ba (ba hb)))
  clear hb
  go_wp2_with fail
  refine (szS_in v1 _ _ (by omega) (by omega) (by omega)).mono ?_
  rintro e w2 ⟨rfl, hb⟩
  replace y2_0 := cell_later hb y2_0
  replace y2_1 := cell_later hb y2_1
  replace y2_2 := cell_later hb y2_2
  replace y2_3 := cell_later hb y2_3
  replace HB := hide (below_on (unhide HB) hb)
  clear hb
  go_wp2_with fail
  refine (szQ_out v2 _ _ (by omega) (by omega) m0 m1 (by omega)).mono ?_
  rintro e w3 ⟨rfl, hb⟩
  replace HB := hide (below_on (unhide HB) hb)
  clear hb
  go_wp2
  go_ret
  exact ⟨rfl, unhide HB⟩

set_option maxRecDepth 100000 in
set_option maxHeartbeats 16000000 in
theorem lawMix_in (v0 : SV) (v1 : SV) (v2 : QV) (d0 : SD) (d1 : SD) (d2 : QD) (w : World) (hx0 : AllSl w [(v0.lo.num, d0.lo.num), (v0.lo.den, d0.lo.den), (v0.hi.num, d0.hi.num), (v0.hi.den, d0.hi.den)]) (hx1 : AllSl w [(v1.lo.num, d1.lo.num), (v1.lo.den, d1.lo.den), (v1.hi.num, d1.hi.num), (v1.hi.den, d1.hi.den)]) (hx2 : AllSl w [(v2.num, d2.num), (v2.den, d2.den)])  (h : v0.lo.num.n + v0.lo.den.n + v0.hi.num.n + v0.hi.den.n + v1.lo.num.n + v1.lo.den.n + v1.hi.num.n + v1.hi.den.n + v2.num.n + v2.den.n ≤ 1048576) :
    Calls Tryz.prog 12 #[.agg #[.bool v0.lo.num.g, .slice v0.lo.num.a v0.lo.num.n v0.lo.num.c, .bool v0.lo.den.g, .slice v0.lo.den.a v0.lo.den.n v0.lo.den.c, .bool v0.hi.num.g, .slice v0.hi.num.a v0.hi.num.n v0.hi.num.c, .bool v0.hi.den.g, .slice v0.hi.den.a v0.hi.den.n v0.hi.den.c], .agg #[.bool v1.lo.num.g, .slice v1.lo.num.a v1.lo.num.n v1.lo.num.c, .bool v1.lo.den.g, .slice v1.lo.den.a v1.lo.den.n v1.lo.den.c, .bool v1.hi.num.g, .slice v1.hi.num.a v1.hi.num.n v1.hi.num.c, .bool v1.hi.den.g, .slice v1.hi.den.a v1.hi.den.n v1.hi.den.c], .agg #[.bool v2.num.g, .slice v2.num.a v2.num.n v2.num.c, .bool v2.den.g, .slice v2.den.a v2.den.n v2.den.c]] w fun e w' => e = .returned (.bool true) ∧ Below w.heap.size w w' := by
  have HX0 := hide hx0
  have HX1 := hide hx1
  have HX2 := hide hx2
  clear hx0 hx1 hx2
  have l0 : v0.lo.num.n ≤ 1048576 := by omega
  have lm0 : v0.lo.num.n ≤ maxLen := by unfold maxLen; omega
  have l1 : v0.lo.den.n ≤ 1048576 := by omega
  have lm1 : v0.lo.den.n ≤ maxLen := by unfold maxLen; omega
  have l2 : v0.hi.num.n ≤ 1048576 := by omega
  have lm2 : v0.hi.num.n ≤ maxLen := by unfold maxLen; omega
  have l3 : v0.hi.den.n ≤ 1048576 := by omega
  have lm3 : v0.hi.den.n ≤ maxLen := by unfold maxLen; omega
  have l4 : v1.lo.num.n ≤ 1048576 := by omega
  have lm4 : v1.lo.num.n ≤ maxLen := by unfold maxLen; omega
  have l5 : v1.lo.den.n ≤ 1048576 := by omega
  have lm5 : v1.lo.den.n ≤ maxLen := by unfold maxLen; omega
  have l6 : v1.hi.num.n ≤ 1048576 := by omega
  have lm6 : v1.hi.num.n ≤ maxLen := by unfold maxLen; omega
  have l7 : v1.hi.den.n ≤ 1048576 := by omega
  have lm7 : v1.hi.den.n ≤ maxLen := by unfold maxLen; omega
  have l8 : v2.num.n ≤ 1048576 := by omega
  have lm8 : v2.num.n ≤ maxLen := by unfold maxLen; omega
  have l9 : v2.den.n ≤ 1048576 := by omega
  have lm9 : v2.den.n ≤ maxLen := by unfold maxLen; omega
  have hd0 : ¬ ((1048576 : Int) - (v0.lo.num.n : Int) - (v0.lo.den.n : Int) - (v0.hi.num.n : Int) - (v0.hi.den.n : Int) < 0) := by omega
  have hd1 : ¬ ((1048576 : Int) - (v0.lo.num.n : Int) - (v0.lo.den.n : Int) - (v0.hi.num.n : Int) - (v0.hi.den.n : Int) - (v1.lo.num.n : Int) - (v1.lo.den.n : Int) - (v1.hi.num.n : Int) - (v1.hi.den.n : Int) < 0) := by omega
  have hd2 : ¬ ((1048576 : Int) - (v0.lo.num.n : Int) - (v0.lo.den.n : Int) - (v0.hi.num.n : Int) - (v0.hi.den.n : Int) - (v1.lo.num.n : Int) - (v1.lo.den.n : Int) - (v1.hi.num.n : Int) - (v1.hi.den.n : Int) - (v2.num.n : Int) - (v2.den.n : Int) < 0) := by omega
  obtain ⟨U, HU⟩ : ∃ U : SD → Bool → Prop, Hid (U = AnsS (gPt2 d0 && gPt2 d1 && gF d2) (nR (mx (vQ d2) (vP d0).1 (vP d1).1)) (dR (mx (vQ d2) (vP d0).1 (vP d1).1)) (nR (mx (vQ d2) (vP d0).2 (vP d1).2)) (dR (mx (vQ d2) (vP d0).2 (vP d1).2))) := ⟨_, hide rfl⟩
  have US : Hid (∀ d ok d' ok', U d ok → U d' ok' → d = d' ∧ ok = ok') := hide (by rw [unhide HU]; exact fun d ok d' ok' h k => h.same k)
  have UL : Hid (∀ d ok, U d ok → d.lo.num.xs.length ≤ 40 ∧ d.lo.den.xs.length ≤ 40 ∧ d.hi.num.xs.length ≤ 40 ∧ d.hi.den.xs.length ≤ 40) := hide (by rw [unhide HU]; exact fun d ok h => h.lens)
  have CS : Hid (∀ (q0 : SV) (q1 : SV) (q2 : QV) (w : World), AllAr w [(q0.lo.num, d0.lo.num), (q0.lo.den, d0.lo.den), (q0.hi.num, d0.hi.num), (q0.hi.den, d0.hi.den)] → AllAr w [(q1.lo.num, d1.lo.num), (q1.lo.den, d1.lo.den), (q1.hi.num, d1.hi.num), (q1.hi.den, d1.hi.den)] → AllAr w [(q2.num, d2.num), (q2.den, d2.den)] → Calls Tryz.prog 43 #[.agg #[.bool q0.lo.num.g, .slice q0.lo.num.a q0.lo.num.n q0.lo.num.c, .bool q0.lo.den.g, .slice q0.lo.den.a q0.lo.den.n q0.lo.den.c, .bool q0.hi.num.g, .slice q0.hi.num.a q0.hi.num.n q0.hi.num.c, .bool q0.hi.den.g, .slice q0.hi.den.a q0.hi.den.n q0.hi.den.c], .agg #[.bool q1.lo.num.g, .slice q1.lo.num.a q1.lo.num.n q1.lo.num.c, .bool q1.lo.den.g, .slice q1.lo.den.a q1.lo.den.n q1.lo.den.c, .bool q1.hi.num.g, .slice q1.hi.num.a q1.hi.num.n q1.hi.num.c, .bool q1.hi.den.g, .slice q1.hi.den.a q1.hi.den.n q1.hi.den.c], .agg #[.bool q2.num.g, .slice q2.num.a q2.num.n q2.num.c, .bool q2.den.g, .slice q2.den.a q2.den.n q2.den.c]] w (RetS w U)) := hide (by rw [unhide HU]; exact fun q0 q1 q2 w h0 h1 h2 => MixPtS q0 q1 q2 d0 d1 d2 w h0 h1 h2)
  have CI : Hid (∀ (q0 : SV) (q1 : SV) (q2 : QV) (w : World), AllAr w [(q0.lo.num, d0.lo.num), (q0.lo.den, d0.lo.den), (q0.hi.num, d0.hi.num), (q0.hi.den, d0.hi.den)] → AllAr w [(q1.lo.num, d1.lo.num), (q1.lo.den, d1.lo.den), (q1.hi.num, d1.hi.num), (q1.hi.den, d1.hi.den)] → AllAr w [(q2.num, d2.num), (q2.den, d2.den)] → Calls Tryz.prog 42 #[.agg #[.bool q0.lo.num.g, .slice q0.lo.num.a q0.lo.num.n q0.lo.num.c, .bool q0.lo.den.g, .slice q0.lo.den.a q0.lo.den.n q0.lo.den.c, .bool q0.hi.num.g, .slice q0.hi.num.a q0.hi.num.n q0.hi.num.c, .bool q0.hi.den.g, .slice q0.hi.den.a q0.hi.den.n q0.hi.den.c], .agg #[.bool q1.lo.num.g, .slice q1.lo.num.a q1.lo.num.n q1.lo.num.c, .bool q1.lo.den.g, .slice q1.lo.den.a q1.lo.den.n q1.lo.den.c, .bool q1.hi.num.g, .slice q1.hi.num.a q1.hi.num.n q1.hi.num.c, .bool q1.hi.den.g, .slice q1.hi.den.a q1.hi.den.n q1.hi.den.c], .agg #[.bool q2.num.g, .slice q2.num.a q2.num.n q2.num.c, .bool q2.den.g, .slice q2.den.a q2.den.n q2.den.c]] w (RetS w U)) := hide (by rw [unhide HU]; exact fun q0 q1 q2 w h0 h1 h2 => MixPtI q0 q1 q2 d0 d1 d2 w h0 h1 h2)
  clear HU
  go_enter Tryz.func12, Tryz.ntmps12
  go_wp2_with fail
  refine (szS_in v0 _ _ (by omega) (by omega) (by omega)).mono ?_
  rintro e w1 ⟨rfl, hb⟩
  have T := hide ((TlawMix.start w v0 d0 v1 d1 v2 d2 80 80 69 (unhide HX0) (unhide HX1) (unhide HX2)).later hb)
  have z : w.heap.size + 3 ≤ w1.heap.size := by have := hb.size; simp at this; omega
  have y0 := (unhide T).x1_0
  have y1 := (unhide T).x1_1
  have y2 := (unhide T).x1_2
  have y3 := (unhide T).x1_3
  have y4 := (unhide T).x1_4
  have y5 := (unhide T).x1_5
  have y6 := (unhide T).x1_6
  have y7 := (unhide T).x1_7
  clear hb
  go_wp2_with fail
  refine (szS_in v1 _ _ (by omega) (by omega) (by omega)).mono ?_
  rintro e w2 ⟨rfl, hb⟩
  replace T := hide ((unhide T).later hb)
  replace z : w.heap.size + 3 ≤ w2.heap.size := Nat.le_trans z hb.size
  clear y0 y1 y2 y3 y4 y5 y6 y7
  have y0 := (unhide T).x2_0
  have y1 := (unhide T).x2_1
  have y2 := (unhide T).x2_2
  have y3 := (unhide T).x2_3
  clear hb
  go_wp2_with fail
  refine (szQ_in v2 _ _ (by omega) (by omega) (by omega)).mono ?_
  rintro e w3 ⟨rfl, hb⟩
  replace T := hide ((unhide T).later hb)
  replace z : w.heap.size + 3 ≤ w3.heap.size := Nat.le_trans z hb.size
  clear y0 y1 y2 y3
  clear hb
  go_upto_region 11 with fail
  go_cut [8, 9] (fun p q wx => ∃ (G : Nat) (v : SV) (d : SD) (ok : Bool), p = .pointer (some ⟨G, 0, none⟩) ∧ q = .bool ok ∧ Hid (MetS w3 wx G v d) ∧ Hid (U d ok) ∧ Hid (TlawMix w wx v0 d0 v1 d1 v2 d2))
  case first =>
    have ka0 := (unhide T).x0_0
    have ka1 := (unhide T).x0_1
    have ka2 := (unhide T).x0_2
    have ka3 := (unhide T).x0_3
    have ka4 := (unhide T).x0_4
    have ka5 := (unhide T).x0_5
    have ka6 := (unhide T).x0_6
    have ka7 := (unhide T).x0_7
    have ka8 := (unhide T).x1_0
    have ka9 := (unhide T).x1_1
    have ka10 := (unhide T).x1_2
    have ka11 := (unhide T).x1_3
    have ka12 := (unhide T).x1_4
    have ka13 := (unhide T).x1_5
    have ka14 := (unhide T).x1_6
    have ka15 := (unhide T).x1_7
    have ka16 := (unhide T).x2_0
    have ka17 := (unhide T).x2_1
    have ka18 := (unhide T).x2_2
    have ka19 := (unhide T).x2_3
    go_region_held3 (fun w' => w'.cell? ⟨w.heap.size, 0, none⟩ = some (.bool v0.lo.num.g) ∧ w'.cell? ⟨w.heap.size, 1, none⟩ = some (.slice v0.lo.num.a v0.lo.num.n v0.lo.num.c) ∧ w'.cell? ⟨w.heap.size, 2, none⟩ = some (.bool v0.lo.den.g) ∧ w'.cell? ⟨w.heap.size, 3, none⟩ = some (.slice v0.lo.den.a v0.lo.den.n v0.lo.den.c) ∧ w'.cell? ⟨w.heap.size, 4, none⟩ = some (.bool v0.hi.num.g) ∧ w'.cell? ⟨w.heap.size, 5, none⟩ = some (.slice v0.hi.num.a v0.hi.num.n v0.hi.num.c) ∧ w'.cell? ⟨w.heap.size, 6, none⟩ = some (.bool v0.hi.den.g) ∧ w'.cell? ⟨w.heap.size, 7, none⟩ = some (.slice v0.hi.den.a v0.hi.den.n v0.hi.den.c) ∧ w'.cell? ⟨w.heap.size + 1, 0, none⟩ = some (.bool v1.lo.num.g) ∧ w'.cell? ⟨w.heap.size + 1, 1, none⟩ = some (.slice v1.lo.num.a v1.lo.num.n v1.lo.num.c) ∧ w'.cell? ⟨w.heap.size + 1, 2, none⟩ = some (.bool v1.lo.den.g) ∧ w'.cell? ⟨w.heap.size + 1, 3, none⟩ = some (.slice v1.lo.den.a v1.lo.den.n v1.lo.den.c) ∧ w'.cell? ⟨w.heap.size + 1, 4, none⟩ = some (.bool v1.hi.num.g) ∧ w'.cell? ⟨w.heap.size + 1, 5, none⟩ = some (.slice v1.hi.num.a v1.hi.num.n v1.hi.num.c) ∧ w'.cell? ⟨w.heap.size + 1, 6, none⟩ = some (.bool v1.hi.den.g) ∧ w'.cell? ⟨w.heap.size + 1, 7, none⟩ = some (.slice v1.hi.den.a v1.hi.den.n v1.hi.den.c) ∧ w'.cell? ⟨w.heap.size + 1 + 1, 0, none⟩ = some (.bool v2.num.g) ∧ w'.cell? ⟨w.heap.size + 1 + 1, 1, none⟩ = some (.slice v2.num.a v2.num.n v2.num.c) ∧ w'.cell? ⟨w.heap.size + 1 + 1, 2, none⟩ = some (.bool v2.den.g) ∧ w'.cell? ⟨w.heap.size + 1 + 1, 3, none⟩ = some (.slice v2.den.a v2.den.n v2.den.c)) (with_reducible (first | exact ⟨ka0, ka1, ka2, ka3, ka4, ka5, ka6, ka7, ka8, ka9, ka10, ka11, ka12, ka13, ka14, ka15, ka16, ka17, ka18, ka19⟩ | exact ⟨cd_other ka0, cd_other ka1, cd_other ka2, cd_other ka3, cd_other ka4, cd_other ka5, cd_other ka6, cd_other ka7, cd_other ka8, cd_other ka9, cd_other ka10, cd_other ka11, cd_other ka12, cd_other ka13, cd_other ka14, cd_other ka15, cd_other ka16, cd_other ka17, cd_other ka18, cd_other ka19⟩ | exact ⟨ca_other ka0, ca_other ka1, ca_other ka2, ca_other ka3, ca_other ka4, ca_other ka5, ca_other ka6, ca_other ka7, ca_other ka8, ca_other ka9, ca_other ka10, ca_other ka11, ca_other ka12, ca_other ka13, ca_other ka14, ca_other ka15, ca_other ka16, ca_other ka17, ca_other ka18, ca_other ka19⟩ | exact ⟨cd_other (ca_other ka0), cd_other (ca_other ka1), cd_other (ca_other ka2), cd_other (ca_other ka3), cd_other (ca_other ka4), cd_other (ca_other ka5), cd_other (ca_other ka6), cd_other (ca_other ka7), cd_other (ca_other ka8), cd_other (ca_other ka9), cd_other (ca_other ka10), cd_other (ca_other ka11), cd_other (ca_other ka12), cd_other (ca_other ka13), cd_other (ca_other ka14), cd_other (ca_other ka15), cd_other (ca_other ka16), cd_other (ca_other ka17), cd_other (ca_other ka18), cd_other (ca_other ka19)⟩ | exact ⟨cs_other (cs_other (cs_other (cs_other (cs_other (cs_other (cs_other (cs_other (ka0) (by omega)) (by omega)) (by omega)) (by omega)) (by omega)) (by omega)) (by omega)) (by omega), cs_other (cs_other (cs_other (cs_other (cs_other (cs_other (cs_other (cs_other (ka1) (by omega)) (by omega)) (by omega)) (by omega)) (by omega)) (by omega)) (by omega)) (by omega), cs_other (cs_other (cs_other (cs_other (cs_other (cs_other (cs_other (cs_other (ka2) (by omega)) (by omega)) (by omega)) (by omega)) (by omega)) (by omega)) (by omega)) (by omega), cs_other (cs_other (cs_other (cs_other (cs_other (cs_other (cs_other (cs_other (ka3) (by omega)) (by omega)) (by omega)) (by omega)) (by omega)) (by omega)) (by omega)) (by omega), cs_other (cs_other (cs_other (cs_other (cs_other (cs_other (cs_other (cs_other (ka4) (by omega)) (by omega)) (by omega)) (by omega)) (by omega)) (by omega)) (by omega)) (by omega), cs_other (cs_other (cs_other (cs_other (cs_other (cs_other (cs_other (cs_other (ka5) (by omega)) (by omega)) (by omega)) (by omega)) (by omega)) (by omega)) (by omega)) (by omega), cs_other (cs_other (cs_other (cs_other (cs_other (cs_other (cs_other (cs_other (ka6) (by omega)) (by omega)) (by omega)) (by omega)) (by omega)) (by omega)) (by omega)) (by omega), cs_other (cs_other (cs_other (cs_other (cs_other (cs_other (cs_other (cs_other (ka7) (by omega)) (by omega)) (by omega)) (by omega)) (by omega)) (by omega)) (by omega)) (by omega), cs_other (cs_other (cs_other (cs_other (cs_other (cs_other (cs_other (cs_other (ka8) (by omega)) (by omega)) (by omega)) (by omega)) (by omega)) (by omega)) (by omega)) (by omega), cs_other (cs_other (cs_other (cs_other (cs_other (cs_other (cs_other (cs_other (ka9) (by omega)) (by omega)) (by omega)) (by omega)) (by omega)) (by omega)) (by omega)) (by omega), cs_other (cs_other (cs_other (cs_other (cs_other (cs_other (cs_other (cs_other (ka10) (by omega)) (by omega)) (by omega)) (by omega)) (by omega)) (by omega)) (by omega)) (by omega), cs_other (cs_other (cs_other (cs_other (cs_other (cs_other (cs_other (cs_other (ka11) (by omega)) (by omega)) (by omega)) (by omega)) (by omega)) (by omega)) (by omega)) (by omega), cs_other (cs_other (cs_other (cs_other (cs_other (cs_other (cs_other (cs_other (ka12) (by omega)) (by omega)) (by omega)) (by omega)) (by omega)) (by omega)) (by omega)) (by omega), cs_other (cs_other (cs_other (cs_other (cs_other (cs_other (cs_other (cs_other (ka13) (by omega)) (by omega)) (by omega)) (by omega)) (by omega)) (by omega)) (by omega)) (by omega), cs_other (cs_other (cs_other (cs_other (cs_other (cs_other (cs_other (cs_other (ka14) (by omega)) (by omega)) (by omega)) (by omega)) (by omega)) (by omega)) (by omega)) (by omega), cs_other (cs_other (cs_other (cs_other (cs_other (cs_other (cs_other (cs_other (ka15) (by omega)) (by omega)) (by omega)) (by omega)) (by omega)) (by omega)) (by omega)) (by omega), cs_other (cs_other (cs_other (cs_other (cs_other (cs_other (cs_other (cs_other (ka16) (by omega)) (by omega)) (by omega)) (by omega)) (by omega)) (by omega)) (by omega)) (by omega), cs_other (cs_other (cs_other (cs_other (cs_other (cs_other (cs_other (cs_other (ka17) (by omega)) (by omega)) (by omega)) (by omega)) (by omega)) (by omega)) (by omega)) (by omega), cs_other (cs_other (cs_other (cs_other (cs_other (cs_other (cs_other (cs_other (ka18) (by omega)) (by omega)) (by omega)) (by omega)) (by omega)) (by omega)) (by omega)) (by omega), cs_other (cs_other (cs_other (cs_other (cs_other (cs_other (cs_other (cs_other (ka19) (by omega)) (by omega)) (by omega)) (by omega)) (by omega)) (by omega)) (by omega)) (by omega)⟩ | fail))
      (first
      | (go_at_call_of 82 (Value.agg #[Value.bool v0.lo.num.g, Value.slice v0.lo.num.a v0.lo.num.n v0.lo.num.c, Value.bool v0.lo.den.g, Value.slice v0.lo.den.a v0.lo.den.n v0.lo.den.c, Value.bool v0.hi.num.g, Value.slice v0.hi.num.a v0.hi.num.n v0.hi.num.c, Value.bool v0.hi.den.g, Value.slice v0.hi.den.a v0.hi.den.n v0.hi.den.c]); refine (toS_at v0 d0 _ ?_ l0 l1 l2 l3).mono ?_; (first | exact (unhide T).s0.later (Below.refl _ _).drew | exact (unhide T).s0.later ((Below.refl _ _).alloc (Nat.le_refl _) _).drew); rintro e wa0 ⟨qa0, rfl, hb, hna0, ow, ar⟩; have hbx : Below w3.heap.size w3 wa0 := (by first | exact below_of_drew hb | exact bad hb); have sz0 := hbx.size; replace T := hide ((unhide T).later hbx); replace ka0 := (unhide T).x0_0; replace ka1 := (unhide T).x0_1; replace ka2 := (unhide T).x0_2; replace ka3 := (unhide T).x0_3; replace ka4 := (unhide T).x0_4; replace ka5 := (unhide T).x0_5; replace ka6 := (unhide T).x0_6; replace ka7 := (unhide T).x0_7; replace ka8 := (unhide T).x1_0; replace ka9 := (unhide T).x1_1; replace ka10 := (unhide T).x1_2; replace ka11 := (unhide T).x1_3; replace ka12 := (unhide T).x1_4; replace ka13 := (unhide T).x1_5; replace ka14 := (unhide T).x1_6; replace ka15 := (unhide T).x1_7; replace ka16 := (unhide T).x2_0; replace ka17 := (unhide T).x2_1; replace ka18 := (unhide T).x2_2; replace ka19 := (unhide T).x2_3; (try (replace gf := fun o => frozen_later hbx (World.block_lt_of_cell? _ _ g0) (gf o); replace g0 := cell_later hbx g0; replace g1 := cell_later hbx g1; replace g2 := cell_later hbx g2; replace g3 := cell_later hbx g3; replace g4 := cell_later hbx g4; replace g5 := cell_later hbx g5; replace g6 := cell_later hbx g6; replace g7 := cell_later hbx g7)); (try (refine cutP (p := wa0.cell? ⟨w3.heap.size, 0, none⟩ = some (.bool false) ∧ wa0.cell? ⟨w3.heap.size, 1, none⟩ = some (.slice none 0 0) ∧ wa0.cell? ⟨w3.heap.size, 2, none⟩ = some (.bool false) ∧ wa0.cell? ⟨w3.heap.size, 3, none⟩ = some (.slice none 0 0) ∧ wa0.cell? ⟨w3.heap.size, 4, none⟩ = some (.bool false) ∧ wa0.cell? ⟨w3.heap.size, 5, none⟩ = some (.slice none 0 0) ∧ wa0.cell? ⟨w3.heap.size, 6, none⟩ = some (.bool false) ∧ wa0.cell? ⟨w3.heap.size, 7, none⟩ = some (.slice none 0 0) ∧ ∀ o, wa0.frozen? ⟨w3.heap.size, o, none⟩ = false) ?_ (fun dd => ?_); (focus (refine ⟨cell_later hb ?_, cell_later hb ?_, cell_later hb ?_, cell_later hb ?_, cell_later hb ?_, cell_later hb ?_, cell_later hb ?_, cell_later hb ?_, fun o => frozen_later hb ?_ ?_⟩ <;> (simp [go_sem]; done))); obtain ⟨g0, g1, g2, g3, g4, g5, g6, g7, gf⟩ := dd)); have zz0 := hb.size; (try simp at zz0); have HBr := hide hbx; have A0 := hide ar; clear hb hbx ow ar hna0)
      | (go_at_call_of 82 (Value.agg #[Value.bool v1.lo.num.g, Value.slice v1.lo.num.a v1.lo.num.n v1.lo.num.c, Value.bool v1.lo.den.g, Value.slice v1.lo.den.a v1.lo.den.n v1.lo.den.c, Value.bool v1.hi.num.g, Value.slice v1.hi.num.a v1.hi.num.n v1.hi.num.c, Value.bool v1.hi.den.g, Value.slice v1.hi.den.a v1.hi.den.n v1.hi.den.c]); refine (toS_at v1 d1 _ ?_ l4 l5 l6 l7).mono ?_; (first | exact (unhide T).s1 | exact (unhide T).s1.later ((Below.refl _ _).alloc (Nat.le_refl _) _)); rintro e wa1 ⟨qa1, rfl, hb, hna1, ow, ar⟩; have hbx : Below wa0.heap.size wa0 wa1 := (by first | exact hb | exact ba hb); have sz1 := hbx.size; replace T := hide ((unhide T).later hbx); replace ka0 := (unhide T).x0_0; replace ka1 := (unhide T).x0_1; replace ka2 := (unhide T).x0_2; replace ka3 := (unhide T).x0_3; replace ka4 := (unhide T).x0_4; replace ka5 := (unhide T).x0_5; replace ka6 := (unhide T).x0_6; replace ka7 := (unhide T).x0_7; replace ka8 := (unhide T).x1_0; replace ka9 := (unhide T).x1_1; replace ka10 := (unhide T).x1_2; replace ka11 := (unhide T).x1_3; replace ka12 := (unhide T).x1_4; replace ka13 := (unhide T).x1_5; replace ka14 := (unhide T).x1_6; replace ka15 := (unhide T).x1_7; replace ka16 := (unhide T).x2_0; replace ka17 := (unhide T).x2_1; replace ka18 := (unhide T).x2_2; replace ka19 := (unhide T).x2_3; replace A0 := hide ((unhide A0).later hbx); (try (replace gf := fun o => frozen_later hbx (World.block_lt_of_cell? _ _ g0) (gf o); replace g0 := cell_later hbx g0; replace g1 := cell_later hbx g1; replace g2 := cell_later hbx g2; replace g3 := cell_later hbx g3; replace g4 := cell_later hbx g4; replace g5 := cell_later hbx g5; replace g6 := cell_later hbx g6; replace g7 := cell_later hbx g7)); (try (refine cutP (p := wa1.cell? ⟨wa0.heap.size, 0, none⟩ = some (.bool false) ∧ wa1.cell? ⟨wa0.heap.size, 1, none⟩ = some (.slice none 0 0) ∧ wa1.cell? ⟨wa0.heap.size, 2, none⟩ = some (.bool false) ∧ wa1.cell? ⟨wa0.heap.size, 3, none⟩ = some (.slice none 0 0) ∧ wa1.cell? ⟨wa0.heap.size, 4, none⟩ = some (.bool false) ∧ wa1.cell? ⟨wa0.heap.size, 5, none⟩ = some (.slice none 0 0) ∧ wa1.cell? ⟨wa0.heap.size, 6, none⟩ = some (.bool false) ∧ wa1.cell? ⟨wa0.heap.size, 7, none⟩ = some (.slice none 0 0) ∧ ∀ o, wa1.frozen? ⟨wa0.heap.size, o, none⟩ = false) ?_ (fun dd => ?_); (focus (refine ⟨cell_later hb ?_, cell_later hb ?_, cell_later hb ?_, cell_later hb ?_, cell_later hb ?_, cell_later hb ?_, cell_later hb ?_, cell_later hb ?_, fun o => frozen_later hb ?_ ?_⟩ <;> (simp [go_sem]; done))); obtain ⟨g0, g1, g2, g3, g4, g5, g6, g7, gf⟩ := dd)); have zz1 := hb.size; (try simp at zz1); have HBr := hide (below_on (unhide HBr) hbx); have A1 := hide ar; clear hb hbx ow ar hna1)
      | (go_at_call_of 71 (Value.agg #[Value.bool v2.num.g, Value.slice v2.num.a v2.num.n v2.num.c, Value.bool v2.den.g, Value.slice v2.den.a v2.den.n v2.den.c]); refine (toQ_at v2 d2 _ ?_ l8 l9).mono ?_; (first | exact (unhide T).s2 | exact (unhide T).s2.later ((Below.refl _ _).alloc (Nat.le_refl _) _)); rintro e wa2 ⟨qa2, rfl, hb, hna2, ow, ar⟩; have hbx : Below wa1.heap.size wa1 wa2 := (by first | exact hb | exact ba hb); have sz2 := hbx.size; replace T := hide ((unhide T).later hbx); replace ka0 := (unhide T).x0_0; replace ka1 := (unhide T).x0_1; replace ka2 := (unhide T).x0_2; replace ka3 := (unhide T).x0_3; replace ka4 := (unhide T).x0_4; replace ka5 := (unhide T).x0_5; replace ka6 := (unhide T).x0_6; replace ka7 := (unhide T).x0_7; replace ka8 := (unhide T).x1_0; replace ka9 := (unhide T).x1_1; replace ka10 := (unhide T).x1_2; replace ka11 := (unhide T).x1_3; replace ka12 := (unhide T).x1_4; replace ka13 := (unhide T).x1_5; replace ka14 := (unhide T).x1_6; replace ka15 := (unhide T).x1_7; replace ka16 := (unhide T).x2_0; replace ka17 := (unhide T).x2_1; replace ka18 := (unhide T).x2_2; replace ka19 := (unhide T).x2_3; replace A0 := hide ((unhide A0).later hbx); replace A1 := hide ((unhide A1).later hbx); (try (replace gf := fun o => frozen_later hbx (World.block_lt_of_cell? _ _ g0) (gf o); replace g0 := cell_later hbx g0; replace g1 := cell_later hbx g1; replace g2 := cell_later hbx g2; replace g3 := cell_later hbx g3; replace g4 := cell_later hbx g4; replace g5 := cell_later hbx g5; replace g6 := cell_later hbx g6; replace g7 := cell_later hbx g7)); (try (refine cutP (p := wa2.cell? ⟨wa1.heap.size, 0, none⟩ = some (.bool false) ∧ wa2.cell? ⟨wa1.heap.size, 1, none⟩ = some (.slice none 0 0) ∧ wa2.cell? ⟨wa1.heap.size, 2, none⟩ = some (.bool false) ∧ wa2.cell? ⟨wa1.heap.size, 3, none⟩ = some (.slice none 0 0) ∧ wa2.cell? ⟨wa1.heap.size, 4, none⟩ = some (.bool false) ∧ wa2.cell? ⟨wa1.heap.size, 5, none⟩ = some (.slice none 0 0) ∧ wa2.cell? ⟨wa1.heap.size, 6, none⟩ = some (.bool false) ∧ wa2.cell? ⟨wa1.heap.size, 7, none⟩ = some (.slice none 0 0) ∧ ∀ o, wa2.frozen? ⟨wa1.heap.size, o, none⟩ = false) ?_ (fun dd => ?_); (focus (refine ⟨cell_later hb ?_, cell_later hb ?_, cell_later hb ?_, cell_later hb ?_, cell_later hb ?_, cell_later hb ?_, cell_later hb ?_, cell_later hb ?_, fun o => frozen_later hb ?_ ?_⟩ <;> (simp [go_sem]; done))); obtain ⟨g0, g1, g2, g3, g4, g5, g6, g7, gf⟩ := dd)); have zz2 := hb.size; (try simp at zz2); have HBr := hide (below_on (unhide HBr) hbx); have A2 := hide ar; clear hb hbx ow ar hna2)
      | (go_at_call 43; refine (unhide CS _ _ _ _ ?_ ?_ ?_).mono ?_; (first | exact unhide A0 | exact (unhide A0).later ((Below.refl _ _).alloc (Nat.le_refl _) _)); (first | exact unhide A1 | exact (unhide A1).later ((Below.refl _ _).alloc (Nat.le_refl _) _)); (first | exact unhide A2 | exact (unhide A2).later ((Below.refl _ _).alloc (Nat.le_refl _) _)); rintro e w5 ⟨vr, dr, okr, rfl, hb, hown, hu⟩; have hbx : Below wa2.heap.size wa2 w5 := (by first | exact hb | exact ba hb); have sz3 := hbx.size; replace T := hide ((unhide T).later hbx); replace ka0 := (unhide T).x0_0; replace ka1 := (unhide T).x0_1; replace ka2 := (unhide T).x0_2; replace ka3 := (unhide T).x0_3; replace ka4 := (unhide T).x0_4; replace ka5 := (unhide T).x0_5; replace ka6 := (unhide T).x0_6; replace ka7 := (unhide T).x0_7; replace ka8 := (unhide T).x1_0; replace ka9 := (unhide T).x1_1; replace ka10 := (unhide T).x1_2; replace ka11 := (unhide T).x1_3; replace ka12 := (unhide T).x1_4; replace ka13 := (unhide T).x1_5; replace ka14 := (unhide T).x1_6; replace ka15 := (unhide T).x1_7; replace ka16 := (unhide T).x2_0; replace ka17 := (unhide T).x2_1; replace ka18 := (unhide T).x2_2; replace ka19 := (unhide T).x2_3; replace A0 := hide ((unhide A0).later hbx); replace A1 := hide ((unhide A1).later hbx); replace A2 := hide ((unhide A2).later hbx); (try (replace gf := fun o => frozen_later hbx (World.block_lt_of_cell? _ _ g0) (gf o); replace g0 := cell_later hbx g0; replace g1 := cell_later hbx g1; replace g2 := cell_later hbx g2; replace g3 := cell_later hbx g3; replace g4 := cell_later hbx g4; replace g5 := cell_later hbx g5; replace g6 := cell_later hbx g6; replace g7 := cell_later hbx g7)); (try (refine cutP (p := w5.cell? ⟨wa2.heap.size, 0, none⟩ = some (.bool false) ∧ w5.cell? ⟨wa2.heap.size, 1, none⟩ = some (.slice none 0 0) ∧ w5.cell? ⟨wa2.heap.size, 2, none⟩ = some (.bool false) ∧ w5.cell? ⟨wa2.heap.size, 3, none⟩ = some (.slice none 0 0) ∧ w5.cell? ⟨wa2.heap.size, 4, none⟩ = some (.bool false) ∧ w5.cell? ⟨wa2.heap.size, 5, none⟩ = some (.slice none 0 0) ∧ w5.cell? ⟨wa2.heap.size, 6, none⟩ = some (.bool false) ∧ w5.cell? ⟨wa2.heap.size, 7, none⟩ = some (.slice none 0 0) ∧ ∀ o, w5.frozen? ⟨wa2.heap.size, o, none⟩ = false) ?_ (fun dd => ?_); (focus (refine ⟨cell_later hb ?_, cell_later hb ?_, cell_later hb ?_, cell_later hb ?_, cell_later hb ?_, cell_later hb ?_, cell_later hb ?_, cell_later hb ?_, fun o => frozen_later hb ?_ ?_⟩ <;> (simp [go_sem]; done))); obtain ⟨g0, g1, g2, g3, g4, g5, g6, g7, gf⟩ := dd)); have zz3 := hb.size; (try simp at zz3); have HBr := hide (below_on (unhide HBr) hbx); have O5 := hide hown; have U5 := hide hu; clear hb hbx hown hu))
    all_goals go_wp2_with fail
    all_goals go_meet
    all_goals first
      | (with_reducible refine ⟨_, vr, dr, okr, rfl, rfl, hide (metS_alloc 34 (unhide HBr) (unhide O5) ?_), U5, hide ((unhide T).later ((Below.refl _ _).alloc (Nat.le_refl _) _))⟩; omega)
      | (with_reducible refine ⟨_, vr, dr, okr, rfl, rfl, hide (metS_set (unhide HBr) (unhide O5) ?_ ?_ g0 g1 g2 g3 g4 g5 g6 g7), U5, hide ((unhide T).but metS_but ?_ (unhide HX0) (unhide HX1) (unhide HX2))⟩ <;> first | omega | (simp; done) | (simp; omega))
  case rest =>
    obtain ⟨G0, vr, dr, okr, rfl, rfl, HM, UR, T3⟩ := hcut
    clear T
    have T := T3
    clear T3
    have V0 := hide (unhide HM).var
    have zG1 : w.heap.size + 3 ≤ G0 := Nat.le_trans z (unhide HM).lo
    have zG2 : G0 < wc.heap.size := (unhide HM).hi
    clear HM
    have r0 : vr.lo.num.n ≤ 40 := by rw [← ((unhide V0).own.own (vr.lo.num, dr.lo.num) (by simp)).len]; exact (unhide UL _ _ (unhide UR)).1
    have rm0 : vr.lo.num.n ≤ maxLen := by unfold maxLen; omega
    have rl0 : vr.lo.num.n ≤ 1048576 := by omega
    have r1 : vr.lo.den.n ≤ 40 := by rw [← ((unhide V0).own.own (vr.lo.den, dr.lo.den) (by simp)).len]; exact (unhide UL _ _ (unhide UR)).2.1
    have rm1 : vr.lo.den.n ≤ maxLen := by unfold maxLen; omega
    have rl1 : vr.lo.den.n ≤ 1048576 := by omega
    have r2 : vr.hi.num.n ≤ 40 := by rw [← ((unhide V0).own.own (vr.hi.num, dr.hi.num) (by simp)).len]; exact (unhide UL _ _ (unhide UR)).2.2.1
    have rm2 : vr.hi.num.n ≤ maxLen := by unfold maxLen; omega
    have rl2 : vr.hi.num.n ≤ 1048576 := by omega
    have r3 : vr.hi.den.n ≤ 40 := by rw [← ((unhide V0).own.own (vr.hi.den, dr.hi.den) (by simp)).len]; exact (unhide UL _ _ (unhide UR)).2.2.2
    have rm3 : vr.hi.den.n ≤ maxLen := by unfold maxLen; omega
    have rl3 : vr.hi.den.n ≤ 1048576 := by omega
    have p0 := (unhide T).x0_0
    have p1 := (unhide T).x0_1
    have p2 := (unhide T).x0_2
    have p3 := (unhide T).x0_3
    have p4 := (unhide T).x0_4
    have p5 := (unhide T).x0_5
    have p6 := (unhide T).x0_6
    have p7 := (unhide T).x0_7
    go_wp2_with fail
    refine (toS_at v0 d0 _ (unhide T).s0 l0 l1 l2 l3).mono ?_
    rintro e wx0 ⟨y0, rfl, hb, hnn, ow0, ar0⟩
    have hn0 := hide hnn
    clear hnn
    have VX0 := hide (VarS.start 34 ow0)
    have AX0 := hide (ar0.later ((Below.refl _ _).alloc (Nat.le_refl _) (.cells #[.bool y0.lo.num.g, .slice y0.lo.num.a y0.lo.num.n y0.lo.num.c, .bool y0.lo.den.g, .slice y0.lo.den.a y0.lo.den.n y0.lo.den.c, .bool y0.hi.num.g, .slice y0.hi.num.a y0.hi.num.n y0.hi.num.c, .bool y0.hi.den.g, .slice y0.hi.den.a y0.hi.den.n y0.hi.den.c] 34)))
    have s0 : wc.heap.size ≤ wx0.heap.size := by have := hb.size; exact this
    replace V0 := hide ((unhide V0).later hb)
    replace T := hide ((unhide T).later hb)
    replace V0 := hide ((unhide V0).later ((Below.refl _ _).alloc (Nat.le_refl _) (.cells #[.bool y0.lo.num.g, .slice y0.lo.num.a y0.lo.num.n y0.lo.num.c, .bool y0.lo.den.g, .slice y0.lo.den.a y0.lo.den.n y0.lo.den.c, .bool y0.hi.num.g, .slice y0.hi.num.a y0.hi.num.n y0.hi.num.c, .bool y0.hi.den.g, .slice y0.hi.den.a y0.hi.den.n y0.hi.den.c] 34)))
    replace T := hide ((unhide T).later ((Below.refl _ _).alloc (Nat.le_refl _) (.cells #[.bool y0.lo.num.g, .slice y0.lo.num.a y0.lo.num.n y0.lo.num.c, .bool y0.lo.den.g, .slice y0.lo.den.a y0.lo.den.n y0.lo.den.c, .bool y0.hi.num.g, .slice y0.hi.num.a y0.hi.num.n y0.hi.num.c, .bool y0.hi.den.g, .slice y0.hi.den.a y0.hi.den.n y0.hi.den.c] 34)))
    clear hb ow0 ar0 p0 p1 p2 p3 p4 p5 p6 p7
    have p0 := (unhide T).x1_0
    have p1 := (unhide T).x1_1
    have p2 := (unhide T).x1_2
    have p3 := (unhide T).x1_3
    have p4 := (unhide T).x1_4
    have p5 := (unhide T).x1_5
    have p6 := (unhide T).x1_6
    have p7 := (unhide T).x1_7
    go_wp2_with fail
    refine (toS_at v1 d1 _ (unhide T).s1 l4 l5 l6 l7).mono ?_
    rintro e wx1 ⟨y1, rfl, hb, hnn, ow1, ar1⟩
    have hn1 := hide hnn
    clear hnn
    have VX1 := hide (VarS.start 34 (ow1.wide (lo' := wx0.heap.size + 1) (by simp) (Nat.le_refl _)))
    have AX1 := hide (ar1.later ((Below.refl _ _).alloc (Nat.le_refl _) (.cells #[.bool y1.lo.num.g, .slice y1.lo.num.a y1.lo.num.n y1.lo.num.c, .bool y1.lo.den.g, .slice y1.lo.den.a y1.lo.den.n y1.lo.den.c, .bool y1.hi.num.g, .slice y1.hi.num.a y1.hi.num.n y1.hi.num.c, .bool y1.hi.den.g, .slice y1.hi.den.a y1.hi.den.n y1.hi.den.c] 34)))
    have s1 : wx0.heap.size + 1 ≤ wx1.heap.size := by have := hb.size; simp at this; omega
    replace V0 := hide ((unhide V0).later hb)
    replace T := hide ((unhide T).later hb)
    replace VX0 := hide ((unhide VX0).later hb)
    replace AX0 := hide ((unhide AX0).later hb)
    replace V0 := hide ((unhide V0).later ((Below.refl _ _).alloc (Nat.le_refl _) (.cells #[.bool y1.lo.num.g, .slice y1.lo.num.a y1.lo.num.n y1.lo.num.c, .bool y1.lo.den.g, .slice y1.lo.den.a y1.lo.den.n y1.lo.den.c, .bool y1.hi.num.g, .slice y1.hi.num.a y1.hi.num.n y1.hi.num.c, .bool y1.hi.den.g, .slice y1.hi.den.a y1.hi.den.n y1.hi.den.c] 34)))
    replace T := hide ((unhide T).later ((Below.refl _ _).alloc (Nat.le_refl _) (.cells #[.bool y1.lo.num.g, .slice y1.lo.num.a y1.lo.num.n y1.lo.num.c, .bool y1.lo.den.g, .slice y1.lo.den.a y1.lo.den.n y1.lo.den.c, .bool y1.hi.num.g, .slice y1.hi.num.a y1.hi.num.n y1.hi.num.c, .bool y1.hi.den.g, .slice y1.hi.den.a y1.hi.den.n y1.hi.den.c] 34)))
    replace VX0 := hide ((unhide VX0).later ((Below.refl _ _).alloc (Nat.le_refl _) (.cells #[.bool y1.lo.num.g, .slice y1.lo.num.a y1.lo.num.n y1.lo.num.c, .bool y1.lo.den.g, .slice y1.lo.den.a y1.lo.den.n y1.lo.den.c, .bool y1.hi.num.g, .slice y1.hi.num.a y1.hi.num.n y1.hi.num.c, .bool y1.hi.den.g, .slice y1.hi.den.a y1.hi.den.n y1.hi.den.c] 34)))
    replace AX0 := hide ((unhide AX0).later ((Below.refl _ _).alloc (Nat.le_refl _) (.cells #[.bool y1.lo.num.g, .slice y1.lo.num.a y1.lo.num.n y1.lo.num.c, .bool y1.lo.den.g, .slice y1.lo.den.a y1.lo.den.n y1.lo.den.c, .bool y1.hi.num.g, .slice y1.hi.num.a y1.hi.num.n y1.hi.num.c, .bool y1.hi.den.g, .slice y1.hi.den.a y1.hi.den.n y1.hi.den.c] 34)))
    clear hb ow1 ar1 p0 p1 p2 p3 p4 p5 p6 p7
    have p0 := (unhide T).x2_0
    have p1 := (unhide T).x2_1
    have p2 := (unhide T).x2_2
    have p3 := (unhide T).x2_3
    go_wp2_with fail
    refine (toQ_at v2 d2 _ (unhide T).s2 l8 l9).mono ?_
    rintro e wx2 ⟨y2, rfl, hb, hnn, ow2, ar2⟩
    have hn2 := hide hnn
    clear hnn
    have VX2 := hide (VarQ.start 28 (ow2.wide (lo' := wx1.heap.size + 1) (by simp) (Nat.le_refl _)))
    have AX2 := hide (ar2.later ((Below.refl _ _).alloc (Nat.le_refl _) (.cells #[.bool y2.num.g, .slice y2.num.a y2.num.n y2.num.c, .bool y2.den.g, .slice y2.den.a y2.den.n y2.den.c] 28)))
    have s2 : wx1.heap.size + 1 ≤ wx2.heap.size := by have := hb.size; simp at this; omega
    replace V0 := hide ((unhide V0).later hb)
    replace T := hide ((unhide T).later hb)
    replace VX0 := hide ((unhide VX0).later hb)
    replace AX0 := hide ((unhide AX0).later hb)
    replace VX1 := hide ((unhide VX1).later hb)
    replace AX1 := hide ((unhide AX1).later hb)
    replace V0 := hide ((unhide V0).later ((Below.refl _ _).alloc (Nat.le_refl _) (.cells #[.bool y2.num.g, .slice y2.num.a y2.num.n y2.num.c, .bool y2.den.g, .slice y2.den.a y2.den.n y2.den.c] 28)))
    replace T := hide ((unhide T).later ((Below.refl _ _).alloc (Nat.le_refl _) (.cells #[.bool y2.num.g, .slice y2.num.a y2.num.n y2.num.c, .bool y2.den.g, .slice y2.den.a y2.den.n y2.den.c] 28)))
    replace VX0 := hide ((unhide VX0).later ((Below.refl _ _).alloc (Nat.le_refl _) (.cells #[.bool y2.num.g, .slice y2.num.a y2.num.n y2.num.c, .bool y2.den.g, .slice y2.den.a y2.den.n y2.den.c] 28)))
    replace AX0 := hide ((unhide AX0).later ((Below.refl _ _).alloc (Nat.le_refl _) (.cells #[.bool y2.num.g, .slice y2.num.a y2.num.n y2.num.c, .bool y2.den.g, .slice y2.den.a y2.den.n y2.den.c] 28)))
    replace VX1 := hide ((unhide VX1).later ((Below.refl _ _).alloc (Nat.le_refl _) (.cells #[.bool y2.num.g, .slice y2.num.a y2.num.n y2.num.c, .bool y2.den.g, .slice y2.den.a y2.den.n y2.den.c] 28)))
    replace AX1 := hide ((unhide AX1).later ((Below.refl _ _).alloc (Nat.le_refl _) (.cells #[.bool y2.num.g, .slice y2.num.a y2.num.n y2.num.c, .bool y2.den.g, .slice y2.den.a y2.den.n y2.den.c] 28)))
    clear hb ow2 ar2 p0 p1 p2 p3
    have p0_0 := (unhide VX0).c0
    have p0_1 := (unhide VX0).c1
    have p0_2 := (unhide VX0).c2
    have p0_3 := (unhide VX0).c3
    have p0_4 := (unhide VX0).c4
    have p0_5 := (unhide VX0).c5
    have p0_6 := (unhide VX0).c6
    have p0_7 := (unhide VX0).c7
    have p1_0 := (unhide VX1).c0
    have p1_1 := (unhide VX1).c1
    have p1_2 := (unhide VX1).c2
    have p1_3 := (unhide VX1).c3
    have p1_4 := (unhide VX1).c4
    have p1_5 := (unhide VX1).c5
    have p1_6 := (unhide VX1).c6
    have p1_7 := (unhide VX1).c7
    go_wp2_with fail
    refine (unhide CI y0 y1 y2 _ (unhide AX0) (unhide AX1) (unhide AX2)).mono ?_
    rintro e w5 ⟨vg, dg, okg, rfl, hb, hown, hu⟩
    obtain ⟨e1, e2⟩ := unhide US _ _ _ _ (unhide UR) hu
    subst e1 e2
    have VG := hide (VarS.start 34 (hown.wide (lo' := wx2.heap.size + 1) (by simp) (Nat.le_refl _)))
    have sg : wx2.heap.size + 1 ≤ w5.heap.size := by have := hb.size; simp at this; omega
    have en0 : vg.lo.num.n = vr.lo.num.n := by rw [← ((unhide VG).own.own (vg.lo.num, dr.lo.num) (by simp)).len, ← ((unhide V0).own.own (vr.lo.num, dr.lo.num) (by simp)).len]
    have q0 : vg.lo.num.n ≤ 40 := by omega
    have qm0 : vg.lo.num.n ≤ maxLen := by omega
    have ql0 : vg.lo.num.n ≤ 1048576 := by omega
    have en1 : vg.lo.den.n = vr.lo.den.n := by rw [← ((unhide VG).own.own (vg.lo.den, dr.lo.den) (by simp)).len, ← ((unhide V0).own.own (vr.lo.den, dr.lo.den) (by simp)).len]
    have q1 : vg.lo.den.n ≤ 40 := by omega
    have qm1 : vg.lo.den.n ≤ maxLen := by omega
    have ql1 : vg.lo.den.n ≤ 1048576 := by omega
    have en2 : vg.hi.num.n = vr.hi.num.n := by rw [← ((unhide VG).own.own (vg.hi.num, dr.hi.num) (by simp)).len, ← ((unhide V0).own.own (vr.hi.num, dr.hi.num) (by simp)).len]
    have q2 : vg.hi.num.n ≤ 40 := by omega
    have qm2 : vg.hi.num.n ≤ maxLen := by omega
    have ql2 : vg.hi.num.n ≤ 1048576 := by omega
    have en3 : vg.hi.den.n = vr.hi.den.n := by rw [← ((unhide VG).own.own (vg.hi.den, dr.hi.den) (by simp)).len, ← ((unhide V0).own.own (vr.hi.den, dr.hi.den) (by simp)).len]
    have q3 : vg.hi.den.n ≤ 40 := by omega
    have qm3 : vg.hi.den.n ≤ maxLen := by omega
    have ql3 : vg.hi.den.n ≤ 1048576 := by omega
    clear AX0 AX1 AX2 p0_0 p0_1 p0_2 p0_3 p0_4 p0_5 p0_6 p0_7 p1_0 p1_1 p1_2 p1_3 p1_4 p1_5 p1_6 p1_7
    replace V0 := hide ((unhide V0).later hb)
    replace T := hide ((unhide T).later hb)
    replace VX0 := hide ((unhide VX0).later hb)
    replace VX1 := hide ((unhide VX1).later hb)
    replace VX2 := hide ((unhide VX2).later hb)
    clear hb hown hu
    replace V0 := hide ((unhide V0).later ((Below.refl _ _).alloc (Nat.le_refl _) (.cells #[.bool vg.lo.num.g, .slice vg.lo.num.a vg.lo.num.n vg.lo.num.c, .bool vg.lo.den.g, .slice vg.lo.den.a vg.lo.den.n vg.lo.den.c, .bool vg.hi.num.g, .slice vg.hi.num.a vg.hi.num.n vg.hi.num.c, .bool vg.hi.den.g, .slice vg.hi.den.a vg.hi.den.n vg.hi.den.c] 34)))
    replace T := hide ((unhide T).later ((Below.refl _ _).alloc (Nat.le_refl _) (.cells #[.bool vg.lo.num.g, .slice vg.lo.num.a vg.lo.num.n vg.lo.num.c, .bool vg.lo.den.g, .slice vg.lo.den.a vg.lo.den.n vg.lo.den.c, .bool vg.hi.num.g, .slice vg.hi.num.a vg.hi.num.n vg.hi.num.c, .bool vg.hi.den.g, .slice vg.hi.den.a vg.hi.den.n vg.hi.den.c] 34)))
    replace VX0 := hide ((unhide VX0).later ((Below.refl _ _).alloc (Nat.le_refl _) (.cells #[.bool vg.lo.num.g, .slice vg.lo.num.a vg.lo.num.n vg.lo.num.c, .bool vg.lo.den.g, .slice vg.lo.den.a vg.lo.den.n vg.lo.den.c, .bool vg.hi.num.g, .slice vg.hi.num.a vg.hi.num.n vg.hi.num.c, .bool vg.hi.den.g, .slice vg.hi.den.a vg.hi.den.n vg.hi.den.c] 34)))
    replace VX1 := hide ((unhide VX1).later ((Below.refl _ _).alloc (Nat.le_refl _) (.cells #[.bool vg.lo.num.g, .slice vg.lo.num.a vg.lo.num.n vg.lo.num.c, .bool vg.lo.den.g, .slice vg.lo.den.a vg.lo.den.n vg.lo.den.c, .bool vg.hi.num.g, .slice vg.hi.num.a vg.hi.num.n vg.hi.num.c, .bool vg.hi.den.g, .slice vg.hi.den.a vg.hi.den.n vg.hi.den.c] 34)))
    replace VX2 := hide ((unhide VX2).later ((Below.refl _ _).alloc (Nat.le_refl _) (.cells #[.bool vg.lo.num.g, .slice vg.lo.num.a vg.lo.num.n vg.lo.num.c, .bool vg.lo.den.g, .slice vg.lo.den.a vg.lo.den.n vg.lo.den.c, .bool vg.hi.num.g, .slice vg.hi.num.a vg.hi.num.n vg.hi.num.c, .bool vg.hi.den.g, .slice vg.hi.den.a vg.hi.den.n vg.hi.den.c] 34)))
    have enh0 := hide en0
    clear en0
    have enh1 := hide en1
    clear en1
    have enh2 := hide en2
    clear en2
    have enh3 := hide en3
    clear en3
    have p0 := (unhide V0).c0
    have p1 := (unhide V0).c1
    have p2 := (unhide V0).c2
    have p3 := (unhide V0).c3
    have p4 := (unhide V0).c4
    have p5 := (unhide V0).c5
    have p6 := (unhide V0).c6
    have p7 := (unhide V0).c7
    go_wp2_with fail
    refine (eqS_at vg vr dr _ (unhide VG).own.sl (unhide V0).own.sl qm0 qm1 qm2 qm3).mono ?_
    rintro e w6 ⟨rfl, hb⟩
    clear p0 p1 p2 p3 p4 p5 p6 p7
    replace V0 := hide ((unhide V0).later hb)
    replace T := hide ((unhide T).later hb)
    replace VX0 := hide ((unhide VX0).later hb)
    replace VX1 := hide ((unhide VX1).later hb)
    replace VX2 := hide ((unhide VX2).later hb)
    replace VG := hide ((unhide VG).later hb)
    clear hb
    generalize wx0.heap.size = GX0 at *
    generalize wx1.heap.size = GX1 at *
    generalize wx2.heap.size = GX2 at *
    generalize w5.heap.size = GG at *
    generalize wc.heap.size = GC at *
    go_wp2_with fail
    have ka0 := (unhide T).x0_0
    have kx0 := (unhide VX0).c0
    have ka1 := (unhide T).x0_1
    have kx1 := (unhide VX0).c1
    have ka2 := (unhide T).x0_2
    have kx2 := (unhide VX0).c2
    have ka3 := (unhide T).x0_3
    have kx3 := (unhide VX0).c3
    have ka4 := (unhide T).x0_4
    have kx4 := (unhide VX0).c4
    have ka5 := (unhide T).x0_5
    have kx5 := (unhide VX0).c5
    have ka6 := (unhide T).x0_6
    have kx6 := (unhide VX0).c6
    have ka7 := (unhide T).x0_7
    have kx7 := (unhide VX0).c7
    go_region_held3 (fun w' => w'.cell? ⟨w.heap.size, 0, none⟩ = some (.bool v0.lo.num.g) ∧ w'.cell? ⟨w.heap.size, 1, none⟩ = some (.slice v0.lo.num.a v0.lo.num.n v0.lo.num.c) ∧ w'.cell? ⟨w.heap.size, 2, none⟩ = some (.bool v0.lo.den.g) ∧ w'.cell? ⟨w.heap.size, 3, none⟩ = some (.slice v0.lo.den.a v0.lo.den.n v0.lo.den.c) ∧ w'.cell? ⟨w.heap.size, 4, none⟩ = some (.bool v0.hi.num.g) ∧ w'.cell? ⟨w.heap.size, 5, none⟩ = some (.slice v0.hi.num.a v0.hi.num.n v0.hi.num.c) ∧ w'.cell? ⟨w.heap.size, 6, none⟩ = some (.bool v0.hi.den.g) ∧ w'.cell? ⟨w.heap.size, 7, none⟩ = some (.slice v0.hi.den.a v0.hi.den.n v0.hi.den.c) ∧ w'.cell? ⟨GX0, 0, none⟩ = some (.bool y0.lo.num.g) ∧ w'.cell? ⟨GX0, 1, none⟩ = some (.slice y0.lo.num.a y0.lo.num.n y0.lo.num.c) ∧ w'.cell? ⟨GX0, 2, none⟩ = some (.bool y0.lo.den.g) ∧ w'.cell? ⟨GX0, 3, none⟩ = some (.slice y0.lo.den.a y0.lo.den.n y0.lo.den.c) ∧ w'.cell? ⟨GX0, 4, none⟩ = some (.bool y0.hi.num.g) ∧ w'.cell? ⟨GX0, 5, none⟩ = some (.slice y0.hi.num.a y0.hi.num.n y0.hi.num.c) ∧ w'.cell? ⟨GX0, 6, none⟩ = some (.bool y0.hi.den.g) ∧ w'.cell? ⟨GX0, 7, none⟩ = some (.slice y0.hi.den.a y0.hi.den.n y0.hi.den.c)) (with_reducible (first | exact ⟨ka0, ka1, ka2, ka3, ka4, ka5, ka6, ka7, kx0, kx1, kx2, kx3, kx4, kx5, kx6, kx7⟩ | exact ⟨cd_other ka0, cd_other ka1, cd_other ka2, cd_other ka3, cd_other ka4, cd_other ka5, cd_other ka6, cd_other ka7, cd_other kx0, cd_other kx1, cd_other kx2, cd_other kx3, cd_other kx4, cd_other kx5, cd_other kx6, cd_other kx7⟩ | fail))
      (first
      | (go_at_call 82; refine (toS_at v0 d0 _ ?_ l0 l1 l2 l3).mono ?_; exact (unhide T).s0.later (Below.refl _ _).drew; rintro e w7 ⟨u7, rfl, hb', hn7, ow7, ar7⟩; have hb := below_of_drew hb'; replace V0 := hide ((unhide V0).later hb); replace T := hide ((unhide T).later hb); replace VX0 := hide ((unhide VX0).later hb); replace VX1 := hide ((unhide VX1).later hb); replace VX2 := hide ((unhide VX2).later hb); replace VG := hide ((unhide VG).later hb); replace ka0 := (unhide T).x0_0; replace kx0 := (unhide VX0).c0; replace ka1 := (unhide T).x0_1; replace kx1 := (unhide VX0).c1; replace ka2 := (unhide T).x0_2; replace kx2 := (unhide VX0).c2; replace ka3 := (unhide T).x0_3; replace kx3 := (unhide VX0).c3; replace ka4 := (unhide T).x0_4; replace kx4 := (unhide VX0).c4; replace ka5 := (unhide T).x0_5; replace kx5 := (unhide VX0).c5; replace ka6 := (unhide T).x0_6; replace kx6 := (unhide VX0).c6; replace ka7 := (unhide T).x0_7; replace kx7 := (unhide VX0).c7; have S7 := hide ow7.sl; clear hb hb' ow7 ar7 hn7)
      | (go_at_call 72; refine (eqS_at y0 u7 d0 _ (unhide VX0).own.sl (unhide S7) (by rw [(unhide hn0).1]; exact lm0) (by rw [(unhide hn0).2.1]; exact lm1) (by rw [(unhide hn0).2.2.1]; exact lm2) (by rw [(unhide hn0).2.2.2]; exact lm3)).mono ?_; rintro e w8 ⟨rfl, hb⟩; replace V0 := hide ((unhide V0).later hb); replace T := hide ((unhide T).later hb); replace VX0 := hide ((unhide VX0).later hb); replace VX1 := hide ((unhide VX1).later hb); replace VX2 := hide ((unhide VX2).later hb); replace VG := hide ((unhide VG).later hb); replace ka0 := (unhide T).x0_0; replace kx0 := (unhide VX0).c0; replace ka1 := (unhide T).x0_1; replace kx1 := (unhide VX0).c1; replace ka2 := (unhide T).x0_2; replace kx2 := (unhide VX0).c2; replace ka3 := (unhide T).x0_3; replace kx3 := (unhide VX0).c3; replace ka4 := (unhide T).x0_4; replace kx4 := (unhide VX0).c4; replace ka5 := (unhide T).x0_5; replace kx5 := (unhide VX0).c5; replace ka6 := (unhide T).x0_6; replace kx6 := (unhide VX0).c6; replace ka7 := (unhide T).x0_7; replace kx7 := (unhide VX0).c7; clear hb))
    clear S7 ka0 kx0 ka1 kx1 ka2 kx2 ka3 kx3 ka4 kx4 ka5 kx5 ka6 kx6 ka7 kx7
    go_wp2_with fail
    have ka0 := (unhide T).x1_0
    have kx0 := (unhide VX1).c0
    have ka1 := (unhide T).x1_1
    have kx1 := (unhide VX1).c1
    have ka2 := (unhide T).x1_2
    have kx2 := (unhide VX1).c2
    have ka3 := (unhide T).x1_3
    have kx3 := (unhide VX1).c3
    have ka4 := (unhide T).x1_4
    have kx4 := (unhide VX1).c4
    have ka5 := (unhide T).x1_5
    have kx5 := (unhide VX1).c5
    have ka6 := (unhide T).x1_6
    have kx6 := (unhide VX1).c6
    have ka7 := (unhide T).x1_7
    have kx7 := (unhide VX1).c7
    go_region_held3 (fun w' => w'.cell? ⟨w.heap.size + 1, 0, none⟩ = some (.bool v1.lo.num.g) ∧ w'.cell? ⟨w.heap.size + 1, 1, none⟩ = some (.slice v1.lo.num.a v1.lo.num.n v1.lo.num.c) ∧ w'.cell? ⟨w.heap.size + 1, 2, none⟩ = some (.bool v1.lo.den.g) ∧ w'.cell? ⟨w.heap.size + 1, 3, none⟩ = some (.slice v1.lo.den.a v1.lo.den.n v1.lo.den.c) ∧ w'.cell? ⟨w.heap.size + 1, 4, none⟩ = some (.bool v1.hi.num.g) ∧ w'.cell? ⟨w.heap.size + 1, 5, none⟩ = some (.slice v1.hi.num.a v1.hi.num.n v1.hi.num.c) ∧ w'.cell? ⟨w.heap.size + 1, 6, none⟩ = some (.bool v1.hi.den.g) ∧ w'.cell? ⟨w.heap.size + 1, 7, none⟩ = some (.slice v1.hi.den.a v1.hi.den.n v1.hi.den.c) ∧ w'.cell? ⟨GX1, 0, none⟩ = some (.bool y1.lo.num.g) ∧ w'.cell? ⟨GX1, 1, none⟩ = some (.slice y1.lo.num.a y1.lo.num.n y1.lo.num.c) ∧ w'.cell? ⟨GX1, 2, none⟩ = some (.bool y1.lo.den.g) ∧ w'.cell? ⟨GX1, 3, none⟩ = some (.slice y1.lo.den.a y1.lo.den.n y1.lo.den.c) ∧ w'.cell? ⟨GX1, 4, none⟩ = some (.bool y1.hi.num.g) ∧ w'.cell? ⟨GX1, 5, none⟩ = some (.slice y1.hi.num.a y1.hi.num.n y1.hi.num.c) ∧ w'.cell? ⟨GX1, 6, none⟩ = some (.bool y1.hi.den.g) ∧ w'.cell? ⟨GX1, 7, none⟩ = some (.slice y1.hi.den.a y1.hi.den.n y1.hi.den.c)) (with_reducible (first | exact ⟨ka0, ka1, ka2, ka3, ka4, ka5, ka6, ka7, kx0, kx1, kx2, kx3, kx4, kx5, kx6, kx7⟩ | exact ⟨cd_other ka0, cd_other ka1, cd_other ka2, cd_other ka3, cd_other ka4, cd_other ka5, cd_other ka6, cd_other ka7, cd_other kx0, cd_other kx1, cd_other kx2, cd_other kx3, cd_other kx4, cd_other kx5, cd_other kx6, cd_other kx7⟩ | fail))
      (first
      | (go_at_call 82; refine (toS_at v1 d1 _ ?_ l4 l5 l6 l7).mono ?_; exact (unhide T).s1.later (Below.refl _ _).drew; rintro e w7 ⟨u7, rfl, hb', hn7, ow7, ar7⟩; have hb := below_of_drew hb'; replace V0 := hide ((unhide V0).later hb); replace T := hide ((unhide T).later hb); replace VX0 := hide ((unhide VX0).later hb); replace VX1 := hide ((unhide VX1).later hb); replace VX2 := hide ((unhide VX2).later hb); replace VG := hide ((unhide VG).later hb); replace ka0 := (unhide T).x1_0; replace kx0 := (unhide VX1).c0; replace ka1 := (unhide T).x1_1; replace kx1 := (unhide VX1).c1; replace ka2 := (unhide T).x1_2; replace kx2 := (unhide VX1).c2; replace ka3 := (unhide T).x1_3; replace kx3 := (unhide VX1).c3; replace ka4 := (unhide T).x1_4; replace kx4 := (unhide VX1).c4; replace ka5 := (unhide T).x1_5; replace kx5 := (unhide VX1).c5; replace ka6 := (unhide T).x1_6; replace kx6 := (unhide VX1).c6; replace ka7 := (unhide T).x1_7; replace kx7 := (unhide VX1).c7; have S7 := hide ow7.sl; clear hb hb' ow7 ar7 hn7)
      | (go_at_call 72; refine (eqS_at y1 u7 d1 _ (unhide VX1).own.sl (unhide S7) (by rw [(unhide hn1).1]; exact lm4) (by rw [(unhide hn1).2.1]; exact lm5) (by rw [(unhide hn1).2.2.1]; exact lm6) (by rw [(unhide hn1).2.2.2]; exact lm7)).mono ?_; rintro e w8 ⟨rfl, hb⟩; replace V0 := hide ((unhide V0).later hb); replace T := hide ((unhide T).later hb); replace VX0 := hide ((unhide VX0).later hb); replace VX1 := hide ((unhide VX1).later hb); replace VX2 := hide ((unhide VX2).later hb); replace VG := hide ((unhide VG).later hb); replace ka0 := (unhide T).x1_0; replace kx0 := (unhide VX1).c0; replace ka1 := (unhide T).x1_1; replace kx1 := (unhide VX1).c1; replace ka2 := (unhide T).x1_2; replace kx2 := (unhide VX1).c2; replace ka3 := (unhide T).x1_3; replace kx3 := (unhide VX1).c3; replace ka4 := (unhide T).x1_4; replace kx4 := (unhide VX1).c4; replace ka5 := (unhide T).x1_5; replace kx5 := (unhide VX1).c5; replace ka6 := (unhide T).x1_6; replace kx6 := (unhide VX1).c6; replace ka7 := (unhide T).x1_7; replace kx7 := (unhide VX1).c7; clear hb))
    clear S7 ka0 kx0 ka1 kx1 ka2 kx2 ka3 kx3 ka4 kx4 ka5 kx5 ka6 kx6 ka7 kx7
    go_wp2_with fail
    have ka0 := (unhide T).x2_0
    have kx0 := (unhide VX2).c0
    have ka1 := (unhide T).x2_1
    have kx1 := (unhide VX2).c1
    have ka2 := (unhide T).x2_2
    have kx2 := (unhide VX2).c2
    have ka3 := (unhide T).x2_3
    have kx3 := (unhide VX2).c3
    go_region_held3 (fun w' => w'.cell? ⟨w.heap.size + 1 + 1, 0, none⟩ = some (.bool v2.num.g) ∧ w'.cell? ⟨w.heap.size + 1 + 1, 1, none⟩ = some (.slice v2.num.a v2.num.n v2.num.c) ∧ w'.cell? ⟨w.heap.size + 1 + 1, 2, none⟩ = some (.bool v2.den.g) ∧ w'.cell? ⟨w.heap.size + 1 + 1, 3, none⟩ = some (.slice v2.den.a v2.den.n v2.den.c) ∧ w'.cell? ⟨GX2, 0, none⟩ = some (.bool y2.num.g) ∧ w'.cell? ⟨GX2, 1, none⟩ = some (.slice y2.num.a y2.num.n y2.num.c) ∧ w'.cell? ⟨GX2, 2, none⟩ = some (.bool y2.den.g) ∧ w'.cell? ⟨GX2, 3, none⟩ = some (.slice y2.den.a y2.den.n y2.den.c)) (with_reducible (first | exact ⟨ka0, ka1, ka2, ka3, kx0, kx1, kx2, kx3⟩ | exact ⟨cd_other ka0, cd_other ka1, cd_other ka2, cd_other ka3, cd_other kx0, cd_other kx1, cd_other kx2, cd_other kx3⟩ | fail))
      (first
      | (go_at_call 71; refine (toQ_at v2 d2 _ ?_ l8 l9).mono ?_; exact (unhide T).s2.later (Below.refl _ _).drew; rintro e w7 ⟨u7, rfl, hb', hn7, ow7, ar7⟩; have hb := below_of_drew hb'; replace V0 := hide ((unhide V0).later hb); replace T := hide ((unhide T).later hb); replace VX0 := hide ((unhide VX0).later hb); replace VX1 := hide ((unhide VX1).later hb); replace VX2 := hide ((unhide VX2).later hb); replace VG := hide ((unhide VG).later hb); replace ka0 := (unhide T).x2_0; replace kx0 := (unhide VX2).c0; replace ka1 := (unhide T).x2_1; replace kx1 := (unhide VX2).c1; replace ka2 := (unhide T).x2_2; replace kx2 := (unhide VX2).c2; replace ka3 := (unhide T).x2_3; replace kx3 := (unhide VX2).c3; have S7 := hide ow7.sl; clear hb hb' ow7 ar7 hn7)
      | (go_at_call 74; refine (eqQ_at y2 u7 d2 _ (unhide VX2).own.sl (unhide S7) (by rw [(unhide hn2).1]; exact lm8) (by rw [(unhide hn2).2]; exact lm9)).mono ?_; rintro e w8 ⟨rfl, hb⟩; replace V0 := hide ((unhide V0).later hb); replace T := hide ((unhide T).later hb); replace VX0 := hide ((unhide VX0).later hb); replace VX1 := hide ((unhide VX1).later hb); replace VX2 := hide ((unhide VX2).later hb); replace VG := hide ((unhide VG).later hb); replace ka0 := (unhide T).x2_0; replace kx0 := (unhide VX2).c0; replace ka1 := (unhide T).x2_1; replace kx1 := (unhide VX2).c1; replace ka2 := (unhide T).x2_2; replace kx2 := (unhide VX2).c2; replace ka3 := (unhide T).x2_3; replace kx3 := (unhide VX2).c3; clear hb))
    clear S7 ka0 kx0 ka1 kx1 ka2 kx2 ka3 kx3
    have p0 := (unhide VX0).c0
    have p1 := (unhide VX0).c1
    have p2 := (unhide VX0).c2
    have p3 := (unhide VX0).c3
    have p4 := (unhide VX0).c4
    have p5 := (unhide VX0).c5
    have p6 := (unhide VX0).c6
    have p7 := (unhide VX0).c7
    have hl0 : y0.lo.num.n ≤ 1048576 := by rw [(unhide hn0).1]; exact l0
    have hl1 : y0.lo.den.n ≤ 1048576 := by rw [(unhide hn0).2.1]; exact l1
    have hl2 : y0.hi.num.n ≤ 1048576 := by rw [(unhide hn0).2.2.1]; exact l2
    have hl3 : y0.hi.den.n ≤ 1048576 := by rw [(unhide hn0).2.2.2]; exact l3
    go_wp2_with fail
    refine (markS_at y0 d0 [] [] 1 (GC) GX0 _ (unhide VX0).own hl0 hl1 hl2 hl3 (by have := (unhide VX0).gt; omega) (by omega) (by have := (unhide hn0).1; have := (unhide hn0).2.1; have := (unhide hn0).2.2.1; have := (unhide hn0).2.2.2; omega)).mono ?_
    rintro e w10 ⟨rfl, hbt, hmk⟩
    replace T := hide ((unhide T).but hbt (by omega) (unhide HX0) (unhide HX1) (unhide HX2))
    replace V0 := hide ((unhide V0).but hbt (by omega) (by omega))
    replace VX1 := hide ((unhide VX1).but hbt (by omega) (by omega))
    replace VX2 := hide ((unhide VX2).but hbt (by omega) (by omega))
    replace VG := hide ((unhide VG).but hbt (by omega) (by omega))
    clear VX0 p0 p1 p2 p3 p4 p5 p6 p7 hbt hmk hl0 hl1 hl2 hl3
    have p0 := (unhide VX1).c0
    have p1 := (unhide VX1).c1
    have p2 := (unhide VX1).c2
    have p3 := (unhide VX1).c3
    have p4 := (unhide VX1).c4
    have p5 := (unhide VX1).c5
    have p6 := (unhide VX1).c6
    have p7 := (unhide VX1).c7
    have hl0 : y1.lo.num.n ≤ 1048576 := by rw [(unhide hn1).1]; exact l4
    have hl1 : y1.lo.den.n ≤ 1048576 := by rw [(unhide hn1).2.1]; exact l5
    have hl2 : y1.hi.num.n ≤ 1048576 := by rw [(unhide hn1).2.2.1]; exact l6
    have hl3 : y1.hi.den.n ≤ 1048576 := by rw [(unhide hn1).2.2.2]; exact l7
    go_wp2_with fail
    refine (markS_at y1 d1 [] [] _ (GX0 + 1) GX1 _ (unhide VX1).own hl0 hl1 hl2 hl3 (by have := (unhide VX1).gt; omega) (by omega) (by have := (unhide hn0).1; have := (unhide hn0).2.1; have := (unhide hn0).2.2.1; have := (unhide hn0).2.2.2; have := (unhide hn1).1; have := (unhide hn1).2.1; have := (unhide hn1).2.2.1; have := (unhide hn1).2.2.2; omega)).mono ?_
    rintro e w11 ⟨rfl, hbt, hmk⟩
    replace T := hide ((unhide T).but hbt (by omega) (unhide HX0) (unhide HX1) (unhide HX2))
    replace V0 := hide ((unhide V0).but hbt (by omega) (by omega))
    replace VX2 := hide ((unhide VX2).but hbt (by omega) (by omega))
    replace VG := hide ((unhide VG).but hbt (by omega) (by omega))
    clear VX1 p0 p1 p2 p3 p4 p5 p6 p7 hbt hmk hl0 hl1 hl2 hl3
    have p0 := (unhide VX2).c0
    have p1 := (unhide VX2).c1
    have p2 := (unhide VX2).c2
    have p3 := (unhide VX2).c3
    have hl0 : y2.num.n ≤ 1048576 := by rw [(unhide hn2).1]; exact l8
    have hl1 : y2.den.n ≤ 1048576 := by rw [(unhide hn2).2]; exact l9
    go_wp2_with fail
    refine (markQ_at y2 d2 [] [] _ (GX1 + 1) GX2 _ (unhide VX2).own hl0 hl1 (by have := (unhide VX2).gt; omega) (by omega) (by have := (unhide hn0).1; have := (unhide hn0).2.1; have := (unhide hn0).2.2.1; have := (unhide hn0).2.2.2; have := (unhide hn1).1; have := (unhide hn1).2.1; have := (unhide hn1).2.2.1; have := (unhide hn1).2.2.2; have := (unhide hn2).1; have := (unhide hn2).2; omega)).mono ?_
    rintro e w12 ⟨rfl, hbt, hmk⟩
    replace T := hide ((unhide T).but hbt (by omega) (unhide HX0) (unhide HX1) (unhide HX2))
    replace V0 := hide ((unhide V0).but hbt (by omega) (by omega))
    replace VG := hide ((unhide VG).but hbt (by omega) (by omega))
    clear VX2 p0 p1 p2 p3 hbt hmk hl0 hl1
    have hk0 : decide ((1 : Int) + (y0.lo.num.n : Int) + (y0.lo.den.n : Int) + (y0.hi.num.n : Int) + (y0.hi.den.n : Int) + (y1.lo.num.n : Int) + (y1.lo.den.n : Int) + (y1.hi.num.n : Int) + (y1.hi.den.n : Int) + (y2.num.n : Int) + (y2.den.n : Int) < 0) = false := by simp; omega
    have p0 := (unhide VG).c0
    have pq0 := (unhide V0).c0
    have p1 := (unhide VG).c1
    have pq1 := (unhide V0).c1
    have p2 := (unhide VG).c2
    have pq2 := (unhide V0).c2
    have p3 := (unhide VG).c3
    have pq3 := (unhide V0).c3
    have p4 := (unhide VG).c4
    have pq4 := (unhide V0).c4
    have p5 := (unhide VG).c5
    have pq5 := (unhide V0).c5
    have p6 := (unhide VG).c6
    have pq6 := (unhide V0).c6
    have p7 := (unhide VG).c7
    have pq7 := (unhide V0).c7
    go_wp2_with fail
    refine (eqS_at vg vr dr _ (unhide VG).own.sl (unhide V0).own.sl qm0 qm1 qm2 qm3).mono ?_
    rintro e w20 ⟨rfl, hb⟩
    clear p0 pq0 p1 pq1 p2 pq2 p3 pq3 p4 pq4 p5 pq5 p6 pq6 p7 pq7 hk0
    replace V0 := hide ((unhide V0).later hb)
    replace T := hide ((unhide T).later hb)
    replace VG := hide ((unhide VG).later hb)
    clear hb
    have p0 := (unhide VG).c0
    have p1 := (unhide VG).c1
    have p2 := (unhide VG).c2
    have p3 := (unhide VG).c3
    have p4 := (unhide VG).c4
    have p5 := (unhide VG).c5
    have p6 := (unhide VG).c6
    have p7 := (unhide VG).c7
    go_wp2_with fail
    refine (markS_at vg dr [] [] 1 (GX2 + 1) GG _ (unhide VG).own ql0 ql1 ql2 ql3 (by have := (unhide VG).gt; omega) (by omega) (by omega)).mono ?_
    rintro e w21 ⟨rfl, hbt, hmk⟩
    replace T := hide ((unhide T).but hbt (by omega) (unhide HX0) (unhide HX1) (unhide HX2))
    replace V0 := hide ((unhide V0).but hbt (by omega) (by omega))
    replace VG := hide ((unhide VG).mark (d' := ⟨⟨⟨dr.lo.num.g, marks (1) vg.lo.num.n⟩, ⟨dr.lo.den.g, marks (1 + vg.lo.num.n) vg.lo.den.n⟩⟩, ⟨⟨dr.hi.num.g, marks (1 + vg.lo.num.n + vg.lo.den.n) vg.hi.num.n⟩, ⟨dr.hi.den.g, marks (1 + vg.lo.num.n + vg.lo.den.n + vg.hi.num.n) vg.hi.den.n⟩⟩⟩) hbt (by omega) hmk)
    clear p0 p1 p2 p3 p4 p5 p6 p7 hbt hmk
    have p0 := (unhide VG).c0
    have p1 := (unhide VG).c1
    have p2 := (unhide VG).c2
    have p3 := (unhide VG).c3
    have p4 := (unhide VG).c4
    have p5 := (unhide VG).c5
    have p6 := (unhide VG).c6
    have p7 := (unhide VG).c7
    go_wp2_with fail
    refine (heldS_at vg 1 _ ((unhide VG).own.sl (vg.lo.num, ⟨dr.lo.num.g, marks (1) vg.lo.num.n⟩) (by simp)).sl ((unhide VG).own.sl (vg.lo.den, ⟨dr.lo.den.g, marks (1 + (vg.lo.num.n : Int)) vg.lo.den.n⟩) (by simp)).sl ((unhide VG).own.sl (vg.hi.num, ⟨dr.hi.num.g, marks (1 + (vg.lo.num.n : Int) + (vg.lo.den.n : Int)) vg.hi.num.n⟩) (by simp)).sl ((unhide VG).own.sl (vg.hi.den, ⟨dr.hi.den.g, marks (1 + (vg.lo.num.n : Int) + (vg.lo.den.n : Int) + (vg.hi.num.n : Int)) vg.hi.den.n⟩) (by simp)).sl ql0 ql1 ql2 ql3 (by omega) (by omega)).mono ?_
    rintro e wk ⟨rfl, hb⟩
    replace V0 := hide ((unhide V0).later hb)
    replace T := hide ((unhide T).later hb)
    replace VG := hide ((unhide VG).later hb)
    have hr0 : ¬ ((1 : Int) + (vg.lo.num.n : Int) + (vg.lo.den.n : Int) + (vg.hi.num.n : Int) + (vg.hi.den.n : Int) < 0) := by omega
    have zk : w.heap.size + 3 ≤ wk.heap.size := by have h1 := (unhide VG).gt; omega
    clear p0 p1 p2 p3 p4 p5 p6 p7 hb
    go_upto_region 38 with fail
    go_cut [18, 19] (fun p q wx => ∃ (G : Nat) (v : SV) (d : SD) (ok : Bool), p = .pointer (some ⟨G, 0, none⟩) ∧ q = .bool ok ∧ Hid (MetS wk wx G v d) ∧ Hid (U d ok) ∧ Hid (TlawMix w wx v0 d0 v1 d1 v2 d2))
    case first =>
      have ka0 := (unhide T).x0_0
      have ka1 := (unhide T).x0_1
      have ka2 := (unhide T).x0_2
      have ka3 := (unhide T).x0_3
      have ka4 := (unhide T).x0_4
      have ka5 := (unhide T).x0_5
      have ka6 := (unhide T).x0_6
      have ka7 := (unhide T).x0_7
      have ka8 := (unhide T).x1_0
      have ka9 := (unhide T).x1_1
      have ka10 := (unhide T).x1_2
      have ka11 := (unhide T).x1_3
      have ka12 := (unhide T).x1_4
      have ka13 := (unhide T).x1_5
      have ka14 := (unhide T).x1_6
      have ka15 := (unhide T).x1_7
      have ka16 := (unhide T).x2_0
      have ka17 := (unhide T).x2_1
      have ka18 := (unhide T).x2_2
      have ka19 := (unhide T).x2_3
      go_region_held3 (fun w' => w'.cell? ⟨w.heap.size, 0, none⟩ = some (.bool v0.lo.num.g) ∧ w'.cell? ⟨w.heap.size, 1, none⟩ = some (.slice v0.lo.num.a v0.lo.num.n v0.lo.num.c) ∧ w'.cell? ⟨w.heap.size, 2, none⟩ = some (.bool v0.lo.den.g) ∧ w'.cell? ⟨w.heap.size, 3, none⟩ = some (.slice v0.lo.den.a v0.lo.den.n v0.lo.den.c) ∧ w'.cell? ⟨w.heap.size, 4, none⟩ = some (.bool v0.hi.num.g) ∧ w'.cell? ⟨w.heap.size, 5, none⟩ = some (.slice v0.hi.num.a v0.hi.num.n v0.hi.num.c) ∧ w'.cell? ⟨w.heap.size, 6, none⟩ = some (.bool v0.hi.den.g) ∧ w'.cell? ⟨w.heap.size, 7, none⟩ = some (.slice v0.hi.den.a v0.hi.den.n v0.hi.den.c) ∧ w'.cell? ⟨w.heap.size + 1, 0, none⟩ = some (.bool v1.lo.num.g) ∧ w'.cell? ⟨w.heap.size + 1, 1, none⟩ = some (.slice v1.lo.num.a v1.lo.num.n v1.lo.num.c) ∧ w'.cell? ⟨w.heap.size + 1, 2, none⟩ = some (.bool v1.lo.den.g) ∧ w'.cell? ⟨w.heap.size + 1, 3, none⟩ = some (.slice v1.lo.den.a v1.lo.den.n v1.lo.den.c) ∧ w'.cell? ⟨w.heap.size + 1, 4, none⟩ = some (.bool v1.hi.num.g) ∧ w'.cell? ⟨w.heap.size + 1, 5, none⟩ = some (.slice v1.hi.num.a v1.hi.num.n v1.hi.num.c) ∧ w'.cell? ⟨w.heap.size + 1, 6, none⟩ = some (.bool v1.hi.den.g) ∧ w'.cell? ⟨w.heap.size + 1, 7, none⟩ = some (.slice v1.hi.den.a v1.hi.den.n v1.hi.den.c) ∧ w'.cell? ⟨w.heap.size + 1 + 1, 0, none⟩ = some (.bool v2.num.g) ∧ w'.cell? ⟨w.heap.size + 1 + 1, 1, none⟩ = some (.slice v2.num.a v2.num.n v2.num.c) ∧ w'.cell? ⟨w.heap.size + 1 + 1, 2, none⟩ = some (.bool v2.den.g) ∧ w'.cell? ⟨w.heap.size + 1 + 1, 3, none⟩ = some (.slice v2.den.a v2.den.n v2.den.c)) (with_reducible (first | exact ⟨ka0, ka1, ka2, ka3, ka4, ka5, ka6, ka7, ka8, ka9, ka10, ka11, ka12, ka13, ka14, ka15, ka16, ka17, ka18, ka19⟩ | exact ⟨cd_other ka0, cd_other ka1, cd_other ka2, cd_other ka3, cd_other ka4, cd_other ka5, cd_other ka6, cd_other ka7, cd_other ka8, cd_other ka9, cd_other ka10, cd_other ka11, cd_other ka12, cd_other ka13, cd_other ka14, cd_other ka15, cd_other ka16, cd_other ka17, cd_other ka18, cd_other ka19⟩ | exact ⟨ca_other ka0, ca_other ka1, ca_other ka2, ca_other ka3, ca_other ka4, ca_other ka5, ca_other ka6, ca_other ka7, ca_other ka8, ca_other ka9, ca_other ka10, ca_other ka11, ca_other ka12, ca_other ka13, ca_other ka14, ca_other ka15, ca_other ka16, ca_other ka17, ca_other ka18, ca_other ka19⟩ | exact ⟨cd_other (ca_other ka0), cd_other (ca_other ka1), cd_other (ca_other ka2), cd_other (ca_other ka3), cd_other (ca_other ka4), cd_other (ca_other ka5), cd_other (ca_other ka6), cd_other (ca_other ka7), cd_other (ca_other ka8), cd_other (ca_other ka9), cd_other (ca_other ka10), cd_other (ca_other ka11), cd_other (ca_other ka12), cd_other (ca_other ka13), cd_other (ca_other ka14), cd_other (ca_other ka15), cd_other (ca_other ka16), cd_other (ca_other ka17), cd_other (ca_other ka18), cd_other (ca_other ka19)⟩ | exact ⟨cs_other (cs_other (cs_other (cs_other (cs_other (cs_other (cs_other (cs_other (ka0) (by omega)) (by omega)) (by omega)) (by omega)) (by omega)) (by omega)) (by omega)) (by omega), cs_other (cs_other (cs_other (cs_other (cs_other (cs_other (cs_other (cs_other (ka1) (by omega)) (by omega)) (by omega)) (by omega)) (by omega)) (by omega)) (by omega)) (by omega), cs_other (cs_other (cs_other (cs_other (cs_other (cs_other (cs_other (cs_other (ka2) (by omega)) (by omega)) (by omega)) (by omega)) (by omega)) (by omega)) (by omega)) (by omega), cs_other (cs_other (cs_other (cs_other (cs_other (cs_other (cs_other (cs_other (ka3) (by omega)) (by omega)) (by omega)) (by omega)) (by omega)) (by omega)) (by omega)) (by omega), cs_other (cs_other (cs_other (cs_other (cs_other (cs_other (cs_other (cs_other (ka4) (by omega)) (by omega)) (by omega)) (by omega)) (by omega)) (by omega)) (by omega)) (by omega), cs_other (cs_other (cs_other (cs_other (cs_other (cs_other (cs_other (cs_other (ka5) (by omega)) (by omega)) (by omega)) (by omega)) (by omega)) (by omega)) (by omega)) (by omega), cs_other (cs_other (cs_other (cs_other (cs_other (cs_other (cs_other (cs_other (ka6) (by omega)) (by omega)) (by omega)) (by omega)) (by omega)) (by omega)) (by omega)) (by omega), cs_other (cs_other (cs_other (cs_other (cs_other (cs_other (cs_other (cs_other (ka7) (by omega)) (by omega)) (by omega)) (by omega)) (by omega)) (by omega)) (by omega)) (by omega), cs_other (cs_other (cs_other (cs_other (cs_other (cs_other (cs_other (cs_other (ka8) (by omega)) (by omega)) (by omega)) (by omega)) (by omega)) (by omega)) (by omega)) (by omega), cs_other (cs_other (cs_other (cs_other (cs_other (cs_other (cs_other (cs_other (ka9) (by omega)) (by omega)) (by omega)) (by omega)) (by omega)) (by omega)) (by omega)) (by omega), cs_other (cs_other (cs_other (cs_other (cs_other (cs_other (cs_other (cs_other (ka10) (by omega)) (by omega)) (by omega)) (by omega)) (by omega)) (by omega)) (by omega)) (by omega), cs_other (cs_other (cs_other (cs_other (cs_other (cs_other (cs_other (cs_other (ka11) (by omega)) (by omega)) (by omega)) (by omega)) (by omega)) (by omega)) (by omega)) (by omega), cs_other (cs_other (cs_other (cs_other (cs_other (cs_other (cs_other (cs_other (ka12) (by omega)) (by omega)) (by omega)) (by omega)) (by omega)) (by omega)) (by omega)) (by omega), cs_other (cs_other (cs_other (cs_other (cs_other (cs_other (cs_other (cs_other (ka13) (by omega)) (by omega)) (by omega)) (by omega)) (by omega)) (by omega)) (by omega)) (by omega), cs_other (cs_other (cs_other (cs_other (cs_other (cs_other (cs_other (cs_other (ka14) (by omega)) (by omega)) (by omega)) (by omega)) (by omega)) (by omega)) (by omega)) (by omega), cs_other (cs_other (cs_other (cs_other (cs_other (cs_other (cs_other (cs_other (ka15) (by omega)) (by omega)) (by omega)) (by omega)) (by omega)) (by omega)) (by omega)) (by omega), cs_other (cs_other (cs_other (cs_other (cs_other (cs_other (cs_other (cs_other (ka16) (by omega)) (by omega)) (by omega)) (by omega)) (by omega)) (by omega)) (by omega)) (by omega), cs_other (cs_other (cs_other (cs_other (cs_other (cs_other (cs_other (cs_other (ka17) (by omega)) (by omega)) (by omega)) (by omega)) (by omega)) (by omega)) (by omega)) (by omega), cs_other (cs_other (cs_other (cs_other (cs_other (cs_other (cs_other (cs_other (ka18) (by omega)) (by omega)) (by omega)) (by omega)) (by omega)) (by omega)) (by omega)) (by omega), cs_other (cs_other (cs_other (cs_other (cs_other (cs_other (cs_other (cs_other (ka19) (by omega)) (by omega)) (by omega)) (by omega)) (by omega)) (by omega)) (by omega)) (by omega)⟩ | fail))
        (first
        | (go_at_call_of 82 (Value.agg #[Value.bool v0.lo.num.g, Value.slice v0.lo.num.a v0.lo.num.n v0.lo.num.c, Value.bool v0.lo.den.g, Value.slice v0.lo.den.a v0.lo.den.n v0.lo.den.c, Value.bool v0.hi.num.g, Value.slice v0.hi.num.a v0.hi.num.n v0.hi.num.c, Value.bool v0.hi.den.g, Value.slice v0.hi.den.a v0.hi.den.n v0.hi.den.c]); refine (toS_at v0 d0 _ ?_ l0 l1 l2 l3).mono ?_; (first | exact (unhide T).s0.later (Below.refl _ _).drew | exact (unhide T).s0.later ((Below.refl _ _).alloc (Nat.le_refl _) _).drew); rintro e wa0 ⟨qa0, rfl, hb, hna0, ow, ar⟩; have hbx : Below wk.heap.size wk wa0 := (by first | exact below_of_drew hb | exact bad hb); have sz0 := hbx.size; replace T := hide ((unhide T).later hbx); replace ka0 := (unhide T).x0_0; replace ka1 := (unhide T).x0_1; replace ka2 := (unhide T).x0_2; replace ka3 := (unhide T).x0_3; replace ka4 := (unhide T).x0_4; replace ka5 := (unhide T).x0_5; replace ka6 := (unhide T).x0_6; replace ka7 := (unhide T).x0_7; replace ka8 := (unhide T).x1_0; replace ka9 := (unhide T).x1_1; replace ka10 := (unhide T).x1_2; replace ka11 := (unhide T).x1_3; replace ka12 := (unhide T).x1_4; replace ka13 := (unhide T).x1_5; replace ka14 := (unhide T).x1_6; replace ka15 := (unhide T).x1_7; replace ka16 := (unhide T).x2_0; replace ka17 := (unhide T).x2_1; replace ka18 := (unhide T).x2_2; replace ka19 := (unhide T).x2_3; (try (replace gf := fun o => frozen_later hbx (World.block_lt_of_cell? _ _ g0) (gf o); replace g0 := cell_later hbx g0; replace g1 := cell_later hbx g1; replace g2 := cell_later hbx g2; replace g3 := cell_later hbx g3; replace g4 := cell_later hbx g4; replace g5 := cell_later hbx g5; replace g6 := cell_later hbx g6; replace g7 := cell_later hbx g7)); (try (refine cutP (p := wa0.cell? ⟨wk.heap.size, 0, none⟩ = some (.bool false) ∧ wa0.cell? ⟨wk.heap.size, 1, none⟩ = some (.slice none 0 0) ∧ wa0.cell? ⟨wk.heap.size, 2, none⟩ = some (.bool false) ∧ wa0.cell? ⟨wk.heap.size, 3, none⟩ = some (.slice none 0 0) ∧ wa0.cell? ⟨wk.heap.size, 4, none⟩ = some (.bool false) ∧ wa0.cell? ⟨wk.heap.size, 5, none⟩ = some (.slice none 0 0) ∧ wa0.cell? ⟨wk.heap.size, 6, none⟩ = some (.bool false) ∧ wa0.cell? ⟨wk.heap.size, 7, none⟩ = some (.slice none 0 0) ∧ ∀ o, wa0.frozen? ⟨wk.heap.size, o, none⟩ = false) ?_ (fun dd => ?_); (focus (refine ⟨cell_later hb ?_, cell_later hb ?_, cell_later hb ?_, cell_later hb ?_, cell_later hb ?_, cell_later hb ?_, cell_later hb ?_, cell_later hb ?_, fun o => frozen_later hb ?_ ?_⟩ <;> (simp [go_sem]; done))); obtain ⟨g0, g1, g2, g3, g4, g5, g6, g7, gf⟩ := dd)); have zz0 := hb.size; (try simp at zz0); have HBr := hide hbx; have A0 := hide ar; clear hb hbx ow ar hna0)
        | (go_at_call_of 82 (Value.agg #[Value.bool v1.lo.num.g, Value.slice v1.lo.num.a v1.lo.num.n v1.lo.num.c, Value.bool v1.lo.den.g, Value.slice v1.lo.den.a v1.lo.den.n v1.lo.den.c, Value.bool v1.hi.num.g, Value.slice v1.hi.num.a v1.hi.num.n v1.hi.num.c, Value.bool v1.hi.den.g, Value.slice v1.hi.den.a v1.hi.den.n v1.hi.den.c]); refine (toS_at v1 d1 _ ?_ l4 l5 l6 l7).mono ?_; (first | exact (unhide T).s1 | exact (unhide T).s1.later ((Below.refl _ _).alloc (Nat.le_refl _) _)); rintro e wa1 ⟨qa1, rfl, hb, hna1, ow, ar⟩; have hbx : Below wa0.heap.size wa0 wa1 := (by first | exact hb | exact ba hb); have sz1 := hbx.size; replace T := hide ((unhide T).later hbx); replace ka0 := (unhide T).x0_0; replace ka1 := (unhide T).x0_1; replace ka2 := (unhide T).x0_2; replace ka3 := (unhide T).x0_3; replace ka4 := (unhide T).x0_4; replace ka5 := (unhide T).x0_5; replace ka6 := (unhide T).x0_6; replace ka7 := (unhide T).x0_7; replace ka8 := (unhide T).x1_0; replace ka9 := (unhide T).x1_1; replace ka10 := (unhide T).x1_2; replace ka11 := (unhide T).x1_3; replace ka12 := (unhide T).x1_4; replace ka13 := (unhide T).x1_5; replace ka14 := (unhide T).x1_6; replace ka15 := (unhide T).x1_7; replace ka16 := (unhide T).x2_0; replace ka17 := (unhide T).x2_1; replace ka18 := (unhide T).x2_2; replace ka19 := (unhide T).x2_3; replace A0 := hide ((unhide A0).later hbx); (try (replace gf := fun o => frozen_later hbx (World.block_lt_of_cell? _ _ g0) (gf o); replace g0 := cell_later hbx g0; replace g1 := cell_later hbx g1; replace g2 := cell_later hbx g2; replace g3 := cell_later hbx g3; replace g4 := cell_later hbx g4; replace g5 := cell_later hbx g5; replace g6 := cell_later hbx g6; replace g7 := cell_later hbx g7)); (try (refine cutP (p := wa1.cell? ⟨wa0.heap.size, 0, none⟩ = some (.bool false) ∧ wa1.cell? ⟨wa0.heap.size, 1, none⟩ = some (.slice none 0 0) ∧ wa1.cell? ⟨wa0.heap.size, 2, none⟩ = some (.bool false) ∧ wa1.cell? ⟨wa0.heap.size, 3, none⟩ = some (.slice none 0 0) ∧ wa1.cell? ⟨wa0.heap.size, 4, none⟩ = some (.bool false) ∧ wa1.cell? ⟨wa0.heap.size, 5, none⟩ = some (.slice none 0 0) ∧ wa1.cell? ⟨wa0.heap.size, 6, none⟩ = some (.bool false) ∧ wa1.cell? ⟨wa0.heap.size, 7, none⟩ = some (.slice none 0 0) ∧ ∀ o, wa1.frozen? ⟨wa0.heap.size, o, none⟩ = false) ?_ (fun dd => ?_); (focus (refine ⟨cell_later hb ?_, cell_later hb ?_, cell_later hb ?_, cell_later hb ?_, cell_later hb ?_, cell_later hb ?_, cell_later hb ?_, cell_later hb ?_, fun o => frozen_later hb ?_ ?_⟩ <;> (simp [go_sem]; done))); obtain ⟨g0, g1, g2, g3, g4, g5, g6, g7, gf⟩ := dd)); have zz1 := hb.size; (try simp at zz1); have HBr := hide (below_on (unhide HBr) hbx); have A1 := hide ar; clear hb hbx ow ar hna1)
        | (go_at_call_of 71 (Value.agg #[Value.bool v2.num.g, Value.slice v2.num.a v2.num.n v2.num.c, Value.bool v2.den.g, Value.slice v2.den.a v2.den.n v2.den.c]); refine (toQ_at v2 d2 _ ?_ l8 l9).mono ?_; (first | exact (unhide T).s2 | exact (unhide T).s2.later ((Below.refl _ _).alloc (Nat.le_refl _) _)); rintro e wa2 ⟨qa2, rfl, hb, hna2, ow, ar⟩; have hbx : Below wa1.heap.size wa1 wa2 := (by first | exact hb | exact ba hb); have sz2 := hbx.size; replace T := hide ((unhide T).later hbx); replace ka0 := (unhide T).x0_0; replace ka1 := (unhide T).x0_1; replace ka2 := (unhide T).x0_2; replace ka3 := (unhide T).x0_3; replace ka4 := (unhide T).x0_4; replace ka5 := (unhide T).x0_5; replace ka6 := (unhide T).x0_6; replace ka7 := (unhide T).x0_7; replace ka8 := (unhide T).x1_0; replace ka9 := (unhide T).x1_1; replace ka10 := (unhide T).x1_2; replace ka11 := (unhide T).x1_3; replace ka12 := (unhide T).x1_4; replace ka13 := (unhide T).x1_5; replace ka14 := (unhide T).x1_6; replace ka15 := (unhide T).x1_7; replace ka16 := (unhide T).x2_0; replace ka17 := (unhide T).x2_1; replace ka18 := (unhide T).x2_2; replace ka19 := (unhide T).x2_3; replace A0 := hide ((unhide A0).later hbx); replace A1 := hide ((unhide A1).later hbx); (try (replace gf := fun o => frozen_later hbx (World.block_lt_of_cell? _ _ g0) (gf o); replace g0 := cell_later hbx g0; replace g1 := cell_later hbx g1; replace g2 := cell_later hbx g2; replace g3 := cell_later hbx g3; replace g4 := cell_later hbx g4; replace g5 := cell_later hbx g5; replace g6 := cell_later hbx g6; replace g7 := cell_later hbx g7)); (try (refine cutP (p := wa2.cell? ⟨wa1.heap.size, 0, none⟩ = some (.bool false) ∧ wa2.cell? ⟨wa1.heap.size, 1, none⟩ = some (.slice none 0 0) ∧ wa2.cell? ⟨wa1.heap.size, 2, none⟩ = some (.bool false) ∧ wa2.cell? ⟨wa1.heap.size, 3, none⟩ = some (.slice none 0 0) ∧ wa2.cell? ⟨wa1.heap.size, 4, none⟩ = some (.bool false) ∧ wa2.cell? ⟨wa1.heap.size, 5, none⟩ = some (.slice none 0 0) ∧ wa2.cell? ⟨wa1.heap.size, 6, none⟩ = some (.bool false) ∧ wa2.cell? ⟨wa1.heap.size, 7, none⟩ = some (.slice none 0 0) ∧ ∀ o, wa2.frozen? ⟨wa1.heap.size, o, none⟩ = false) ?_ (fun dd => ?_); (focus (refine ⟨cell_later hb ?_, cell_later hb ?_, cell_later hb ?_, cell_later hb ?_, cell_later hb ?_, cell_later hb ?_, cell_later hb ?_, cell_later hb ?_, fun o => frozen_later hb ?_ ?_⟩ <;> (simp [go_sem]; done))); obtain ⟨g0, g1, g2, g3, g4, g5, g6, g7, gf⟩ := dd)); have zz2 := hb.size; (try simp at zz2); have HBr := hide (below_on (unhide HBr) hbx); have A2 := hide ar; clear hb hbx ow ar hna2)
        | (go_at_call 42; refine (unhide CI _ _ _ _ ?_ ?_ ?_).mono ?_; (first | exact unhide A0 | exact (unhide A0).later ((Below.refl _ _).alloc (Nat.le_refl _) _)); (first | exact unhide A1 | exact (unhide A1).later ((Below.refl _ _).alloc (Nat.le_refl _) _)); (first | exact unhide A2 | exact (unhide A2).later ((Below.refl _ _).alloc (Nat.le_refl _) _)); rintro e w5 ⟨vr, dr, okr, rfl, hb, hown, hu⟩; have hbx : Below wa2.heap.size wa2 w5 := (by first | exact hb | exact ba hb); have sz3 := hbx.size; replace T := hide ((unhide T).later hbx); replace ka0 := (unhide T).x0_0; replace ka1 := (unhide T).x0_1; replace ka2 := (unhide T).x0_2; replace ka3 := (unhide T).x0_3; replace ka4 := (unhide T).x0_4; replace ka5 := (unhide T).x0_5; replace ka6 := (unhide T).x0_6; replace ka7 := (unhide T).x0_7; replace ka8 := (unhide T).x1_0; replace ka9 := (unhide T).x1_1; replace ka10 := (unhide T).x1_2; replace ka11 := (unhide T).x1_3; replace ka12 := (unhide T).x1_4; replace ka13 := (unhide T).x1_5; replace ka14 := (unhide T).x1_6; replace ka15 := (unhide T).x1_7; replace ka16 := (unhide T).x2_0; replace ka17 := (unhide T).x2_1; replace ka18 := (unhide T).x2_2; replace ka19 := (unhide T).x2_3; replace A0 := hide ((unhide A0).later hbx); replace A1 := hide ((unhide A1).later hbx); replace A2 := hide ((unhide A2).later hbx); (try (replace gf := fun o => frozen_later hbx (World.block_lt_of_cell? _ _ g0) (gf o); replace g0 := cell_later hbx g0; replace g1 := cell_later hbx g1; replace g2 := cell_later hbx g2; replace g3 := cell_later hbx g3; replace g4 := cell_later hbx g4; replace g5 := cell_later hbx g5; replace g6 := cell_later hbx g6; replace g7 := cell_later hbx g7)); (try (refine cutP (p := w5.cell? ⟨wa2.heap.size, 0, none⟩ = some (.bool false) ∧ w5.cell? ⟨wa2.heap.size, 1, none⟩ = some (.slice none 0 0) ∧ w5.cell? ⟨wa2.heap.size, 2, none⟩ = some (.bool false) ∧ w5.cell? ⟨wa2.heap.size, 3, none⟩ = some (.slice none 0 0) ∧ w5.cell? ⟨wa2.heap.size, 4, none⟩ = some (.bool false) ∧ w5.cell? ⟨wa2.heap.size, 5, none⟩ = some (.slice none 0 0) ∧ w5.cell? ⟨wa2.heap.size, 6, none⟩ = some (.bool false) ∧ w5.cell? ⟨wa2.heap.size, 7, none⟩ = some (.slice none 0 0) ∧ ∀ o, w5.frozen? ⟨wa2.heap.size, o, none⟩ = false) ?_ (fun dd => ?_); (focus (refine ⟨cell_later hb ?_, cell_later hb ?_, cell_later hb ?_, cell_later hb ?_, cell_later hb ?_, cell_later hb ?_, cell_later hb ?_, cell_later hb ?_, fun o => frozen_later hb ?_ ?_⟩ <;> (simp [go_sem]; done))); obtain ⟨g0, g1, g2, g3, g4, g5, g6, g7, gf⟩ := dd)); have zz3 := hb.size; (try simp at zz3); have HBr := hide (below_on (unhide HBr) hbx); have O5 := hide hown; have U5 := hide hu; clear hb hbx hown hu))
      all_goals go_wp2_with fail
      all_goals go_meet
      all_goals first
        | (with_reducible refine ⟨_, vr, dr, okr, rfl, rfl, hide (metS_alloc 34 (unhide HBr) (unhide O5) ?_), U5, hide ((unhide T).later ((Below.refl _ _).alloc (Nat.le_refl _) _))⟩; omega)
        | (with_reducible refine ⟨_, vr, dr, okr, rfl, rfl, hide (metS_set (unhide HBr) (unhide O5) ?_ ?_ g0 g1 g2 g3 g4 g5 g6 g7), U5, hide ((unhide T).but metS_but ?_ (unhide HX0) (unhide HX1) (unhide HX2))⟩ <;> first | omega | (simp; done) | (simp; omega))
    case rest =>
      obtain ⟨GH, vh, dh, okh, rfl, rfl, HM, UH, T9⟩ := hcut
      obtain ⟨e1, e2⟩ := unhide US _ _ _ _ (unhide UR) (unhide UH)
      subst e1 e2
      have VH := hide (unhide HM).var
      replace V0 := hide ((unhide V0).later (unhide HM).bel)
      replace VG := hide ((unhide VG).later (unhide HM).bel)
      clear HM
      clear T
      have T := T9
      clear T9
      have hm0 : vh.lo.num.n ≤ maxLen := by rw [← ((unhide VH).own.own (vh.lo.num, dr.lo.num) (by simp)).len, ((unhide V0).own.own (vr.lo.num, dr.lo.num) (by simp)).len]; exact rm0
      have hm1 : vh.lo.den.n ≤ maxLen := by rw [← ((unhide VH).own.own (vh.lo.den, dr.lo.den) (by simp)).len, ((unhide V0).own.own (vr.lo.den, dr.lo.den) (by simp)).len]; exact rm1
      have hm2 : vh.hi.num.n ≤ maxLen := by rw [← ((unhide VH).own.own (vh.hi.num, dr.hi.num) (by simp)).len, ((unhide V0).own.own (vr.hi.num, dr.hi.num) (by simp)).len]; exact rm2
      have hm3 : vh.hi.den.n ≤ maxLen := by rw [← ((unhide VH).own.own (vh.hi.den, dr.hi.den) (by simp)).len, ((unhide V0).own.own (vr.hi.den, dr.hi.den) (by simp)).len]; exact rm3
      have p0 := (unhide VH).c0
      have pq0 := (unhide V0).c0
      have p1 := (unhide VH).c1
      have pq1 := (unhide V0).c1
      have p2 := (unhide VH).c2
      have pq2 := (unhide V0).c2
      have p3 := (unhide VH).c3
      have pq3 := (unhide V0).c3
      have p4 := (unhide VH).c4
      have pq4 := (unhide V0).c4
      have p5 := (unhide VH).c5
      have pq5 := (unhide V0).c5
      have p6 := (unhide VH).c6
      have pq6 := (unhide V0).c6
      have p7 := (unhide VH).c7
      have pq7 := (unhide V0).c7
      go_wp2_with fail
      refine (eqS_at vh vr dr _ (unhide VH).own.sl (unhide V0).own.sl hm0 hm1 hm2 hm3).mono ?_
      rintro e w30 ⟨rfl, hb⟩
      clear p0 pq0 p1 pq1 p2 pq2 p3 pq3 p4 pq4 p5 pq5 p6 pq6 p7 pq7
      replace T := hide ((unhide T).later hb)
      replace VG := hide ((unhide VG).later hb)
      clear hb VH V0
      have p0 := (unhide VG).c0
      have p1 := (unhide VG).c1
      have p2 := (unhide VG).c2
      have p3 := (unhide VG).c3
      have p4 := (unhide VG).c4
      have p5 := (unhide VG).c5
      have p6 := (unhide VG).c6
      have p7 := (unhide VG).c7
      go_wp2_with fail
      refine (heldS_at vg 1 _ ((unhide VG).own.sl (vg.lo.num, ⟨dr.lo.num.g, marks (1) vg.lo.num.n⟩) (by simp)).sl ((unhide VG).own.sl (vg.lo.den, ⟨dr.lo.den.g, marks (1 + (vg.lo.num.n : Int)) vg.lo.den.n⟩) (by simp)).sl ((unhide VG).own.sl (vg.hi.num, ⟨dr.hi.num.g, marks (1 + (vg.lo.num.n : Int) + (vg.lo.den.n : Int)) vg.hi.num.n⟩) (by simp)).sl ((unhide VG).own.sl (vg.hi.den, ⟨dr.hi.den.g, marks (1 + (vg.lo.num.n : Int) + (vg.lo.den.n : Int) + (vg.hi.num.n : Int)) vg.hi.den.n⟩) (by simp)).sl ql0 ql1 ql2 ql3 (by omega) (by omega)).mono ?_
      rintro e w31 ⟨rfl, hb⟩
      replace T := hide ((unhide T).later hb)
      clear p0 p1 p2 p3 p4 p5 p6 p7 hb
      go_wp2
      go_ret
      exact ⟨rfl, (unhide T).bel⟩

theorem lawMix_walk (v0 : SV) (v1 : SV) (v2 : QV) (d0 : SD) (d1 : SD) (d2 : QD) (w : World) (hx0 : AllSl w [(v0.lo.num, d0.lo.num), (v0.lo.den, d0.lo.den), (v0.hi.num, d0.hi.num), (v0.hi.den, d0.hi.den)]) (hx1 : AllSl w [(v1.lo.num, d1.lo.num), (v1.lo.den, d1.lo.den), (v1.hi.num, d1.hi.num), (v1.hi.den, d1.hi.den)]) (hx2 : AllSl w [(v2.num, d2.num), (v2.den, d2.den)])  (m0 : v0.lo.num.n ≤ maxLen) (m1 : v0.lo.den.n ≤ maxLen) (m2 : v0.hi.num.n ≤ maxLen) (m3 : v0.hi.den.n ≤ maxLen) (m4 : v1.lo.num.n ≤ maxLen) (m5 : v1.lo.den.n ≤ maxLen) (m6 : v1.hi.num.n ≤ maxLen) (m7 : v1.hi.den.n ≤ maxLen) (m8 : v2.num.n ≤ maxLen) (m9 : v2.den.n ≤ maxLen) :
    Calls Tryz.prog 12 #[.agg #[.bool v0.lo.num.g, .slice v0.lo.num.a v0.lo.num.n v0.lo.num.c, .bool v0.lo.den.g, .slice v0.lo.den.a v0.lo.den.n v0.lo.den.c, .bool v0.hi.num.g, .slice v0.hi.num.a v0.hi.num.n v0.hi.num.c, .bool v0.hi.den.g, .slice v0.hi.den.a v0.hi.den.n v0.hi.den.c], .agg #[.bool v1.lo.num.g, .slice v1.lo.num.a v1.lo.num.n v1.lo.num.c, .bool v1.lo.den.g, .slice v1.lo.den.a v1.lo.den.n v1.lo.den.c, .bool v1.hi.num.g, .slice v1.hi.num.a v1.hi.num.n v1.hi.num.c, .bool v1.hi.den.g, .slice v1.hi.den.a v1.hi.den.n v1.hi.den.c], .agg #[.bool v2.num.g, .slice v2.num.a v2.num.n v2.num.c, .bool v2.den.g, .slice v2.den.a v2.den.n v2.den.c]] w fun e w' => e = .returned (.bool true) ∧ Below w.heap.size w w' := by
  by_cases g0 : v0.lo.num.n + v0.lo.den.n + v0.hi.num.n + v0.hi.den.n ≤ 1048576
  · by_cases g1 : v0.lo.num.n + v0.lo.den.n + v0.hi.num.n + v0.hi.den.n + v1.lo.num.n + v1.lo.den.n + v1.hi.num.n + v1.hi.den.n ≤ 1048576
    · by_cases g2 : v0.lo.num.n + v0.lo.den.n + v0.hi.num.n + v0.hi.den.n + v1.lo.num.n + v1.lo.den.n + v1.hi.num.n + v1.hi.den.n + v2.num.n + v2.den.n ≤ 1048576
      · exact lawMix_in v0 v1 v2 d0 d1 d2 w hx0 hx1 hx2  g2
      · exact lawMix_out2 v0 v1 v2 w m8 m9 g1 (by omega)
    · exact lawMix_out1 v0 v1 v2 w m4 m5 m6 m7 g0 (by omega)
  · exact lawMix_out0 v0 v1 v2 w m0 m1 m2 m3 (by omega) (by omega)
end Go.Proofs.YtikllcoekcglcaaGreat
namespace Go.Proofs.YtikllcoekcglcaaGreat
open Go.ChangeShapes Go.WideShapes Go.ChangeAt Go.RowKit Go.Joins
set_option linter.unusedVariables false
set_option maxRecDepth 100000
set_option linter.unusedSimpArgs false

set_option maxRecDepth 100000 in
theorem mix_holds_lifted (os : Os) (started : os.Started) (H : Type) (enc : TypeId × Value → H) :
    ReturnsInHanded {} Tryz.checked os 12 .any (Rows.fnExactMixPtSpec.pre6 enc Tryz.prog Tryz.f12 Rows.fnExactMixPtRow.domain false) (Rows.fnExactMixPtSpec.post enc Tryz.prog Tryz.f12 false true false false) := by
  refine returnsInHanded_of_change (C := Tryz.checked) own started (by kernel_rfl) Tryz.func12
    (ChangeSpec.witness6 (enc := enc) (C := Tryz.checked) false ⟨#[], #[.agg #[.bool false, .slice none 0 0, .bool false, .slice none 0 0, .bool false, .slice none 0 0, .bool false, .slice none 0 0], .agg #[.bool false, .slice none 0 0, .bool false, .slice none 0 0, .bool false, .slice none 0 0, .bool false, .slice none 0 0], .agg #[.bool false, .slice none 0 0, .bool false, .slice none 0 0]], []⟩ 8 (by kernel_rfl) (by kernel_rfl) (by kernel_rfl) (by kernel_rfl)) ?_
  intro W base args ds gs before hval0 hW hcnd _
  have hval : ∀ (j : Nat) t v, Tryz.f12.params[j]? = some t → args[j]? = some v → Value.okWide Tryz.prog W .any base t v := hval0
  have hW' := hW
  obtain ⟨p, q, hA0, hV, rfl, hfz, hnd⟩ := hW
  have hA : DataW.TrodAll enc Tryz.prog W 0 (fun _ => true) true Tryz.f12.params.toList args.toList ds p := hA0
  rw [Tryz.params12] at hA hval
  obtain ⟨v0, vs0, d0, ds0, p0, q0, hargs, rfl, rfl, h0, r0⟩ := trodAll_cons hA
  obtain ⟨v1, vs1, d1, ds1, p1, q1, rfl, rfl, rfl, h1, r1⟩ := trodAll_cons r0
  obtain ⟨v2, vs2, d2, ds2, p2, q2, rfl, rfl, rfl, h2, r2⟩ := trodAll_cons r1
  obtain ⟨rfl, rfl, rfl⟩ := trodAll_nil r2
  obtain rfl : args = #[v0, v1, v2] := by cases args; simp_all
  obtain ⟨rfl, rfl⟩ := trodVars_none hV
  have lt0 : ∀ x ∈ p0, x.block < W.heap.size := by obtain ⟨m, hm⟩ := h0; exact DataW.trod_lt m _ _ _ hm
  obtain ⟨u0, e0, rfl, sl0, m0_0, m0_1, m0_2, m0_3⟩ := open_S (hval 0 80 v0 rfl rfl) h0
  have lt1 : ∀ x ∈ p1, x.block < W.heap.size := by obtain ⟨m, hm⟩ := h1; exact DataW.trod_lt m _ _ _ hm
  obtain ⟨u1, e1, rfl, sl1, m1_0, m1_1, m1_2, m1_3⟩ := open_S (hval 1 80 v1 rfl rfl) h1
  have lt2 : ∀ x ∈ p2, x.block < W.heap.size := by obtain ⟨m, hm⟩ := h2; exact DataW.trod_lt m _ _ _ hm
  obtain ⟨u2, e2, rfl, sl2, m2_0, m2_1⟩ := open_Q (hval 2 69 v2 rfl rfl) h2
  clear hA0 hval0
  refine (lawMix_walk u0 u1 u2 e0 e1 e2 W sl0 sl1 sl2 m0_0 m0_1 m0_2 m0_3 m1_0 m1_1 m1_2 m1_3 m2_0 m2_1).mono fun e W' ⟨he, bel⟩ => ?_
  subst he
  exact ⟨_, rfl, _, _, _, [], _, [], hW', trodAll_mk1 (shut_bool Tryz.underlying4 _), (trodAll_cons_mk (Below.trod laidOut (by kernel_rfl) (of_decide_eq_true (by kernel_rfl)) h0 bel lt0) (trodAll_cons_mk (Below.trod laidOut (by kernel_rfl) (of_decide_eq_true (by kernel_rfl)) h1 bel lt1) (trodAll_cons_mk (Below.trod laidOut (by kernel_rfl) (of_decide_eq_true (by kernel_rfl)) h2 bel lt2) trodAll_mk0))), rfl, bel.frame _, fun h => by cases h⟩

theorem mix_holds_c0 : (Rows.fnExactMixPtRow.wf (OpenSpec.ofChange Rows.fnExactMixPtSpec)) = true := by kernel_rfl
theorem mix_holds_c1 : (laidOutB Tryz.pinned.checked.prog) = true := by kernel_rfl
theorem mix_holds_c2 : (mapsRowed Tryz.pinned.checked.prog) = true := by kernel_rfl
theorem mix_holds_c3 : (Tryz.f12.params.all (Tryz.pinned.checked.prog.readableRec ·)) = true := by kernel_rfl
theorem mix_holds_c4 : (namedTie Tryz.pinned.checked.prog Rows.fnExactMixPtRow.named Rows.fnExactMixPtSpec.vars) = true := by kernel_rfl
theorem mix_holds_c5 : (Rows.fnExactMixPtRow.stops == []) = true := by kernel_rfl
theorem mix_holds_c6 : (Tryz.pinned.checked.prog.stops == []) = true := by kernel_rfl
theorem mix_holds_c7 : (Rows.fnExactMixPtRow.knobs == []) = true := by kernel_rfl
theorem mix_holds_c8 : (Tryz.pinned.checked.prog.stopKnobs == []) = true := by kernel_rfl
theorem mix_holds_c9 : (Rows.fnExactMixPtRow.inPlace == Tryz.pinned.checked.prog.inPlace 12) = true := by kernel_rfl
theorem mix_holds_c10 : (Rows.fnExactMixPtRow.unfollowed == Tryz.pinned.checked.prog.unfollowed 12) = true := by kernel_rfl
theorem mix_holds_c11 : (Rows.fnExactMixPtRow.recurses == Tryz.pinned.checked.prog.recurses 12) = true := by kernel_rfl
theorem mix_holds_c12 : (Rows.fnExactMixPtRow.named == Tryz.pinned.checked.prog.varsNamed 12) = true := by kernel_rfl
theorem mix_holds_c13 : (Rows.fnExactMixPtRow.maps == (Tryz.f12.params.toList ++ Rows.fnExactMixPtSpec.plain.varTypes Tryz.pinned.checked.prog).any (Tryz.pinned.checked.prog.mapsRec ·)) = true := by kernel_rfl
theorem mix_holds_c14 : (Rows.fnExactMixPtRow.ifaces == (Tryz.f12.params.toList ++ Rows.fnExactMixPtSpec.plain.varTypes Tryz.pinned.checked.prog).any (Tryz.pinned.checked.prog.ifacesRec ·)) = true := by kernel_rfl
theorem mix_holds_c15 : (Rows.fnExactMixPtRow.mapsOut == Tryz.pinned.checked.prog.mapsAmong Tryz.f12.resultTypes.toList) = true := by kernel_rfl
theorem mix_holds_c16 : (Rows.fnExactMixPtRow.loops == (Tryz.f12.params.toList ++ Rows.fnExactMixPtSpec.plain.varTypes Tryz.pinned.checked.prog).any (Tryz.pinned.checked.prog.loopsFrom ·)) = true := by kernel_rfl
theorem mix_holds_c17 : (Rows.fnExactMixPtRow.wideKeys == (Tryz.f12.params.toList ++ Rows.fnExactMixPtSpec.plain.varTypes Tryz.pinned.checked.prog ++ Tryz.f12.resultTypes.toList).any (Tryz.pinned.checked.prog.wideKeysFrom ·)) = true := by kernel_rfl
theorem mix_holds_c18 : (Rows.fnExactMixPtSpec.vars.all (Tryz.pinned.checked.prog.varReadable ·)) = true := by kernel_rfl
theorem mix_holds_c19 : (Tryz.f12.resultTypes.all (fun t => Tryz.pinned.checked.prog.readableRec t && decide (t < Tryz.pinned.checked.prog.types.size))) = true := by kernel_rfl
theorem mix_holds_c20 : (Rows.fnExactMixPtRow.ifacesOut == Tryz.f12.resultTypes.toList.any (Tryz.pinned.checked.prog.ifacesRec ·)) = true := by kernel_rfl
theorem mix_holds_c21 : (Rows.fnExactMixPtRow.loopsOut == Tryz.f12.resultTypes.toList.any (Tryz.pinned.checked.prog.loopsFrom ·)) = true := by kernel_rfl
theorem mix_holds_c22 : (Rows.fnExactMixPtRow.plainKeys == Tryz.pinned.checked.prog.plainKeys) = true := by kernel_rfl
theorem mix_holds_c23 : (Rows.fnExactMixPtRow.shortTexts.isNone) = true := by kernel_rfl
theorem mix_holds_c24 : (Tryz.pinned.checked.prog.stopsHeard) = true := by kernel_rfl
theorem mix_holds_c25 : (Tryz.pinned.checked.prog.mayEnter) = true := io_enter
theorem mix_holds_c26 : (Rows.fnExactMixPtRow.lifted == Tryz.pinned.checked.prog.liftsFinal) = true := by rw [io_lifts]; kernel_rfl
theorem mix_holds_c27 : (Tryz.pinned.checked.prog.make == some Rows.fnExactMixPtRow.make) = true := by rw [io_make]; kernel_rfl
theorem mix_holds_c28 : (Rows.fnExactMixPtRow.kinds == (if Rows.fnExactMixPtRow.domain.isEmpty then [] else Tryz.f12.params.toList.map fun t => match Tryz.pinned.checked.prog.underlying t with | some (.int k) => some k | _ => none)) = true := by kernel_rfl
theorem mix_holds_c29 : (Rows.fnExactMixPtRow.pinned == Rows.fnExactMixPtRow.pinnedBy) = true := by kernel_rfl
theorem mix_holds_c30 : (Rows.fnExactMixPtRow.veiled == (Tryz.f12.params.toList ++ Rows.fnExactMixPtSpec.plain.varTypes Tryz.pinned.checked.prog ++ Tryz.f12.resultTypes.toList).any (Tryz.pinned.checked.prog.veiledRec ·)) = true := by kernel_rfl
theorem mix_holds_c31 : (Rows.fnExactMixPtRow.veiledFits Tryz.pinned.checked.prog Tryz.f12.params.toList (Tryz.f12.params.toList ++ Rows.fnExactMixPtSpec.plain.varTypes Tryz.pinned.checked.prog ++ Tryz.f12.resultTypes.toList)) = true := by kernel_rfl
theorem mix_holds_and {a b : Bool} (h : a = true) (k : b = true) : (a && b) = true := by rw [h, k]; rfl
theorem mix_holds_closed : joinedFacts Tryz.pinned.checked.prog 12 Tryz.f12 Rows.fnExactMixPtSpec Rows.fnExactMixPtRow = true := (mix_holds_and (mix_holds_and (mix_holds_and (mix_holds_and (mix_holds_and (mix_holds_and (mix_holds_and (mix_holds_and (mix_holds_and (mix_holds_and (mix_holds_and (mix_holds_and (mix_holds_and (mix_holds_and (mix_holds_and (mix_holds_and (mix_holds_and (mix_holds_and (mix_holds_and (mix_holds_and (mix_holds_and (mix_holds_and (mix_holds_and (mix_holds_and (mix_holds_and (mix_holds_and (mix_holds_and (mix_holds_and (mix_holds_and (mix_holds_and (mix_holds_and mix_holds_c0 mix_holds_c1) mix_holds_c2) mix_holds_c3) mix_holds_c4) mix_holds_c5) mix_holds_c6) mix_holds_c7) mix_holds_c8) mix_holds_c9) mix_holds_c10) mix_holds_c11) mix_holds_c12) mix_holds_c13) mix_holds_c14) mix_holds_c15) mix_holds_c16) mix_holds_c17) mix_holds_c18) mix_holds_c19) mix_holds_c20) mix_holds_c21) mix_holds_c22) mix_holds_c23) mix_holds_c24) mix_holds_c25) mix_holds_c26) mix_holds_c27) mix_holds_c28) mix_holds_c29) mix_holds_c30) mix_holds_c31)
theorem mix_holds_named : Tryz.pinned.checked.prog.funcNamed Rows.fnExactMixPtRow.func = some 12 := by kernel_rfl
theorem mix_holds_inst : Tryz.f12.isInstance Tryz.pinned.checked.prog Rows.fnExactMixPtRow.origin Rows.fnExactMixPtRow.targs := of_decide_eq_true (by kernel_rfl)
theorem mix_holds_wrap : Tryz.f12.isWrapper Tryz.pinned.checked.prog Rows.fnExactMixPtRow.wrapper Rows.fnExactMixPtRow.mainSum := by unfold Func.isWrapper; first | (rw [if_pos (by decide +kernel)]; kernel_rfl) | (rw [if_neg (by decide +kernel)]; exact ⟨rfl, rfl⟩)
theorem mix_holds : Rows.FnExactMixPtSaid :=
  OpenClaim.holds_of_wide 12 Tryz.f12 rfl rfl rfl rfl rfl rfl rfl ⟨rfl, rfl, rfl, rfl, rfl⟩ rfl rfl rfl rfl rfl mix_holds_named Tryz.func12 mix_holds_closed mix_holds_inst mix_holds_wrap
    (fun os started H enc _ => mix_holds_lifted os started H enc)
#print axioms mix_holds
end Go.Proofs.YtikllcoekcglcaaGreat
