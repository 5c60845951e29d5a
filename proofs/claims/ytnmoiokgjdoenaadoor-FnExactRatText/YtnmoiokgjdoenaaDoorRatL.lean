/- The laws' functions over fractions: szRat, toRat, eqRat, markRat and heldRat. No condition beyond those typed. -/
import Derived.Test.YtnmoiokgjdoenaaDoorLaw2
namespace Go.Proofs.YtnmoiokgjdoenaaDoor
open Go.RowKit
set_option linter.unusedVariables false
set_option maxRecDepth 100000
set_option linter.unusedSimpArgs false

/-- A fraction's value without what its slices lead to. -/
structure RV where
  g : Bool
  a : Option Addr
  n : Nat
  c : Nat
  h : Bool
  b : Option Addr
  p : Nat
  d : Nat

theorem szR_in (r : RV) (left : Int) (w : World) (h0 : 0 ≤ left) (h1 : left ≤ 1048576) (h : (r.n : Int) + (r.p : Int) ≤ left) :
    Calls Tryd.prog 10 #[.agg #[.bool r.g, .slice r.a r.n r.c, .bool r.h, .slice r.b r.p r.d], .int .i64 left] w fun e w' => e = .returned (.int .i64 (left - r.n - r.p)) ∧ Below w.heap.size w w' := by
  obtain ⟨g, a, n, c, h', b, p, d⟩ := r
  simp only at h ⊢
  have k1 : ¬ (left - (n : Int) < 0) := by omega
  have k2 : ¬ (left - (n : Int) - (p : Int) < 0) := by omega
  go_enter Tryd.func10, Tryd.ntmps10
  go_wp2_with fail
  refine (sz_in g a n c left _ h0 h1 (by omega)).mono ?_
  rintro e w1 ⟨rfl, hb1⟩
  have y0 : w1.cell? ⟨w.heap.size, 2, none⟩ = some (.bool h') := cell_later hb1 (by simp [go_sem])
  have y1 : w1.cell? ⟨w.heap.size, 3, none⟩ = some (.slice b p d) := cell_later hb1 (by simp [go_sem])
  have HB := hide (ba hb1)
  clear hb1
  go_wp2_with fail
  refine (sz_in h' b p d _ _ (by omega) (by omega) (by omega)).mono ?_
  rintro e w2 ⟨rfl, hb2⟩
  have HB2 := hide (below_on (unhide HB) hb2)
  clear hb2
  go_wp2
  go_ret
  exact ⟨rfl, unhide HB2⟩

theorem szR_out (r : RV) (left : Int) (w : World) (h0 : 0 ≤ left) (h1 : left ≤ 1048576) (hm : r.n ≤ maxLen) (hm2 : r.p ≤ maxLen) (h : left < (r.n : Int) + (r.p : Int)) :
    Calls Tryd.prog 10 #[.agg #[.bool r.g, .slice r.a r.n r.c, .bool r.h, .slice r.b r.p r.d], .int .i64 left] w fun e w' => e = .returned (.int .i64 (-1)) ∧ Below w.heap.size w w' := by
  obtain ⟨g, a, n, c, h', b, p, d⟩ := r
  simp only at h hm hm2 ⊢
  by_cases hn : left < (n : Int)
  · go_enter Tryd.func10, Tryd.ntmps10
    go_wp2_with fail
    refine (sz_out g a n c left _ h0 h1 hm hn).mono ?_
    rintro e w1 ⟨rfl, hb1⟩
    have HB := hide (ba hb1)
    clear hb1
    go_wp2
    go_ret
    exact ⟨rfl, unhide HB⟩
  · have k1 : ¬ (left - (n : Int) < 0) := by omega
    go_enter Tryd.func10, Tryd.ntmps10
    go_wp2_with fail
    refine (sz_in g a n c left _ h0 h1 (by omega)).mono ?_
    rintro e w1 ⟨rfl, hb1⟩
    have y0 : w1.cell? ⟨w.heap.size, 2, none⟩ = some (.bool h') := cell_later hb1 (by simp [go_sem])
    have y1 : w1.cell? ⟨w.heap.size, 3, none⟩ = some (.slice b p d) := cell_later hb1 (by simp [go_sem])
    have HB := hide (ba hb1)
    clear hb1
    go_wp2_with fail
    refine (sz_out h' b p d _ _ (by omega) (by omega) hm2 (by omega)).mono ?_
    rintro e w2 ⟨rfl, hb2⟩
    have HB2 := hide (below_on (unhide HB) hb2)
    clear hb2
    go_wp2
    go_ret
    exact ⟨rfl, unhide HB2⟩

/-- Both slices of a fraction lead to their limbs. -/
structure RSl (w : World) (r : RV) (xs us : List Int) : Prop where
  s0 : Sl w r.a xs
  l0 : xs.length = r.n
  s1 : Sl w r.b us
  l1 : us.length = r.p
theorem RSl.later {w w' : World} {r : RV} {xs us : List Int} (h : RSl w r xs us) (hb : Below w.heap.size w w') : RSl w' r xs us := ⟨h.s0.later (Nat.le_refl _) hb, h.l0, h.s1.later (Nat.le_refl _) hb, h.l1⟩
theorem RSl.drew {w : World} {r : RV} {xs us : List Int} (h : RSl w r xs us) : RSl w.drew r xs us := h.later (Below.refl _ _).drew
/-- Two slices lie in two blocks, or one of them has nothing. -/
def Dis (a : Option Addr) (zs : List Int) (a' : Option Addr) (rs : List Int) : Prop := zs = [] ∨ rs = [] ∨ ∃ b o b' o', a = some ⟨b, o, none⟩ ∧ a' = some ⟨b', o', none⟩ ∧ b ≠ b'
theorem dis_of {base : Nat} {w w' : World} {a a' : Option Addr} {zs rs : List Int} (h : Own base w a zs) (k : Own w.heap.size w' a' rs) : Dis a zs a' rs := by
  rcases h with h | ⟨b, cur, rfl, h1, hg, hc⟩
  · exact .inl h
  · rcases k with k | ⟨b', cur', rfl, k1, kg, kc⟩
    · exact .inr (.inl k)
    · exact .inr (.inr ⟨b, 0, b', 0, rfl, rfl, by have := (Array.getElem?_eq_some_iff.1 hg).1; omega⟩)
/-- Both slices of a fraction are a call's own. -/
structure ROwn (base : Nat) (w : World) (r : RV) (xs us : List Int) : Prop where
  o0 : Own base w r.a xs
  l0 : xs.length = r.n
  o1 : Own base w r.b us
  l1 : us.length = r.p
  dis : Dis r.a xs r.b us
theorem ROwn.later {base : Nat} {w w' : World} {r : RV} {xs us : List Int} (h : ROwn base w r xs us) (hb : Below w.heap.size w w') : ROwn base w' r xs us := ⟨h.o0.later hb, h.l0, h.o1.later hb, h.l1, h.dis⟩
theorem ROwn.mono {base base' : Nat} {w : World} {r : RV} {xs us : List Int} (h : ROwn base w r xs us) (hb : base' ≤ base) : ROwn base' w r xs us := ⟨h.o0.mono hb, h.l0, h.o1.mono hb, h.l1, h.dis⟩
theorem ROwn.sl {base : Nat} {w : World} {r : RV} {xs us : List Int} (h : ROwn base w r xs us) : RSl w r xs us := ⟨h.o0.sl, h.l0, h.o1.sl, h.l1⟩
/-- The same, at blocks from lo to below hi. -/
structure ROwn2 (lo hi : Nat) (w : World) (r : RV) (xs us : List Int) : Prop where
  o0 : Own2 lo hi w r.a xs
  l0 : xs.length = r.n
  o1 : Own2 lo hi w r.b us
  l1 : us.length = r.p
  dis : Dis r.a xs r.b us
theorem ROwn.two {lo : Nat} {w : World} {r : RV} {xs us : List Int} (h : ROwn lo w r xs us) : ROwn2 lo w.heap.size w r xs us := ⟨h.o0.two, h.l0, h.o1.two, h.l1, h.dis⟩
theorem ROwn2.later {lo hi : Nat} {w w' : World} {r : RV} {xs us : List Int} (h : ROwn2 lo hi w r xs us) (hb : Below w.heap.size w w') : ROwn2 lo hi w' r xs us := ⟨h.o0.later hb, h.l0, h.o1.later hb, h.l1, h.dis⟩
theorem ROwn2.but {lo hi lo' hi' : Nat} {w w' : World} {r : RV} {xs us : List Int} (h : ROwn2 lo hi w r xs us) (hb : But lo' hi' w w') (hd : hi ≤ lo' ∨ hi' ≤ lo) : ROwn2 lo hi w' r xs us := ⟨h.o0.but hb hd, h.l0, h.o1.but hb hd, h.l1, h.dis⟩
theorem ROwn2.sl {lo hi : Nat} {w : World} {r : RV} {xs us : List Int} (h : ROwn2 lo hi w r xs us) : RSl w r xs us := ⟨h.o0.sl, h.l0, h.o1.sl, h.l1⟩

set_option maxHeartbeats 1000000 in
theorem to_rat (r : RV) (xs us : List Int) (w : World) (hx : RSl w r xs us) (h1 : r.n ≤ 1048576) (h2 : r.p ≤ 1048576) :
    Calls Tryd.prog 12 #[.agg #[.bool r.g, .slice r.a r.n r.c, .bool r.h, .slice r.b r.p r.d]] w fun e w' => ∃ b b', e = .returned (.agg #[.bool r.g, .slice (some ⟨b, 0, none⟩) r.n r.n, .bool r.h, .slice (some ⟨b', 0, none⟩) r.p r.p]) ∧ Below w.heap.size w w' ∧ ROwn w.heap.size w' ⟨r.g, some ⟨b, 0, none⟩, r.n, r.n, r.h, some ⟨b', 0, none⟩, r.p, r.p⟩ xs us := by
  obtain ⟨g, a, n, c, h', b, p, d⟩ := r
  simp only at h1 h2 ⊢
  have HX := hide hx
  clear hx
  have B3 := hide (below_three w (.cells #[.bool g, .slice a n c, .bool h', .slice b p d] 33) (.cells #[.bool false, .slice none 0 0, .bool false, .slice none 0 0] 37) (.cells #[.bool false, .slice none 0 0, .bool false, .slice none 0 0] 37))
  go_enter Tryd.func12, Tryd.ntmps12
  go_wp2_with fail
  refine (to_any g a n c xs _ ((unhide HX).s0.later (Nat.le_refl _) (unhide B3)) (unhide HX).l0 h1).mono ?_
  rintro e w1 ⟨b1, rfl, hb1, hle1, own1⟩
  have hs1 : w.heap.size + 3 ≤ w1.heap.size := by have := hb1.size; simp at this; omega
  have o1 : Own (w.heap.size + 3) w1 (some ⟨b1, 0, none⟩) xs := (Own.of_owns own1 (unhide HX).l0).mono (by simp)
  have B1 : Below w.heap.size w w1 := (unhide B3).trans (hb1.mono (by simp <;> omega))
  have hl1 : b1 < w1.heap.size := by
    rcases own1.2 with ⟨h', _⟩ | ⟨g', cap', cur, h', _, hg, _⟩
    · simp at h'
    · simp only [Value.slice.injEq, Option.some.injEq, Addr.mk.injEq, and_true, true_and] at h'
      obtain ⟨rfl, rfl⟩ := h'
      exact (Array.getElem?_eq_some_iff.1 hg).1
  have y0 : w1.cell? ⟨w.heap.size, 2, none⟩ = some (.bool h') := cell_later hb1 (by simp [go_sem])
  have y1 : w1.cell? ⟨w.heap.size, 3, none⟩ = some (.slice b p d) := cell_later hb1 (by simp [go_sem])
  have q0 : w1.cell? ⟨w.heap.size + 1, 0, none⟩ = some (.bool false) := cell_later hb1 (by simp [go_sem])
  have q1 : w1.cell? ⟨w.heap.size + 1, 1, none⟩ = some (.slice none 0 0) := cell_later hb1 (by simp [go_sem])
  have q2 : w1.cell? ⟨w.heap.size + 1, 2, none⟩ = some (.bool false) := cell_later hb1 (by simp [go_sem])
  have q3 : w1.cell? ⟨w.heap.size + 1, 3, none⟩ = some (.slice none 0 0) := cell_later hb1 (by simp [go_sem])
  have r0 : w1.cell? ⟨w.heap.size + 1 + 1, 0, none⟩ = some (.bool false) := cell_later hb1 (by simp [go_sem])
  have r1 : w1.cell? ⟨w.heap.size + 1 + 1, 1, none⟩ = some (.slice none 0 0) := cell_later hb1 (by simp [go_sem])
  have r2 : w1.cell? ⟨w.heap.size + 1 + 1, 2, none⟩ = some (.bool false) := cell_later hb1 (by simp [go_sem])
  have r3 : w1.cell? ⟨w.heap.size + 1 + 1, 3, none⟩ = some (.slice none 0 0) := cell_later hb1 (by simp [go_sem])
  have f1 : ∀ o, w1.frozen? ⟨w.heap.size + 1, o, none⟩ = false := fun o => frozen_later hb1 (by simp) (by simp [go_sem])
  have f2 : ∀ o, w1.frozen? ⟨w.heap.size + 1 + 1, o, none⟩ = false := fun o => frozen_later hb1 (by simp) (by simp [go_sem])
  have O1 := hide o1
  have HB1 := hide B1
  clear own1 hb1 o1 B1
  go_wp2_with fail
  have B1' : Below w.heap.size w ((w1.setCell ⟨w.heap.size + 1 + 1, 0, none⟩ (.bool g)).setCell ⟨w.heap.size + 1 + 1, 1, none⟩ (.slice (some ⟨b1, 0, none⟩) n n)) := ((unhide HB1).setCell (by show w.heap.size ≤ w.heap.size + 1 + 1; omega) _).setCell (by show w.heap.size ≤ w.heap.size + 1 + 1; omega) _
  refine (to_any h' b p d us _ ((unhide HX).s1.later (Nat.le_refl _) B1') (unhide HX).l1 h2).mono ?_
  rintro e w2 ⟨b2, rfl, hb2, hle2, own2⟩
  have hsz : ((w1.setCell ⟨w.heap.size + 1 + 1, 0, none⟩ (.bool g)).setCell ⟨w.heap.size + 1 + 1, 1, none⟩ (.slice (some ⟨b1, 0, none⟩) n n)).heap.size = w1.heap.size := by simp [World.setCell]
  rw [hsz] at hle2
  have o2 : Own (w.heap.size + 3) w2 (some ⟨b2, 0, none⟩) us := (Own.of_owns own2 (unhide HX).l1).mono (by rw [hsz]; exact hs1)
  have o1 : Own (w.heap.size + 3) w2 (some ⟨b1, 0, none⟩) xs := (((unhide O1).set (p := ⟨w.heap.size + 1 + 1, 0, none⟩) (by show w.heap.size + 1 + 1 < w.heap.size + 3; omega) _).set (p := ⟨w.heap.size + 1 + 1, 1, none⟩) (by show w.heap.size + 1 + 1 < w.heap.size + 3; omega) _).later hb2
  have s0 : w2.cell? ⟨w.heap.size + 1 + 1, 0, none⟩ = some (.bool g) := cell_later hb2 (by simp [go_sem, r0, r1])
  have s1 : w2.cell? ⟨w.heap.size + 1 + 1, 1, none⟩ = some (.slice (some ⟨b1, 0, none⟩) n n) := cell_later hb2 (by simp [go_sem, r0, r1])
  have s2 : w2.cell? ⟨w.heap.size + 1 + 1, 2, none⟩ = some (.bool false) := cell_later hb2 (by simp [go_sem, r2])
  have s3 : w2.cell? ⟨w.heap.size + 1 + 1, 3, none⟩ = some (.slice none 0 0) := cell_later hb2 (by simp [go_sem, r3])
  have t0 : w2.cell? ⟨w.heap.size + 1, 0, none⟩ = some (.bool false) := cell_later hb2 (by simp [go_sem, q0])
  have t1 : w2.cell? ⟨w.heap.size + 1, 1, none⟩ = some (.slice none 0 0) := cell_later hb2 (by simp [go_sem, q1])
  have t2 : w2.cell? ⟨w.heap.size + 1, 2, none⟩ = some (.bool false) := cell_later hb2 (by simp [go_sem, q2])
  have t3 : w2.cell? ⟨w.heap.size + 1, 3, none⟩ = some (.slice none 0 0) := cell_later hb2 (by simp [go_sem, q3])
  have f3 : ∀ o, w2.frozen? ⟨w.heap.size + 1, o, none⟩ = false := fun o => frozen_later hb2 (by rw [hsz]; omega) (by simp [go_sem, f1])
  have f4 : ∀ o, w2.frozen? ⟨w.heap.size + 1 + 1, o, none⟩ = false := fun o => frozen_later hb2 (by rw [hsz]; omega) (by simp [go_sem, f2])
  have HO := hide (And.intro o1 o2)
  have HB2 := hide (below_on B1' hb2)
  have hne : b1 ≠ b2 := by omega
  clear own2 hb2 o1 o2 B1' y0 y1 q0 q1 q2 q3 r0 r1 r2 r3 f1 f2 O1 HB1 hsz hle2
  go_wp2
  have hlt : ∀ q : Nat, (w.heap.size ≤ w.heap.size + 1 + 1) ∧ (w.heap.size ≤ w.heap.size + 1) ∧ (w.heap.size + 1 + 1 < w.heap.size + 3) ∧ (w.heap.size + 1 < w.heap.size + 3) := fun _ => by omega
  refine bodyPost_ret (v := .agg #[.bool g, .slice (some ⟨b1, 0, none⟩) n n, .bool h', .slice (some ⟨b2, 0, none⟩) p p]) (by simp [results, Tryd.results12, go_sem, s0, s1, s2, s3, t0, t1, t2, t3]) rfl ⟨b1, b2, rfl, ?_, ?_⟩
  · refine ((((((unhide HB2).setCell ?_ _).setCell ?_ _).setCell ?_ _).setCell ?_ _).setCell ?_ _).setCell ?_ _ <;> simp <;> omega
  · have m1 : ∀ (zs : List Int) (a : Option Addr), Own (w.heap.size + 3) w2 a zs → Own w.heap.size ((((((w2.setCell ⟨w.heap.size + 1 + 1, 2, none⟩ (.bool h')).setCell ⟨w.heap.size + 1 + 1, 3, none⟩ (.slice (some ⟨b2, 0, none⟩) p p)).setCell ⟨w.heap.size + 1, 0, none⟩ (.bool g)).setCell ⟨w.heap.size + 1, 1, none⟩ (.slice (some ⟨b1, 0, none⟩) n n)).setCell ⟨w.heap.size + 1, 2, none⟩ (.bool h')).setCell ⟨w.heap.size + 1, 3, none⟩ (.slice (some ⟨b2, 0, none⟩) p p)) a zs := by
      intro zs a ho
      refine Own.mono ((((((ho.set (p := ⟨w.heap.size + 1 + 1, 2, none⟩) ?_ _).set (p := ⟨w.heap.size + 1 + 1, 3, none⟩) ?_ _).set (p := ⟨w.heap.size + 1, 0, none⟩) ?_ _).set (p := ⟨w.heap.size + 1, 1, none⟩) ?_ _).set (p := ⟨w.heap.size + 1, 2, none⟩) ?_ _).set (p := ⟨w.heap.size + 1, 3, none⟩) ?_ _) (by omega) <;> simp
    exact ⟨m1 _ _ (unhide HO).1, (unhide HX).l0, m1 _ _ (unhide HO).2, (unhide HX).l1, .inr (.inr ⟨b1, 0, b2, 0, rfl, rfl, hne⟩)⟩

theorem eq_rat (r r' : RV) (xs us : List Int) (w : World) (hx : RSl w r xs us) (hx' : RSl w r' xs us) (hg : r.g = r'.g) (hh : r.h = r'.h) (hm : r.n ≤ maxLen) (hm2 : r.p ≤ maxLen) :
    Calls Tryd.prog 14 #[.agg #[.bool r.g, .slice r.a r.n r.c, .bool r.h, .slice r.b r.p r.d], .agg #[.bool r'.g, .slice r'.a r'.n r'.c, .bool r'.h, .slice r'.b r'.p r'.d]] w fun e w' => e = .returned (.bool true) ∧ Below w.heap.size w w' := by
  obtain ⟨g, a, n, c, h', b, p, d⟩ := r
  obtain ⟨g2, a2, n2, c2, h2, b2, p2, d2⟩ := r'
  simp only at hg hh hm hm2 ⊢
  subst hg hh
  obtain rfl : n = n2 := hx.l0.symm.trans hx'.l0
  obtain rfl : p = p2 := hx.l1.symm.trans hx'.l1
  have HX := hide hx
  have HX' := hide hx'
  clear hx hx'
  have B2 := hide (below_two w (.cells #[.bool g, .slice a n c, .bool h', .slice b p d] 37) (.cells #[.bool g, .slice a2 n c2, .bool h', .slice b2 p d2] 37))
  go_enter Tryd.func14, Tryd.ntmps14
  go_wp2_with fail
  refine (eq_same g a a2 n c c2 xs _ ((unhide HX).s0.later (Nat.le_refl _) (unhide B2)) ((unhide HX').s0.later (Nat.le_refl _) (unhide B2)) (unhide HX).l0 hm).mono ?_
  rintro e w1 ⟨rfl, hb1⟩
  have x2 : w1.cell? ⟨w.heap.size, 2, none⟩ = some (.bool h') := cell_later hb1 (by simp [go_sem])
  have x3 : w1.cell? ⟨w.heap.size, 3, none⟩ = some (.slice b p d) := cell_later hb1 (by simp [go_sem])
  have y2 : w1.cell? ⟨w.heap.size + 1, 2, none⟩ = some (.bool h') := cell_later hb1 (by simp [go_sem])
  have y3 : w1.cell? ⟨w.heap.size + 1, 3, none⟩ = some (.slice b2 p d2) := cell_later hb1 (by simp [go_sem])
  have HB := hide (below_two' hb1)
  clear hb1
  go_wp2_with fail
  refine (eq_same h' b b2 p d d2 us _ ((unhide HX).s1.later (Nat.le_refl _) (unhide HB)) ((unhide HX').s1.later (Nat.le_refl _) (unhide HB)) (unhide HX).l1 hm2).mono ?_
  rintro e w2 ⟨rfl, hb2⟩
  have HB2 := hide (below_on (unhide HB) hb2)
  clear hb2
  go_wp2
  go_ret
  exact ⟨rfl, unhide HB2⟩
end Go.Proofs.YtnmoiokgjdoenaaDoor
