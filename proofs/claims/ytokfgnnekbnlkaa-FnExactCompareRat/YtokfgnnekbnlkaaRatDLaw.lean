/- The walk through the law FnExactCompareRat: it returns true. No condition beyond those typed. Written by mkratdlaw.py. -/
import Derived.Test.YtokfgnnekbnlkaaRatD
namespace Go.Proofs.Ytokfgnnekbnlkaa
open Go.RowKit
set_option linter.unusedVariables false
set_option maxRecDepth 100000
set_option linter.unusedSimpArgs false

def AnsK (P : Bool) (A B : Int) (x : Int) (ok : Bool) : Prop := (P = true ∧ ∃ ts us, Nm ts A.natAbs ∧ Nm us B.natAbs ∧ x = cmpB (decide (A < 0)) ts (decide (B < 0)) us ∧ ok = true) ∨ (P = false ∧ x = 0 ∧ ok = false)
theorem AnsK.same {P : Bool} {A B x x' : Int} {ok ok' : Bool} (h : AnsK P A B x ok) (k : AnsK P A B x' ok') : x = x' ∧ ok = ok' := by
  rcases h with ⟨p, ts, us, a, b, c, d⟩ | ⟨p, c, d⟩ <;> rcases k with ⟨p', ts', us', a', b', c', d'⟩ | ⟨p', c', d'⟩
  · rw [a.same a', b.same b'] at c; exact ⟨c.trans c'.symm, d.trans d'.symm⟩
  · rw [p] at p'; cases p'
  · rw [p] at p'; cases p'
  · exact ⟨c.trans c'.symm, d.trans d'.symm⟩
theorem OutK.ans {w w' : World} {P : Bool} {A B : Int} {e : Ending} (h : OutK w P A B e w') : ∃ x ok, e = .returned (.tuple #[.int .i64 x, .bool ok]) ∧ Below w.heap.size w w' ∧ AnsK P A B x ok := by
  obtain ⟨hb, ⟨p, ts, us, a, b, e⟩ | ⟨p, e⟩⟩ := h
  · exact ⟨_, _, e, hb, .inl ⟨p, ts, us, a, b, rfl, rfl⟩⟩
  · exact ⟨_, _, e, hb, .inr ⟨p, rfl, rfl⟩⟩

theorem to_rat2 (r : RV) (xs us : List Int) (w : World) (hx : RSl w r xs us) (h1 : r.n ≤ 1048576) (h2 : r.p ≤ 1048576) :
    Calls Try.prog 16 #[.agg #[.bool r.g, .slice r.a r.n r.c, .bool r.h, .slice r.b r.p r.d]] w fun e w' => ∃ r2 : RV, e = .returned (.agg #[.bool r2.g, .slice r2.a r2.n r2.c, .bool r2.h, .slice r2.b r2.p r2.d]) ∧ Below w.heap.size w w' ∧ r2.g = r.g ∧ r2.h = r.h ∧ ROwn w.heap.size w' r2 xs us ∧ Arg w' r2.a r2.n r2.c xs ∧ Arg w' r2.b r2.p r2.d us := by
  refine (to_rat r xs us w hx h1 h2).mono ?_
  rintro e w' ⟨b, b', rfl, hb, ho⟩
  exact ⟨⟨r.g, some ⟨b, 0, none⟩, r.n, r.n, r.h, some ⟨b', 0, none⟩, r.p, r.p⟩, rfl, hb, rfl, rfl, ho, ⟨ho.o0.sl, ho.l0, Nat.le_refl _, (show r.n ≤ maxLen by unfold maxLen; omega), .inr ⟨_, _, rfl⟩⟩, ⟨ho.o1.sl, ho.l1, Nat.le_refl _, (show r.p ≤ maxLen by unfold maxLen; omega), .inr ⟨_, _, rfl⟩⟩⟩

/-- A world behind the boxes of two fractions. -/
structure RTwo (w wx : World) (r : RV) (xs us : List Int) (r' : RV) (ys vs : List Int) : Prop where
  bel : Below w.heap.size w wx
  x0 : wx.cell? ⟨w.heap.size, 0, none⟩ = some (.bool r.g)
  x1 : wx.cell? ⟨w.heap.size, 1, none⟩ = some (.slice r.a r.n r.c)
  x2 : wx.cell? ⟨w.heap.size, 2, none⟩ = some (.bool r.h)
  x3 : wx.cell? ⟨w.heap.size, 3, none⟩ = some (.slice r.b r.p r.d)
  y0 : wx.cell? ⟨w.heap.size + 1, 0, none⟩ = some (.bool r'.g)
  y1 : wx.cell? ⟨w.heap.size + 1, 1, none⟩ = some (.slice r'.a r'.n r'.c)
  y2 : wx.cell? ⟨w.heap.size + 1, 2, none⟩ = some (.bool r'.h)
  y3 : wx.cell? ⟨w.heap.size + 1, 3, none⟩ = some (.slice r'.b r'.p r'.d)
  sx : RSl wx r xs us
  sy : RSl wx r' ys vs
theorem RTwo.later {w wx wy : World} {r r' : RV} {xs us ys vs : List Int} (h : RTwo w wx r xs us r' ys vs) (hb : Below wx.heap.size wx wy) : RTwo w wy r xs us r' ys vs :=
  ⟨below_on h.bel hb, cell_later hb h.x0, cell_later hb h.x1, cell_later hb h.x2, cell_later hb h.x3, cell_later hb h.y0, cell_later hb h.y1, cell_later hb h.y2, cell_later hb h.y3, h.sx.later hb, h.sy.later hb⟩
theorem RTwo.start (w : World) (r r' : RV) (xs us ys vs : List Int) (t t' : TypeId) (hx : RSl w r xs us) (hy : RSl w r' ys vs) :
    RTwo w ((w.alloc (.cells #[.bool r.g, .slice r.a r.n r.c, .bool r.h, .slice r.b r.p r.d] t)).alloc (.cells #[.bool r'.g, .slice r'.a r'.n r'.c, .bool r'.h, .slice r'.b r'.p r'.d] t')) r xs us r' ys vs := by
  have hb := below_two w (.cells #[.bool r.g, .slice r.a r.n r.c, .bool r.h, .slice r.b r.p r.d] t) (.cells #[.bool r'.g, .slice r'.a r'.n r'.c, .bool r'.h, .slice r'.b r'.p r'.d] t')
  exact ⟨hb, by simp [go_sem], by simp [go_sem], by simp [go_sem], by simp [go_sem], by simp [go_sem], by simp [go_sem], by simp [go_sem], by simp [go_sem], hx.later hb, hy.later hb⟩
/-- A fraction in a box at block G. -/
structure RBox (wx : World) (G : Nat) (r : RV) (xs us : List Int) : Prop where
  c0 : wx.cell? ⟨G, 0, none⟩ = some (.bool r.g)
  c1 : wx.cell? ⟨G, 1, none⟩ = some (.slice r.a r.n r.c)
  c2 : wx.cell? ⟨G, 2, none⟩ = some (.bool r.h)
  c3 : wx.cell? ⟨G, 3, none⟩ = some (.slice r.b r.p r.d)
  s : RSl wx r xs us
theorem RBox.later {wx wy : World} {G : Nat} {r : RV} {xs us : List Int} (h : RBox wx G r xs us) (hb : Below wx.heap.size wx wy) : RBox wy G r xs us := ⟨cell_later hb h.c0, cell_later hb h.c1, cell_later hb h.c2, cell_later hb h.c3, h.s.later hb⟩
theorem RBox.start {wx : World} {r : RV} {xs us : List Int} (t : TypeId) (h : RSl wx r xs us) : RBox (wx.alloc (.cells #[.bool r.g, .slice r.a r.n r.c, .bool r.h, .slice r.b r.p r.d] t)) wx.heap.size r xs us :=
  ⟨by simp [go_sem], by simp [go_sem], by simp [go_sem], by simp [go_sem], h.later ((Below.refl _ _).alloc (Nat.le_refl _) _)⟩

set_option maxHeartbeats 1000000 in
theorem lawCmpR_out1 (r r' : RV) (w : World) (hm : r.n ≤ maxLen) (hm2 : r.p ≤ maxLen) (h : 1048576 < r.n + r.p) :
    Calls Try.prog 5 #[.agg #[.bool r.g, .slice r.a r.n r.c, .bool r.h, .slice r.b r.p r.d], .agg #[.bool r'.g, .slice r'.a r'.n r'.c, .bool r'.h, .slice r'.b r'.p r'.d]] w fun e w' => e = .returned (.bool true) ∧ Below w.heap.size w w' := by
  go_enter Try.func5, Try.ntmps5
  go_wp2_with fail
  refine (szR_out r _ _ (by omega) (by omega) hm hm2 (by omega)).mono ?_
  rintro e w1 ⟨rfl, hb⟩
  have HB := hide (below_two' hb)
  clear hb
  go_wp2
  go_ret
  exact ⟨rfl, unhide HB⟩
set_option maxHeartbeats 1000000 in
theorem lawCmpR_out2 (r r' : RV) (w : World) (hm : r'.n ≤ maxLen) (hm2 : r'.p ≤ maxLen) (h1 : r.n + r.p ≤ 1048576) (h : 1048576 < r.n + r.p + (r'.n + r'.p)) :
    Calls Try.prog 5 #[.agg #[.bool r.g, .slice r.a r.n r.c, .bool r.h, .slice r.b r.p r.d], .agg #[.bool r'.g, .slice r'.a r'.n r'.c, .bool r'.h, .slice r'.b r'.p r'.d]] w fun e w' => e = .returned (.bool true) ∧ Below w.heap.size w w' := by
  have hd : ¬ ((1048576 : Int) - (r.n : Int) - (r.p : Int) < 0) := by omega
  go_enter Try.func5, Try.ntmps5
  go_wp2_with fail
  refine (szR_in r _ _ (by omega) (by omega) (by omega)).mono ?_
  rintro e w1 ⟨rfl, hb⟩
  have y0 : w1.cell? ⟨w.heap.size + 1, 0, none⟩ = some (.bool r'.g) := cell_later hb (by simp [go_sem])
  have y1 : w1.cell? ⟨w.heap.size + 1, 1, none⟩ = some (.slice r'.a r'.n r'.c) := cell_later hb (by simp [go_sem])
  have y2 : w1.cell? ⟨w.heap.size + 1, 2, none⟩ = some (.bool r'.h) := cell_later hb (by simp [go_sem])
  have y3 : w1.cell? ⟨w.heap.size + 1, 3, none⟩ = some (.slice r'.b r'.p r'.d) := cell_later hb (by simp [go_sem])
  have HB := hide (below_two' hb)
  clear hb
  go_wp2_with fail
  refine (szR_out r' _ w1 (by omega) (by omega) hm hm2 (by omega)).mono ?_
  rintro e w2 ⟨rfl, hb2⟩
  have HB2 := hide (below_on (unhide HB) hb2)
  clear hb2
  go_wp2
  go_ret
  exact ⟨rfl, unhide HB2⟩

set_option maxHeartbeats 8000000 in
theorem lawCmpR_in (r r' : RV) (xs us ys vs : List Int) (w : World) (hx : RSl w r xs us) (hy : RSl w r' ys vs) (h : r.n + r.p + (r'.n + r'.p) ≤ 1048576) :
    Calls Try.prog 5 #[.agg #[.bool r.g, .slice r.a r.n r.c, .bool r.h, .slice r.b r.p r.d], .agg #[.bool r'.g, .slice r'.a r'.n r'.c, .bool r'.h, .slice r'.b r'.p r'.d]] w fun e w' => e = .returned (.bool true) ∧ Below w.heap.size w w' := by
  have HX := hide hx
  have HY := hide hy
  clear hx hy
  have TX := hide (fun w1 (k : RSl w1 r xs us) => to_rat2 r xs us w1 k (by omega) (by omega))
  have TY := hide (fun w1 (k : RSl w1 r' ys vs) => to_rat2 r' ys vs w1 k (by omega) (by omega))
  obtain ⟨P, HP⟩ : ∃ P, Hid (P = (goodR r.g xs r.h us && goodR r'.g ys r'.h vs)) := ⟨_, hide rfl⟩
  obtain ⟨A, HA⟩ : ∃ A, Hid (A = sv r.g xs * sv r'.h vs) := ⟨_, hide rfl⟩
  obtain ⟨B, HB⟩ : ∃ B, Hid (B = sv r'.g ys * sv r.h us) := ⟨_, hide rfl⟩
  have CS : Hid (∀ (q q' : RV) w, q.g = r.g → q.h = r.h → q'.g = r'.g → q'.h = r'.h → Arg w q.a q.n q.c xs → Arg w q.b q.p q.d us → Arg w q'.a q'.n q'.c ys → Arg w q'.b q'.p q'.d vs → Calls Try.prog 23 #[.agg #[.bool q.g, .slice q.a q.n q.c, .bool q.h, .slice q.b q.p q.d], .agg #[.bool q'.g, .slice q'.a q'.n q'.c, .bool q'.h, .slice q'.b q'.p q'.d]] w (OutK w P A B)) := hide (fun q q' w e1 e2 e3 e4 k1 k2 k3 k4 => by rw [unhide HP, unhide HA, unhide HB, ← e1, ← e2, ← e3, ← e4]; exact CompareRS_any q q' xs us ys vs w k1 k2 k3 k4)
  have CI : Hid (∀ (q q' : RV) w, q.g = r.g → q.h = r.h → q'.g = r'.g → q'.h = r'.h → Arg w q.a q.n q.c xs → Arg w q.b q.p q.d us → Arg w q'.a q'.n q'.c ys → Arg w q'.b q'.p q'.d vs → Calls Try.prog 24 #[.agg #[.bool q.g, .slice q.a q.n q.c, .bool q.h, .slice q.b q.p q.d], .agg #[.bool q'.g, .slice q'.a q'.n q'.c, .bool q'.h, .slice q'.b q'.p q'.d]] w (OutK w P A B)) := hide (fun q q' w e1 e2 e3 e4 k1 k2 k3 k4 => by rw [unhide HP, unhide HA, unhide HB, ← e1, ← e2, ← e3, ← e4]; exact CompareRI_any q q' xs us ys vs w k1 k2 k3 k4)
  clear HP HA HB
  have hmx : r.n ≤ maxLen ∧ r.p ≤ maxLen ∧ r'.n ≤ maxLen ∧ r'.p ≤ maxLen := by unfold maxLen; omega
  obtain ⟨m1, m2, m3, m4⟩ := hmx
  have hd1 : ¬ ((1048576 : Int) - (r.n : Int) - (r.p : Int) < 0) := by omega
  have hd2 : ¬ ((1048576 : Int) - (r.n : Int) - (r.p : Int) - (r'.n : Int) - (r'.p : Int) < 0) := by omega
  go_enter Try.func5, Try.ntmps5
  go_wp2_with fail
  refine (szR_in r _ _ (by omega) (by omega) (by omega)).mono ?_
  rintro e w1 ⟨rfl, hb1⟩
  have T1 := hide ((RTwo.start w r r' xs us ys vs 26 26 (unhide HX) (unhide HY)).later hb1)
  have y0 := (unhide T1).y0
  have y1 := (unhide T1).y1
  have y2 := (unhide T1).y2
  have y3 := (unhide T1).y3
  clear hb1
  go_wp2_with fail
  refine (szR_in r' _ w1 (by omega) (by omega) (by omega)).mono ?_
  rintro e w2 ⟨rfl, hb2⟩
  have T2 := hide ((unhide T1).later hb2)
  clear hb2 y0 y1 y2 y3 T1
  go_upto_region 8 with fail
  go_cut [6, 7] (fun c1 c2 wx => ∃ x ok, c1 = .int .i64 x ∧ c2 = .bool ok ∧ Hid (AnsK P A B x ok) ∧ Hid (RTwo w wx r xs us r' ys vs))
  case first =>
    have x0 := (unhide T2).x0
    have x1 := (unhide T2).x1
    have x2 := (unhide T2).x2
    have x3 := (unhide T2).x3
    have y0 := (unhide T2).y0
    have y1 := (unhide T2).y1
    have y2 := (unhide T2).y2
    have y3 := (unhide T2).y3
    go_region_held3 (fun w' => w'.cell? ⟨w.heap.size, 0, none⟩ = some (.bool r.g) ∧ w'.cell? ⟨w.heap.size, 1, none⟩ = some (.slice r.a r.n r.c) ∧ w'.cell? ⟨w.heap.size, 2, none⟩ = some (.bool r.h) ∧ w'.cell? ⟨w.heap.size, 3, none⟩ = some (.slice r.b r.p r.d) ∧ w'.cell? ⟨w.heap.size + 1, 0, none⟩ = some (.bool r'.g) ∧ w'.cell? ⟨w.heap.size + 1, 1, none⟩ = some (.slice r'.a r'.n r'.c) ∧ w'.cell? ⟨w.heap.size + 1, 2, none⟩ = some (.bool r'.h) ∧ w'.cell? ⟨w.heap.size + 1, 3, none⟩ = some (.slice r'.b r'.p r'.d)) (refine ⟨?_, ?_, ?_, ?_, ?_, ?_, ?_, ?_⟩ <;> assumption)
      (first
      | (go_at_call_of 16 (Value.agg #[Value.bool r.g, Value.slice r.a r.n r.c, Value.bool r.h, Value.slice r.b r.p r.d]); refine (unhide TX _ ?_).mono ?_; exact (unhide T2).sx.drew; rintro e w3 ⟨q, rfl, hb3, e1, e2, own3, k1, k2⟩; have T3 := hide ((unhide T2).later (below_of_drew hb3)); have u0 := (unhide T3).x0; have u1 := (unhide T3).x1; have u2 := (unhide T3).x2; have u3 := (unhide T3).x3; have z0 := (unhide T3).y0; have z1 := (unhide T3).y1; have z2 := (unhide T3).y2; have z3 := (unhide T3).y3; have S3 := hide (And.intro e1 (And.intro e2 (And.intro k1 k2))); clear hb3 own3 e1 e2 k1 k2)
      | (go_at_call_of 16 (Value.agg #[Value.bool r'.g, Value.slice r'.a r'.n r'.c, Value.bool r'.h, Value.slice r'.b r'.p r'.d]); refine (unhide TY _ ?_).mono ?_; exact (unhide T3).sy; rintro e w4 ⟨q', rfl, hb4, e3, e4, own4, k3, k4⟩; have T4 := hide ((unhide T3).later hb4); have f0 := (unhide T4).x0; have f1 := (unhide T4).x1; have f2 := (unhide T4).x2; have f3 := (unhide T4).x3; have g0 := (unhide T4).y0; have g1 := (unhide T4).y1; have g2 := (unhide T4).y2; have g3 := (unhide T4).y3; have S3' := hide (And.intro ((unhide S3).2.2.1.later hb4) ((unhide S3).2.2.2.later hb4)); have S4 := hide (And.intro e3 (And.intro e4 (And.intro k3 k4))); clear hb4 own4 e3 e4 k3 k4)
      | (go_at_call 23; refine (unhide CS q q' _ (unhide S3).1 (unhide S3).2.1 (unhide S4).1 (unhide S4).2.1 (unhide S3').1 (unhide S3').2 (unhide S4).2.2.1 (unhide S4).2.2.2).mono ?_; rintro e w5 hk; obtain ⟨x, ok, rfl, hb5, hans⟩ := hk.ans; have T5 := hide ((unhide T4).later hb5); have i0 := (unhide T5).x0; have i1 := (unhide T5).x1; have i2 := (unhide T5).x2; have i3 := (unhide T5).x3; have j0 := (unhide T5).y0; have j1 := (unhide T5).y1; have j2 := (unhide T5).y2; have j3 := (unhide T5).y3; have AN := hide hans; clear hb5 hans hk))
    all_goals
      go_wp2_with fail
      go_meet
      exact ⟨x, ok, rfl, rfl, AN, T5⟩
  case rest =>
    obtain ⟨x, ok, rfl, rfl, AN, T3⟩ := hcut
    have x0 := (unhide T3).x0
    have x1 := (unhide T3).x1
    have x2 := (unhide T3).x2
    have x3 := (unhide T3).x3
    clear T2
    go_wp2_with fail
    refine (unhide TX wc (unhide T3).sx).mono ?_
    rintro e w3 ⟨q, rfl, hb3, e1, e2, own3, k1, k2⟩
    have BX := hide (RBox.start (r := q) 31 own3.sl)
    have al3 : Below w3.heap.size w3 (w3.alloc (.cells #[.bool q.g, .slice q.a q.n q.c, .bool q.h, .slice q.b q.p q.d] 31)) := (Below.refl _ _).alloc (Nat.le_refl _) _
    have T4 := hide (((unhide T3).later hb3).later al3)
    have S3 := hide (And.intro e1 (And.intro e2 (And.intro (k1.later al3) (k2.later al3))))
    have y0 := (unhide T4).y0
    have y1 := (unhide T4).y1
    have y2 := (unhide T4).y2
    have y3 := (unhide T4).y3
    clear hb3 own3 T3 x0 x1 x2 x3 e1 e2 k1 k2 al3
    go_wp2_with fail
    refine (unhide TY _ (unhide T4).sy).mono ?_
    rintro e w4 ⟨q', rfl, hb4, e3, e4, own4, k3, k4⟩
    have BY := hide (RBox.start (r := q') 31 own4.sl)
    have al4 : Below w4.heap.size w4 (w4.alloc (.cells #[.bool q'.g, .slice q'.a q'.n q'.c, .bool q'.h, .slice q'.b q'.p q'.d] 31)) := (Below.refl _ _).alloc (Nat.le_refl _) _
    have T5 := hide (((unhide T4).later hb4).later al4)
    have BX2 := hide (((unhide BX).later hb4).later al4)
    have S3' := hide (And.intro (((unhide S3).2.2.1.later hb4).later al4) (((unhide S3).2.2.2.later hb4).later al4))
    have S4 := hide (And.intro e3 (And.intro e4 (And.intro (k3.later al4) (k4.later al4))))
    have p0 := (unhide BX2).c0
    have p1 := (unhide BX2).c1
    have p2 := (unhide BX2).c2
    have p3 := (unhide BX2).c3
    clear hb4 own4 T4 BX y0 y1 y2 y3 e3 e4 k3 k4 al4
    go_wp2_with fail
    refine (unhide CI q q' _ (unhide S3).1 (unhide S3).2.1 (unhide S4).1 (unhide S4).2.1 (unhide S3').1 (unhide S3').2 (unhide S4).2.2.1 (unhide S4).2.2.2).mono ?_
    rintro e w5 hk
    obtain ⟨x', ok', rfl, hb5, hans⟩ := hk.ans
    obtain ⟨rfl, rfl⟩ := (unhide AN).same hans
    have T6 := hide ((unhide T5).later hb5)
    have PX := hide ((unhide BX2).later hb5)
    have PY := hide ((unhide BY).later hb5)
    have EQ := hide (And.intro (unhide S3).1 (And.intro (unhide S3).2.1 (And.intro (unhide S4).1 (unhide S4).2.1)))
    clear hb5 T5 BX2 BY p0 p1 p2 p3 hk hans S3 S3' S4 AN
    generalize w3.heap.size = GX at *
    generalize w4.heap.size = GY at *
    go_upto_region 14 with fail
    go_cut [52] (fun c1 wx => c1 = .bool false ∧ Hid (RTwo w wx r xs us r' ys vs) ∧ Hid (RBox wx GY q' ys vs))
    case first =>
      have x0 := (unhide T6).x0
      have x1 := (unhide T6).x1
      have x2 := (unhide T6).x2
      have x3 := (unhide T6).x3
      have p0 := (unhide PX).c0
      have p1 := (unhide PX).c1
      have p2 := (unhide PX).c2
      have p3 := (unhide PX).c3
      go_region_held3 (fun w' => w'.cell? ⟨w.heap.size, 0, none⟩ = some (.bool r.g) ∧ w'.cell? ⟨w.heap.size, 1, none⟩ = some (.slice r.a r.n r.c) ∧ w'.cell? ⟨w.heap.size, 2, none⟩ = some (.bool r.h) ∧ w'.cell? ⟨w.heap.size, 3, none⟩ = some (.slice r.b r.p r.d) ∧ w'.cell? ⟨GX, 0, none⟩ = some (.bool q.g) ∧ w'.cell? ⟨GX, 1, none⟩ = some (.slice q.a q.n q.c) ∧ w'.cell? ⟨GX, 2, none⟩ = some (.bool q.h) ∧ w'.cell? ⟨GX, 3, none⟩ = some (.slice q.b q.p q.d)) (refine ⟨?_, ?_, ?_, ?_, ?_, ?_, ?_, ?_⟩ <;> assumption)
        (first
        | (go_at_call 16; refine (unhide TX _ ?_).mono ?_; exact (unhide T6).sx.drew; rintro e w6 ⟨q6, rfl, hb6', e1, e2, own6, k1, k2⟩; have hb6 := below_of_drew hb6'; have T7 := hide ((unhide T6).later hb6); have QX := hide ((unhide PX).later hb6); have QY := hide ((unhide PY).later hb6); have u0 := (unhide T7).x0; have u1 := (unhide T7).x1; have u2 := (unhide T7).x2; have u3 := (unhide T7).x3; have z0 := (unhide QX).c0; have z1 := (unhide QX).c1; have z2 := (unhide QX).c2; have z3 := (unhide QX).c3; have S6 := hide (And.intro e1 (And.intro e2 own6.sl)); clear hb6 hb6' own6 e1 e2 k1 k2)
        | (go_at_call 18; refine (eq_rat q q6 xs us _ (unhide QX).s (unhide S6).2.2 ((unhide EQ).1.trans (unhide S6).1.symm) ((unhide EQ).2.1.trans (unhide S6).2.1.symm) (by rw [← (unhide QX).s.l0, (unhide HX).l0]; exact m1) (by rw [← (unhide QX).s.l1, (unhide HX).l1]; exact m2)).mono ?_; rintro e w7 ⟨rfl, hb7⟩; have T8 := hide ((unhide T7).later hb7); have RX := hide ((unhide QX).later hb7); have RY := hide ((unhide QY).later hb7); have f0 := (unhide T8).x0; have f1 := (unhide T8).x1; have f2 := (unhide T8).x2; have f3 := (unhide T8).x3; have g0 := (unhide RX).c0; have g1 := (unhide RX).c1; have g2 := (unhide RX).c2; have g3 := (unhide RX).c3; clear hb7))
      all_goals
        go_wp2_with fail
        go_meet
        exact ⟨rfl, T8, RY⟩
    case rest =>
      obtain ⟨rfl, T7, QY⟩ := hcut
      clear T6 PX PY
      go_upto_region 16 with fail
      have x0 := (unhide T7).y0
      have x1 := (unhide T7).y1
      have x2 := (unhide T7).y2
      have x3 := (unhide T7).y3
      have p0 := (unhide QY).c0
      have p1 := (unhide QY).c1
      have p2 := (unhide QY).c2
      have p3 := (unhide QY).c3
      go_region_held3 (fun w' => w'.cell? ⟨w.heap.size + 1, 0, none⟩ = some (.bool r'.g) ∧ w'.cell? ⟨w.heap.size + 1, 1, none⟩ = some (.slice r'.a r'.n r'.c) ∧ w'.cell? ⟨w.heap.size + 1, 2, none⟩ = some (.bool r'.h) ∧ w'.cell? ⟨w.heap.size + 1, 3, none⟩ = some (.slice r'.b r'.p r'.d) ∧ w'.cell? ⟨GY, 0, none⟩ = some (.bool q'.g) ∧ w'.cell? ⟨GY, 1, none⟩ = some (.slice q'.a q'.n q'.c) ∧ w'.cell? ⟨GY, 2, none⟩ = some (.bool q'.h) ∧ w'.cell? ⟨GY, 3, none⟩ = some (.slice q'.b q'.p q'.d)) (refine ⟨?_, ?_, ?_, ?_, ?_, ?_, ?_, ?_⟩ <;> assumption)
        (first
        | (go_at_call 16; refine (unhide TY _ ?_).mono ?_; exact (unhide T7).sy.drew; rintro e w8 ⟨q8, rfl, hb8', e1, e2, own8, k1, k2⟩; have hb8 := below_of_drew hb8'; have T9 := hide ((unhide T7).later hb8); have RY := hide ((unhide QY).later hb8); have u0 := (unhide T9).y0; have u1 := (unhide T9).y1; have u2 := (unhide T9).y2; have u3 := (unhide T9).y3; have z0 := (unhide RY).c0; have z1 := (unhide RY).c1; have z2 := (unhide RY).c2; have z3 := (unhide RY).c3; have S8 := hide (And.intro e1 (And.intro e2 own8.sl)); clear hb8 hb8' own8 e1 e2 k1 k2)
        | (go_at_call 18; refine (eq_rat q' q8 ys vs _ (unhide RY).s (unhide S8).2.2 ((unhide EQ).2.2.1.trans (unhide S8).1.symm) ((unhide EQ).2.2.2.trans (unhide S8).2.1.symm) (by rw [← (unhide RY).s.l0, (unhide HY).l0]; exact m3) (by rw [← (unhide RY).s.l1, (unhide HY).l1]; exact m4)).mono ?_; rintro e w9 ⟨rfl, hb9⟩; have TA := hide ((unhide T9).later hb9); have RZ := hide ((unhide RY).later hb9); have f0 := (unhide TA).y0; have f1 := (unhide TA).y1; have f2 := (unhide TA).y2; have f3 := (unhide TA).y3; have g0 := (unhide RZ).c0; have g1 := (unhide RZ).c1; have g2 := (unhide RZ).c2; have g3 := (unhide RZ).c3; clear hb9))
      all_goals go_wp2
      all_goals go_ret
      all_goals exact ⟨rfl, (unhide TA).bel⟩

theorem lawCmpR_walk (r r' : RV) (xs us ys vs : List Int) (w : World) (hx : RSl w r xs us) (hy : RSl w r' ys vs) (m1 : r.n ≤ maxLen) (m2 : r.p ≤ maxLen) (m3 : r'.n ≤ maxLen) (m4 : r'.p ≤ maxLen) :
    Calls Try.prog 5 #[.agg #[.bool r.g, .slice r.a r.n r.c, .bool r.h, .slice r.b r.p r.d], .agg #[.bool r'.g, .slice r'.a r'.n r'.c, .bool r'.h, .slice r'.b r'.p r'.d]] w fun e w' => e = .returned (.bool true) ∧ Below w.heap.size w w' := by
  by_cases h1 : r.n + r.p ≤ 1048576
  · by_cases h2 : r.n + r.p + (r'.n + r'.p) ≤ 1048576
    · exact lawCmpR_in r r' xs us ys vs w hx hy h2
    · exact lawCmpR_out2 r r' w m3 m4 h1 (by omega)
  · exact lawCmpR_out1 r r' w m1 m2 (by omega)
end Go.Proofs.Ytokfgnnekbnlkaa
