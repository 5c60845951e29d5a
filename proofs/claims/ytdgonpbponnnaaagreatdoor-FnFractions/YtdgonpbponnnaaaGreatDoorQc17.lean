/- A fraction as it is drawn. No condition beyond those typed. By hand. -/
import Derived.Test.YtdgonpbponnnaaaGreatDoorQb17
import Derived.Test.YtdgonpbponnnaaaGreatDoorCurD
namespace Go.Proofs.YtdgonpbponnnaaaGreatDoor
open Go.RowKit
set_option linter.unusedVariables false
set_option maxRecDepth 100000
set_option linter.unusedSimpArgs false
namespace Aq

/-- A fraction's box that a draw fills, as it is at first. -/
structure Zq (w : World) (G : Nat) : Prop where
  c0 : w.cell? ⟨G, 0, none⟩ = some (.bool false)
  c1 : w.cell? ⟨G, 1, none⟩ = some (.slice none 0 0)
  c2 : w.cell? ⟨G, 2, none⟩ = some (.bool false)
  c3 : w.cell? ⟨G, 3, none⟩ = some (.slice none 0 0)
  fz : ∀ o, w.frozen? ⟨G, o, none⟩ = false
theorem Zq.new {w : World} {t : TypeId} : Zq (w.alloc (.cells #[.bool false, .slice none 0 0, .bool false, .slice none 0 0] t)) w.heap.size := ⟨by simp [go_sem], by simp [go_sem], by simp [go_sem], by simp [go_sem], fun o => by simp [go_sem]⟩
theorem Zq.keep {w w' : World} {G lo hi : Nat} (h : Zq w G) (hb : But lo hi w w') (hg : G < lo ∨ hi ≤ G) : Zq w' G := ⟨hb.cell h.c0 hg, hb.cell h.c1 hg, hb.cell h.c2 hg, hb.cell h.c3 hg, fun o => hb.fz (h.fz o) (World.block_lt_of_cell? _ _ h.c0) hg⟩
theorem Zq.later {w w' : World} {G : Nat} (h : Zq w G) (hb : Below w.heap.size w w') : Zq w' G := h.keep (But.of_below (lo := G + 1) (hi := G + 1) hb) (.inl (Nat.lt_succ_self _))
/-- What the draw of a fraction keeps on its way. -/
structure BqI (C T : Nat) (w : World) (R : Nat) (wr : World) : Prop where
  cur : Cur C T wr
  but : But C (C + 1) w wr
  res : Zq wr R
theorem BqI.step {C T T' R : Nat} {w wr w' : World} (h : BqI C T w R wr) (hc : Cur C T' w') (hb : But C (C + 1) wr w') (hR : C < R) : BqI C T' w R w' := ⟨hc, h.but.trans hb, h.res.keep hb (.inr hR)⟩
theorem BqI.later {C T R : Nat} {w wr w' : World} (h : BqI C T w R wr) (hb : Below wr.heap.size wr w') : BqI C T w R w' := ⟨h.cur.later hb, h.but.trans (But.of_below hb), h.res.later hb⟩
theorem BqI.al {C T R : Nat} {w wr : World} (h : BqI C T w R wr) (o : Obj) : BqI C T w R (wr.alloc o) := h.later ((Below.refl _ _).alloc (Nat.le_refl _) o)
theorem AllOA.al {lo hi : Nat} {w : World} {l : List (BV × BD)} (h : AllOA lo hi w l) (o : Obj) : AllOA lo hi (w.alloc o) l := h.later ((Below.refl _ _).alloc (Nat.le_refl _) o)
/-- What a draw hands out: a fraction's cells in new memory; all else but the cursor stays. -/
def OutRt (C T : Nat) (w : World) (e : Ending) (w' : World) : Prop := ∃ (v : QV) (d : QD), e = .returned (.agg #[.bool v.num.g, .slice v.num.a v.num.n v.num.c, .bool v.den.g, .slice v.den.a v.den.n v.den.c]) ∧ AllOA w.heap.size w'.heap.size w' [(v.num, d.num), (v.den, d.den)] ∧ Cur C T w' ∧ But C (C + 1) w w'
theorem rt_fin {C T T' hi : Nat} {w W W' : World} {v : QV} {d : QD} (ho : AllOA (w.heap.size + 1) hi W [(v.num, d.num), (v.den, d.den)]) (hh : hi ≤ W.heap.size) (h4 : BqI C T w w.heap.size W) (hT : T ≤ T') (hC : C < w.heap.size) (bt : But w.heap.size (w.heap.size + 1) W W') :
    OutRt C T' w (.returned (.agg #[.bool v.num.g, .slice v.num.a v.num.n v.num.c, .bool v.den.g, .slice v.den.a v.den.n v.den.c])) W' := by
  have hb : Below w.heap.size W W' := bt.below (Below.refl _ _) (Nat.le_refl _) h4.but.size
  exact ⟨v, d, rfl, (ho.but bt (.inr (Nat.le_refl _))).wide (by omega) (Nat.le_trans hh bt.size), (h4.cur.below hb hC).mono hT, ⟨hb.os.trans h4.but.os, hb.tape.trans h4.but.tape, hb.output.trans h4.but.output, Nat.le_trans h4.but.size hb.size, fun k hk hj => (hb.block k hk).trans (h4.but.block k hk hj)⟩⟩
theorem gdS17 (b : BV) (d : BD) (w : World) (h : AllAr w [(b, d)]) :
    Calls Tryz.prog 46 #[.agg #[.bool b.g, .slice b.a b.n b.c]] w fun e w' => e = .returned (.bool (goodB d.g d.xs)) ∧ Below w.heap.size w w' := by
  have k := goodS_any b.g b.a b.n b.c d.xs w h.head.ar.sl h.head.ar.len (Nat.le_trans h.head.ar.cap h.head.ar.top)
  rw [h.head.sg] at k
  rw [h.head.sg]
  exact k
set_option maxHeartbeats 8000000 in
theorem rat_v (C T : Nat) (w : World) (h : Cur C T w) (hT : T ≤ 900000) :
    Calls Tryz.prog 61 #[.pointer (some ⟨C, 0, none⟩)] w (OutRt C (T + 700) w) := by
  have hCw := h.lt
  have HC := hide h
  clear h
  have B0 : Hid (BqI C T w w.heap.size (w.alloc (.cells #[.bool false, .slice none 0 0, .bool false, .slice none 0 0] 27))) := hide ⟨(unhide HC).later ((Below.refl _ _).alloc (Nat.le_refl _) _), al_but _, Zq.new⟩
  go_enter Tryz.func61, Tryz.ntmps61
  go_wp2_with fail
  refine (one_v C T 12 _ (unhide B0).cur (by omega) (by omega)).mono ?_
  rintro e w1 ⟨o1, rfl, c1, b1⟩
  have B1 := hide ((unhide B0).step c1 b1 hCw)
  have s1 : w.heap.size + 1 ≤ w1.heap.size := by have := b1.size; simpa using this
  clear c1 b1 B0
  cases o1
  · go_wp2_with fail
    refine (pick_v C (T + 2) 41 _ (unhide B1).cur (by omega) (by omega)).mono ?_
    rintro e w2 ⟨x, rfl, x0, x1, x2, c1, b1⟩
    replace x1 := x1 (by omega)
    have B2 := hide ((unhide B1).step c1 b1 hCw)
    have s2 := b1.size
    clear c1 b1 B1
    have ex : wrap64 (x - 20) = x - 20 := by unfold wrap64; omega
    go_wp2_with fail
    refine (pick_v C (T + 4) 12 _ (unhide B2).cur (by omega) (by omega)).mono ?_
    rintro e w3 ⟨y, rfl, y0, y1, y2, c1, b1⟩
    replace y1 := y1 (by omega)
    have B3 := hide ((unhide B2).step c1 b1 hCw)
    have s3 := b1.size
    clear c1 b1 B2
    have ey : wrap64 (1 + y) = 1 + y := by unfold wrap64; omega
    go_wp2_with fail
    refine (RatOfRS (x - 20) (1 + y) _ (by omega) (by omega)).mono ?_
    rintro e w4 ⟨v, d, ok, rfl, hb, ov, hu⟩
    have B4 := hide (((unhide B3).later hb).al (.cells #[.bool v.num.g, .slice v.num.a v.num.n v.num.c, .bool v.den.g, .slice v.den.a v.den.n v.den.c] 27))
    have OV := hide (ov.al (.cells #[.bool v.num.g, .slice v.num.a v.num.n v.num.c, .bool v.den.g, .slice v.den.a v.den.n v.den.c] 27))
    have s4 := hb.size
    have r0 := (unhide B4).res.c0
    have r1 := (unhide B4).res.c1
    have r2 := (unhide B4).res.c2
    have r3 := (unhide B4).res.c3
    have rf := (unhide B4).res.fz
    clear hb ov hu B3 ex ey x0 x1 x2 y0 y1 y2
    go_wp2_with fail
    refine bodyPost_ret (v := .agg #[.bool v.num.g, .slice v.num.a v.num.n v.num.c, .bool v.den.g, .slice v.den.a v.den.n v.den.c]) (by simp [results, Tryz.results61, go_sem, r0, r1, r2, r3]) rfl ?_
    exact rt_fin ((unhide OV).wide (by omega) (Nat.le_refl _)) (by simp) (unhide B4) (by omega) hCw (metQ_but (v := v))
  · go_wp2_with fail
    refine (big_v C (T + 2) _ (unhide B1).cur (by omega)).mono ?_
    rintro e w2 ⟨b1, d1, rfl, o1, a1, l1, c1, bt⟩
    have B2 := hide (((unhide B1).step c1 bt hCw).al (.cells #[.bool b1.g, .slice b1.a b1.n b1.c] 25))
    have O1 := hide ((AllOA.mk o1 a1).al (.cells #[.bool b1.g, .slice b1.a b1.n b1.c] 25))
    have s2 := bt.size
    have k1_0 : (w2.alloc (.cells #[.bool b1.g, .slice b1.a b1.n b1.c] 25)).cell? ⟨w2.heap.size, 0, none⟩ = some (.bool b1.g) := by simp [go_sem]
    have k1_1 : (w2.alloc (.cells #[.bool b1.g, .slice b1.a b1.n b1.c] 25)).cell? ⟨w2.heap.size, 1, none⟩ = some (.slice b1.a b1.n b1.c) := by simp [go_sem]
    clear c1 bt o1 a1 B1
    go_wp2_with fail
    refine (big_v C (T + 302) _ (unhide B2).cur (by omega)).mono ?_
    rintro e w3 ⟨b2, d2, rfl, o2, a2, l2, c1, bt⟩
    have s3 : w2.heap.size + 1 ≤ w3.heap.size := by have := bt.size; simpa using this
    replace k1_0 := cell_later ((Below.refl _ _).alloc (Nat.le_refl _) (.cells #[.bool b2.g, .slice b2.a b2.n b2.c] 25)) (bt.cell k1_0 (.inr (by omega)))
    replace k1_1 := cell_later ((Below.refl _ _).alloc (Nat.le_refl _) (.cells #[.bool b2.g, .slice b2.a b2.n b2.c] 25)) (bt.cell k1_1 (.inr (by omega)))
    have k2_0 : (w3.alloc (.cells #[.bool b2.g, .slice b2.a b2.n b2.c] 25)).cell? ⟨w3.heap.size, 0, none⟩ = some (.bool b2.g) := by simp [go_sem]
    have k2_1 : (w3.alloc (.cells #[.bool b2.g, .slice b2.a b2.n b2.c] 25)).cell? ⟨w3.heap.size, 1, none⟩ = some (.slice b2.a b2.n b2.c) := by simp [go_sem]
    have B3 := hide (((unhide B2).step c1 bt hCw).al (.cells #[.bool b2.g, .slice b2.a b2.n b2.c] 25))
    replace O1 := hide (((unhide O1).but bt (.inr (by omega))).al (.cells #[.bool b2.g, .slice b2.a b2.n b2.c] 25))
    have O2 := hide ((AllOA.mk o2 a2).al (.cells #[.bool b2.g, .slice b2.a b2.n b2.c] 25))
    clear c1 bt o2 a2 B2
    replace O2 := hide ((unhide O2).wide (lo' := w2.heap.size) (by simp) (Nat.le_refl _))
    have sz : w3.heap.size + 1 ≤ (w3.alloc (.cells #[.bool b2.g, .slice b2.a b2.n b2.c] 25)).heap.size := by simp
    have G1 := hide (fun w' (k : AllAr w' [(b1, d1)]) => gdS17 b1 d1 w' k)
    have G2 := hide (fun w' (k : AllAr w' [(b2, d2)]) => gdS17 b2 d2 w' k)
    have LN : Hid (d2.xs.length = b2.n) := hide ((unhide O2).ar.head.ar.len)
    clear l1 l2
    generalize hw : w3.alloc (.cells #[.bool b2.g, .slice b2.a b2.n b2.c] 25) = wa at *
    cases hg1 : goodB d1.g d1.xs
    · rw [hg1] at G1
      clear hg1 G2
      go_wp2_with fail
      refine (unhide G1 _ (unhide O1).ar).mono ?_
      rintro e w4 ⟨rfl, hb⟩
      have s4 := hb.size
      replace k1_0 := cell_later hb k1_0
      replace k1_1 := cell_later hb k1_1
      replace k2_0 := cell_later hb k2_0
      replace k2_1 := cell_later hb k2_1
      replace B3 := hide ((unhide B3).later hb)
      replace O1 := hide ((unhide O1).later hb)
      replace O2 := hide ((unhide O2).later hb)
      replace sz := Nat.le_trans sz s4
      clear hb s4
      have r0 := (unhide B3).res.c0
      have r1 := (unhide B3).res.c1
      have r2 := (unhide B3).res.c2
      have r3 := (unhide B3).res.c3
      have rf := (unhide B3).res.fz
      go_wp2_with fail
      refine bodyPost_ret (v := .agg #[.bool b1.g, .slice b1.a b1.n b1.c, .bool b2.g, .slice b2.a b2.n b2.c]) (by simp [results, Tryz.results61, go_sem, r0, r1, r2, r3]) rfl ?_
      exact rt_fin (v := ⟨b1, b2⟩) (d := ⟨d1, d2⟩) (hi := w3.heap.size) (((unhide O1).join (unhide O2) (by omega) (by omega)).wide (by omega) (Nat.le_refl _)) (by omega) (unhide B3) (by omega) hCw (metQ_but (v := ⟨b1, b2⟩))
    · rw [hg1] at G1
      cases hg2 : goodB d2.g d2.xs
      · rw [hg2] at G2
        clear hg1 hg2
        go_wp2_with fail
        refine (unhide G1 _ (unhide O1).ar).mono ?_
        rintro e w4 ⟨rfl, hb⟩
        have s4 := hb.size
        replace k1_0 := cell_later hb k1_0
        replace k1_1 := cell_later hb k1_1
        replace k2_0 := cell_later hb k2_0
        replace k2_1 := cell_later hb k2_1
        replace B3 := hide ((unhide B3).later hb)
        replace O1 := hide ((unhide O1).later hb)
        replace O2 := hide ((unhide O2).later hb)
        replace sz := Nat.le_trans sz s4
        clear hb s4
        go_wp2_with fail
        refine (unhide G2 _ (unhide O2).ar).mono ?_
        rintro e w5 ⟨rfl, hb⟩
        have s4 := hb.size
        replace k1_0 := cell_later hb k1_0
        replace k1_1 := cell_later hb k1_1
        replace k2_0 := cell_later hb k2_0
        replace k2_1 := cell_later hb k2_1
        replace B3 := hide ((unhide B3).later hb)
        replace O1 := hide ((unhide O1).later hb)
        replace O2 := hide ((unhide O2).later hb)
        replace sz := Nat.le_trans sz s4
        clear hb s4
        have r0 := (unhide B3).res.c0
        have r1 := (unhide B3).res.c1
        have r2 := (unhide B3).res.c2
        have r3 := (unhide B3).res.c3
        have rf := (unhide B3).res.fz
        go_wp2_with fail
        refine bodyPost_ret (v := .agg #[.bool b1.g, .slice b1.a b1.n b1.c, .bool b2.g, .slice b2.a b2.n b2.c]) (by simp [results, Tryz.results61, go_sem, r0, r1, r2, r3]) rfl ?_
        exact rt_fin (v := ⟨b1, b2⟩) (d := ⟨d1, d2⟩) (hi := w3.heap.size) (((unhide O1).join (unhide O2) (by omega) (by omega)).wide (by omega) (Nat.le_refl _)) (by omega) (unhide B3) (by omega) hCw (metQ_but (v := ⟨b1, b2⟩))
      · rw [hg2] at G2
        by_cases hn : b2.n = 0
        · have d0 : ¬ (0 < b2.n) := by omega
          clear hg1 hg2 hn
          go_wp2_with fail
          refine (unhide G1 _ (unhide O1).ar).mono ?_
          rintro e w4 ⟨rfl, hb⟩
          have s4 := hb.size
          replace k1_0 := cell_later hb k1_0
          replace k1_1 := cell_later hb k1_1
          replace k2_0 := cell_later hb k2_0
          replace k2_1 := cell_later hb k2_1
          replace B3 := hide ((unhide B3).later hb)
          replace O1 := hide ((unhide O1).later hb)
          replace O2 := hide ((unhide O2).later hb)
          replace sz := Nat.le_trans sz s4
          clear hb s4
          go_wp2_with fail
          refine (unhide G2 _ (unhide O2).ar).mono ?_
          rintro e w5 ⟨rfl, hb⟩
          have s4 := hb.size
          replace k1_0 := cell_later hb k1_0
          replace k1_1 := cell_later hb k1_1
          replace k2_0 := cell_later hb k2_0
          replace k2_1 := cell_later hb k2_1
          replace B3 := hide ((unhide B3).later hb)
          replace O1 := hide ((unhide O1).later hb)
          replace O2 := hide ((unhide O2).later hb)
          replace sz := Nat.le_trans sz s4
          clear hb s4
          go_upto_region 6 with fail
          clear d0
          have r0 := (unhide B3).res.c0
          have r1 := (unhide B3).res.c1
          have r2 := (unhide B3).res.c2
          have r3 := (unhide B3).res.c3
          have rf := (unhide B3).res.fz
          go_wp2_with fail
          refine bodyPost_ret (v := .agg #[.bool b1.g, .slice b1.a b1.n b1.c, .bool b2.g, .slice b2.a b2.n b2.c]) (by simp [results, Tryz.results61, go_sem, r0, r1, r2, r3]) rfl ?_
          exact rt_fin (v := ⟨b1, b2⟩) (d := ⟨d1, d2⟩) (hi := w3.heap.size) (((unhide O1).join (unhide O2) (by omega) (by omega)).wide (by omega) (Nat.le_refl _)) (by omega) (unhide B3) (by omega) hCw (metQ_but (v := ⟨b1, b2⟩))
        · have d0 : 0 < b2.n := by omega
          have H1 := hide hg1
          have H2 := hide hg2
          have HN := hide hn
          clear hg1 hg2 hn
          go_wp2_with fail
          refine (unhide G1 _ (unhide O1).ar).mono ?_
          rintro e w4 ⟨rfl, hb⟩
          have s4 := hb.size
          replace k1_0 := cell_later hb k1_0
          replace k1_1 := cell_later hb k1_1
          replace k2_0 := cell_later hb k2_0
          replace k2_1 := cell_later hb k2_1
          replace B3 := hide ((unhide B3).later hb)
          replace O1 := hide ((unhide O1).later hb)
          replace O2 := hide ((unhide O2).later hb)
          replace sz := Nat.le_trans sz s4
          clear hb s4
          go_wp2_with fail
          refine (unhide G2 _ (unhide O2).ar).mono ?_
          rintro e w5 ⟨rfl, hb⟩
          have s4 := hb.size
          replace k1_0 := cell_later hb k1_0
          replace k1_1 := cell_later hb k1_1
          replace k2_0 := cell_later hb k2_0
          replace k2_1 := cell_later hb k2_1
          replace B3 := hide ((unhide B3).later hb)
          replace O1 := hide ((unhide O1).later hb)
          replace O2 := hide ((unhide O2).later hb)
          replace sz := Nat.le_trans sz s4
          clear hb s4
          obtain ⟨i1, j1⟩ := isB_of_good (unhide O1).ar.head (unhide H1)
          obtain ⟨i2, j2⟩ := isB_of_good (unhide O2).ar.head (unhide H2)
          have nz : sv d2.g d2.xs ≠ 0 := fun e => unhide HN (i2.zero_iff.2 e)
          have I1 := hide i1
          have I2 := hide i2
          have J1 := hide j1
          have J2 := hide j2
          have NZ := hide nz
          clear i1 i2 j1 j2 nz H1 H2 HN
          go_wp2_with fail
          refine (lowS2 b1 b2 _ _ _ (unhide I1) (unhide I2) (unhide NZ) ((unhide J1).mono (by omega)) ((unhide J2).mono (by omega))).mono ?_
          rintro e w6 ⟨v, xs, us, rfl, hb, ov, av, m1, m2⟩
          have OV := hide (AllOA.mk ov av)
          replace B3 := hide ((unhide B3).later hb)
          have r0 := (unhide B3).res.c0
          have r1 := (unhide B3).res.c1
          have r2 := (unhide B3).res.c2
          have r3 := (unhide B3).res.c3
          have rf := (unhide B3).res.fz
          have s6 := hb.size
          clear hb ov av m1 m2
          go_wp2_with fail
          refine bodyPost_ret (v := .agg #[.bool v.num.g, .slice v.num.a v.num.n v.num.c, .bool v.den.g, .slice v.den.a v.den.n v.den.c]) (by simp [results, Tryz.results61, go_sem, r0, r1, r2, r3]) rfl ?_
          exact rt_fin (v := v) (d := ⟨⟨_, xs⟩, ⟨_, us⟩⟩) ((unhide OV).wide (by omega) (Nat.le_refl _)) (Nat.le_refl _) (unhide B3) (by omega) hCw (metQ_but (v := v))
end Aq
end Go.Proofs.YtdgonpbponnnaaaGreatDoor
