/- Points and ways as they are drawn: whatever the bytes, the draw ends, and what it draws lies near. No condition beyond those typed. Written by mkdraw8.py. -/
import Derived.Test.YtomekmhonfofkaaGreatCurY
import Derived.Test.YtomekmhonfofkaaGreatSp8T
namespace Go.Proofs.YtomekmhonfofkaaGreat
open Go.RowKit
set_option linter.unusedVariables false
set_option maxRecDepth 100000
set_option linter.unusedSimpArgs false

/-- A box of a point. -/
structure BxP (w : World) (G : Nat) (x y : Int) : Prop where
  c0 : w.cell? ⟨G, 0, none⟩ = some (.int .i64 x)
  c1 : w.cell? ⟨G, 1, none⟩ = some (.int .i64 y)
  fz : ∀ o, w.frozen? ⟨G, o, none⟩ = false
theorem But.fz8 {lo hi : Nat} {w w' : World} (h : But lo hi w w') {b o : Nat} {x : Bool} (hc : w.frozen? ⟨b, o, none⟩ = x) (h0 : b < w.heap.size) (hb : b < lo ∨ hi ≤ b) : w'.frozen? ⟨b, o, none⟩ = x := (World.frozen?_of_block (a := ⟨b, o, none⟩) (h.block b h0 hb)).trans hc
theorem BxP.lt {w : World} {G : Nat} {x y : Int} (h : BxP w G x y) : G < w.heap.size := World.block_lt_of_cell? _ _ h.c0
theorem BxP.keep {w w' : World} {lo hi G : Nat} {x y : Int} (h : BxP w G x y) (hb : But lo hi w w') (hG : G < lo ∨ hi ≤ G) : BxP w' G x y := ⟨hb.cell h.c0 hG, hb.cell h.c1 hG, fun o => hb.fz8 (h.fz o) h.lt hG⟩
theorem BxP.later {w w' : World} {G : Nat} {x y : Int} (h : BxP w G x y) (hb : Below w.heap.size w w') : BxP w' G x y := h.keep (But.of_below (lo := 0) (hi := 0) hb) (.inr (Nat.zero_le _))
theorem BxP.new {w : World} {x y : Int} {t : TypeId} : BxP (w.alloc (.cells #[.int .i64 x, .int .i64 y] t)) w.heap.size x y := ⟨by simp [go_sem], by simp [go_sem], fun o => by simp [go_sem]⟩
theorem But.on {lo hi : Nat} {w w1 w2 : World} (h : But lo hi w w1) (k : Below w.heap.size w1 w2) : But lo hi w w2 := ⟨k.os.trans h.os, k.tape.trans h.tape, k.output.trans h.output, Nat.le_trans h.size k.size, fun j hj hd => (k.block j hj).trans (h.block j hj hd)⟩
theorem but_rowP8 {w : World} {G : Nat} {x y : Value} : But G (G + 1) w ((w.setCell ⟨G, 0, none⟩ x).setCell ⟨G, 1, none⟩ y) := (((But.refl _ _ _).set (p := ⟨G, 0, none⟩) (Nat.le_refl G) (Nat.lt_succ_self G) x).set (p := ⟨G, 1, none⟩) (Nat.le_refl G) (Nat.lt_succ_self G) y)
theorem set_below8 {w : World} {B G : Nat} {u v : Value} (h : B ≤ G) (hs : B ≤ w.heap.size) : Below B w ((w.setCell ⟨G, 0, none⟩ u).setCell ⟨G, 1, none⟩ v) := but_rowP8.below (Below.refl _ _) h hs
/-- What a draw may tell of a point. -/
def PtD (C T : Nat) (w : World) (e : Ending) (w' : World) : Prop := ∃ p : Int × Int, e = .returned (.agg #[.int .i64 p.1, .int .i64 p.2]) ∧ Near p ∧ Cur C T w' ∧ But C (C + 1) w w'
set_option maxHeartbeats 4000000 in
theorem pt_v (C T : Nat) (w : World) (h : Cur C T w) (hT : T ≤ 900000) :
    Calls Tryz.prog 69 #[.pointer (some ⟨C, 0, none⟩)] w (PtD C (T + 6) w) := by
  have ltC := h.lt
  have al : Below w.heap.size w (w.alloc (.cells #[.int .i64 0, .int .i64 0] 37)) := (Below.refl _ _).alloc (Nat.le_refl _) _
  have CU := hide (h.later al)
  have RB : Hid (BxP (w.alloc (.cells #[.int .i64 0, .int .i64 0] 37)) w.heap.size 0 0) := hide BxP.new
  have BT : Hid (But C (C + 1) w (w.alloc (.cells #[.int .i64 0, .int .i64 0] 37))) := hide (But.of_below al)
  clear h al
  go_enter Tryz.func69, Tryz.ntmps69
  go_wp2_with fail
  refine (one_v C T 40 _ (unhide CU) (by omega) (by omega)).mono ?_
  rintro e w1 ⟨b, rfl, c1, bt⟩
  replace CU := hide c1
  replace RB := hide ((unhide RB).keep bt (.inr (by omega)))
  replace BT := hide ((unhide BT).trans bt)
  clear c1 bt
  cases b
  · go_wp2_with fail
    refine (pick_v C (T + 2) 9 _ (unhide CU) (by omega) (by omega)).mono ?_
    rintro e w2 ⟨x, rfl, x0, x1, x2, c1, bt⟩
    replace CU := hide c1
    replace RB := hide ((unhide RB).keep bt (.inr (by omega)))
    replace BT := hide ((unhide BT).trans bt)
    clear c1 bt
    have wx : IntKind.i64.wrap (x - 2) = x - 2 := by rw [IntKind.wrap_i64]; omega
    go_wp2_with fail
    refine (pick_v C (T + 2 + 2) 9 _ (unhide CU) (by omega) (by omega)).mono ?_
    rintro e w3 ⟨y, rfl, y0, y1, y2, c1, bt⟩
    replace CU := hide c1
    replace RB := hide ((unhide RB).keep bt (.inr (by omega)))
    replace BT := hide ((unhide BT).trans bt)
    clear c1 bt
    have wy : IntKind.i64.wrap (y - 2) = y - 2 := by rw [IntKind.wrap_i64]; omega
    have NR : Hid (Near (x - 2, y - 2)) := hide ⟨by show _ ≤ x - 2; omega, by show x - 2 ≤ _; omega, by show _ ≤ y - 2; omega, by show y - 2 ≤ _; omega⟩
    clear x0 x1 x2 y0 y1 y2
    have r0 := (unhide RB).c0
    have r1 := (unhide RB).c1
    have rf := (unhide RB).fz
    have sz := (unhide BT).size
    have CUB := hide ((unhide CU).below (set_below8 (G := w.heap.size) (u := .int .i64 (x - 2)) (v := .int .i64 (y - 2)) (Nat.le_refl _) sz) ltC)
    have BTB := hide ((unhide BT).on (set_below8 (G := w.heap.size) (u := .int .i64 (x - 2)) (v := .int .i64 (y - 2)) (Nat.le_refl _) sz))
    clear sz CU BT RB
    go_wp2_with fail
    refine bodyPost_ret (v := .agg #[.int .i64 (x - 2), .int .i64 (y - 2)]) (by simp [results, Tryz.results69, go_sem, r0, r1]) rfl ?_
    exact ⟨((x - 2), (y - 2)), rfl, unhide NR, (unhide CUB).mono (by omega), unhide BTB⟩
  · have al : Below w1.heap.size w1 (w1.alloc (.cells #[.int .i64 (-1000), .int .i64 1000, .int .i64 1001] 3)) := (Below.refl _ _).alloc (Nat.le_refl _) _
    replace CU := hide ((unhide CU).later al)
    replace RB := hide ((unhide RB).later al)
    have sz1 := (unhide BT).size
    replace BT := hide ((unhide BT).on (al.mono sz1))
    have HC : Hid (∀ i, i < 3 → (w1.alloc (.cells #[.int .i64 (-1000), .int .i64 1000, .int .i64 1001] 3)).cell? ⟨w1.heap.size, 0 + i, none⟩ = some (.int .i64 ([-1000, 1000, 1001].getD i 0))) := hide (fun i hi => by
      match i, hi with
      | 0, _ => simp [go_sem]
      | 1, _ => simp [go_sem]
      | 2, _ => simp [go_sem])
    clear al
    go_wp2_with fail
    refine (among_v C (T + 2) w1.heap.size 0 3 3 [-1000, 1000, 1001] _ (unhide CU) (by omega) (by omega) (by omega) rfl (by omega) (by simp) (unhide HC)).mono ?_
    rintro e w2 ⟨x, rfl, xm, c1, bt⟩
    replace CU := hide c1
    replace RB := hide ((unhide RB).keep bt (.inr (by omega)))
    replace BT := hide ((unhide BT).trans bt)
    clear c1 bt HC
    have XB : -1000 ≤ x ∧ x ≤ 1001 := by simp at xm; omega
    clear xm
    go_wp2_with fail
    refine (pick_v C (T + 2 + 2) 5 _ (unhide CU) (by omega) (by omega)).mono ?_
    rintro e w3 ⟨y, rfl, y0, y1, y2, c1, bt⟩
    replace CU := hide c1
    replace RB := hide ((unhide RB).keep bt (.inr (by omega)))
    replace BT := hide ((unhide BT).trans bt)
    clear c1 bt
    have NR : Hid (Near (x, y)) := hide ⟨by show _ ≤ x; omega, by show x ≤ _; omega, by show _ ≤ y; omega, by show y ≤ _; omega⟩
    clear XB y0 y1 y2 sz1
    have r0 := (unhide RB).c0
    have r1 := (unhide RB).c1
    have rf := (unhide RB).fz
    have sz := (unhide BT).size
    have CUB := hide ((unhide CU).below (set_below8 (G := w.heap.size) (u := .int .i64 x) (v := .int .i64 y) (Nat.le_refl _) sz) ltC)
    have BTB := hide ((unhide BT).on (set_below8 (G := w.heap.size) (u := .int .i64 x) (v := .int .i64 y) (Nat.le_refl _) sz))
    clear sz CU BT RB
    go_wp2_with fail
    refine bodyPost_ret (v := .agg #[.int .i64 x, .int .i64 y]) (by simp [results, Tryz.results69, go_sem, r0, r1]) rfl ?_
    exact ⟨(x, y), rfl, unhide NR, (unhide CUB).mono (by omega), unhide BTB⟩
/-- What a draw may tell of a way. -/
def WyD (C T : Nat) (w : World) (e : Ending) (w' : World) : Prop := ∃ (a : Option Addr) (n c : Nat) (l : List (Int × Int)), e = .returned (.slice a n c) ∧ ArP w' a n c l ∧ (∀ p ∈ l, Near p) ∧ n ≤ 20 ∧ (∃ G, a = some ⟨G, 0, none⟩ ∧ w.heap.size ≤ G) ∧ Cur C T w' ∧ But C (C + 1) w w'
theorem flat_sl (w : World) (l : List (Int × Int)) : SlP (w.alloc (.cells (flatP l).toArray 37)) (some ⟨w.heap.size, 0, none⟩) l := by
  refine .inr ⟨w.heap.size, 0, rfl, by simp, fun i hi => ?_⟩
  have k := flatP_at l i hi
  rw [Nat.zero_add]
  refine ⟨?_, ?_⟩
  · simpa [go_sem] using k.1
  · simpa [go_sem] using k.2
theorem owns_but8 {w w' : World} {C B : Nat} {e : TypeId} {size n : Nat} {v : Value} {M : List Value} (h : w.ownsRow B e size v n M) (hb : But C (C + 1) w w') (hC : C < B) : w'.ownsRow B e size v n M := by
  refine ⟨h.1, ?_⟩
  rcases h.2 with ⟨rfl, h0⟩ | ⟨g, cap, cur, rfl, hB, hg, r⟩
  · exact .inl ⟨rfl, h0⟩
  · refine .inr ⟨g, cap, cur, rfl, hB, ?_, r⟩
    rw [hb.block g (Array.getElem?_eq_some_iff.1 hg).1 (.inr (by omega))]
    exact hg
theorem near_mk {x y : Int} (h0 : -100000 ≤ x) (h1 : x ≤ 100000) (h2 : -100000 ≤ y) (h3 : y ≤ 100000) : Near (x, y) := ⟨h0, h1, h2, h3⟩
theorem rt_at {B : Nat} {w : World} {a : Option Addr} {n c : Nat} {l : List (Int × Int)} (h : RtP B w a n c l) (h0 : 0 < n) : ∃ G, a = some ⟨G, 0, none⟩ ∧ B ≤ G := by
  rcases h.own with h1 | ⟨G, e, hG, _⟩
  · omega
  · exact ⟨G, e, hG⟩
theorem rt_ar {B : Nat} {w : World} {a : Option Addr} {n c : Nat} {l : List (Int × Int)} (h : RtP B w a n c l) (h0 : 0 < n) : ArP w a n c l := by
  rcases h.own with h1 | ⟨G, rfl, _, ho⟩
  · omega
  · exact ho.arg
set_option maxHeartbeats 8000000 in
theorem way_v (C T : Nat) (w : World) (h : Cur C T w) (hT : T ≤ 800000) :
    Calls Tryz.prog 64 #[.pointer (some ⟨C, 0, none⟩)] w (WyD C (T + 200) w) := by
  obtain ⟨i0, hi, hz0, hz1, hz2⟩ := info_parts infoPt
  have ltC := h.lt
  have CU := hide h
  have BT : Hid (But C (C + 1) w w) := hide (But.refl _ _ _)
  clear h
  go_enter Tryz.func64, Tryz.ntmps64
  go_wp2_with fail
  refine (pick_v C T 4 _ (unhide CU) (by omega) (by omega)).mono ?_
  rintro e w1 ⟨k, rfl, k0, k1, k2, c1, bt⟩
  replace CU := hide c1
  replace BT := hide ((unhide BT).trans bt)
  clear c1 bt k2 k1
  by_cases e0 : k = 0
  · have q0 : (k == 0) = true := by simp [e0]
    clear e0 k0
    go_wp2_with fail
    refine (pick_v C (T + 2) 6 _ (unhide CU) (by omega) (by omega)).mono ?_
    rintro e wp0 ⟨x, rfl, x0, x1, x2, c1, bt⟩
    replace CU := hide c1
    replace BT := hide ((unhide BT).trans bt)
    replace x1 := x1 (by omega)
    clear c1 bt x2
    have w_x : IntKind.i64.wrap (2 + x) = 2 + x := by rw [IntKind.wrap_i64]; omega
    go_wp2_with fail
    refine (pick_v C (T + 2 + 2) 2 _ (unhide CU) (by omega) (by omega)).mono ?_
    rintro e wp1 ⟨y, rfl, y0, y1, y2, c1, bt⟩
    replace CU := hide c1
    replace BT := hide ((unhide BT).trans bt)
    replace y1 := y1 (by omega)
    clear c1 bt y2
    go_wp2_with fail
    refine (pick_v C (T + 2 + 2 + 2) 3 _ (unhide CU) (by omega) (by omega)).mono ?_
    rintro e wp2 ⟨z, rfl, z0, z1, z2, c1, bt⟩
    replace CU := hide c1
    replace BT := hide ((unhide BT).trans bt)
    replace z1 := z1 (by omega)
    clear c1 bt z2
    have w_z : IntKind.i64.wrap (3 + z) = 3 + z := by rw [IntKind.wrap_i64]; omega
    go_wp2_with fail
    refine (pick_v C (T + 2 + 2 + 2 + 2) 5 _ (unhide CU) (by omega) (by omega)).mono ?_
    rintro e wp3 ⟨u, rfl, u0, u1, u2, c1, bt⟩
    replace CU := hide c1
    replace BT := hide ((unhide BT).trans bt)
    replace u1 := u1 (by omega)
    clear c1 bt u2
    have w_u : IntKind.i64.wrap (3 + u) = 3 + u := by rw [IntKind.wrap_i64]; omega
    go_wp2_with fail
    refine (pick_v C (T + 2 + 2 + 2 + 2 + 2) 2 _ (unhide CU) (by omega) (by omega)).mono ?_
    rintro e wp4 ⟨v, rfl, v0, v1, v2, c1, bt⟩
    replace CU := hide c1
    replace BT := hide ((unhide BT).trans bt)
    replace v1 := v1 (by omega)
    clear c1 bt v2
    go_wp2_with fail
    refine (pick_v C (T + 2 + 2 + 2 + 2 + 2 + 2) 5 _ (unhide CU) (by omega) (by omega)).mono ?_
    rintro e wp5 ⟨r, rfl, r0, r1, r2, c1, bt⟩
    replace CU := hide c1
    replace BT := hide ((unhide BT).trans bt)
    replace r1 := r1 (by omega)
    clear c1 bt r2
    have w_r : IntKind.i64.wrap (2 + r) = 2 + r := by rw [IntKind.wrap_i64]; omega
    have al : Below wp5.heap.size wp5 (wp5.alloc (.cells #[.int .i64 (0), .int .i64 (0), .int .i64 (2 + x), .int .i64 (y), .int .i64 (3 + z), .int .i64 (3 + u), .int .i64 (v), .int .i64 (2 + r)] 37)) := (Below.refl _ _).alloc (Nat.le_refl _) _
    have SL : Hid (SlP (wp5.alloc (.cells #[.int .i64 (0), .int .i64 (0), .int .i64 (2 + x), .int .i64 (y), .int .i64 (3 + z), .int .i64 (3 + u), .int .i64 (v), .int .i64 (2 + r)] 37)) (some ⟨wp5.heap.size, 0, none⟩) [(0, 0), (2 + x, y), (3 + z, 3 + u), (v, 2 + r)]) := hide (flat_sl wp5 [(0, 0), (2 + x, y), (3 + z, 3 + u), (v, 2 + r)])
    replace CU := hide ((unhide CU).later al)
    have sz := (unhide BT).size
    replace BT := hide ((unhide BT).on (al.mono sz))
    have NR : Hid (∀ p ∈ ([(0, 0), (2 + x, y), (3 + z, 3 + u), (v, 2 + r)] : List (Int × Int)), Near p) := hide (by
      intro p hp
      simp only [List.mem_cons, List.not_mem_nil, or_false] at hp
      rcases hp with rfl | rfl | rfl | rfl <;> exact near_mk (by omega) (by omega) (by omega) (by omega))
    have SZ := sz
    clear al sz
    go_wp2_with fail
    go_ret
    exact ⟨_, 4, 4, [(0, 0), (2 + x, y), (3 + z, 3 + u), (v, 2 + r)], rfl, ⟨unhide SL, rfl, Nat.le_refl _, by unfold maxLen; omega⟩, unhide NR, by omega, ⟨_, rfl, SZ⟩, (unhide CU).mono (by omega), unhide BT⟩
  · have q0 : (k == 0) = false := by simp [e0]
    by_cases e1 : k = 1
    · have q1 : (k == 1) = true := by simp [e1]
      clear e0 e1 k0
      go_wp2_with fail
      refine (pick_v C (T + 2) 4 _ (unhide CU) (by omega) (by omega)).mono ?_
      rintro e wp0 ⟨x, rfl, x0, x1, x2, c1, bt⟩
      replace CU := hide c1
      replace BT := hide ((unhide BT).trans bt)
      replace x1 := x1 (by omega)
      clear c1 bt x2
      have w_x : IntKind.i64.wrap (1 + x) = 1 + x := by rw [IntKind.wrap_i64]; omega
      go_wp2_with fail
      refine (pick_v C (T + 2 + 2) 4 _ (unhide CU) (by omega) (by omega)).mono ?_
      rintro e wp1 ⟨y, rfl, y0, y1, y2, c1, bt⟩
      replace CU := hide c1
      replace BT := hide ((unhide BT).trans bt)
      replace y1 := y1 (by omega)
      clear c1 bt y2
      have w_y : IntKind.i64.wrap (1 + y) = 1 + y := by rw [IntKind.wrap_i64]; omega
      have al : Below wp1.heap.size wp1 (wp1.alloc (.cells #[.int .i64 (0), .int .i64 (0), .int .i64 (6), .int .i64 (0), .int .i64 (6), .int .i64 (6), .int .i64 (4), .int .i64 (6), .int .i64 (4), .int .i64 (1 + x), .int .i64 (2), .int .i64 (1 + y), .int .i64 (2), .int .i64 (6), .int .i64 (0), .int .i64 (6)] 37)) := (Below.refl _ _).alloc (Nat.le_refl _) _
      have SL : Hid (SlP (wp1.alloc (.cells #[.int .i64 (0), .int .i64 (0), .int .i64 (6), .int .i64 (0), .int .i64 (6), .int .i64 (6), .int .i64 (4), .int .i64 (6), .int .i64 (4), .int .i64 (1 + x), .int .i64 (2), .int .i64 (1 + y), .int .i64 (2), .int .i64 (6), .int .i64 (0), .int .i64 (6)] 37)) (some ⟨wp1.heap.size, 0, none⟩) [(0, 0), (6, 0), (6, 6), (4, 6), (4, 1 + x), (2, 1 + y), (2, 6), (0, 6)]) := hide (flat_sl wp1 [(0, 0), (6, 0), (6, 6), (4, 6), (4, 1 + x), (2, 1 + y), (2, 6), (0, 6)])
      replace CU := hide ((unhide CU).later al)
      have sz := (unhide BT).size
      replace BT := hide ((unhide BT).on (al.mono sz))
      have NR : Hid (∀ p ∈ ([(0, 0), (6, 0), (6, 6), (4, 6), (4, 1 + x), (2, 1 + y), (2, 6), (0, 6)] : List (Int × Int)), Near p) := hide (by
        intro p hp
        simp only [List.mem_cons, List.not_mem_nil, or_false] at hp
        rcases hp with rfl | rfl | rfl | rfl | rfl | rfl | rfl | rfl <;> exact near_mk (by omega) (by omega) (by omega) (by omega))
      have SZ := sz
      clear al sz
      go_wp2_with fail
      go_ret
      exact ⟨_, 8, 8, [(0, 0), (6, 0), (6, 6), (4, 6), (4, 1 + x), (2, 1 + y), (2, 6), (0, 6)], rfl, ⟨unhide SL, rfl, Nat.le_refl _, by unfold maxLen; omega⟩, unhide NR, by omega, ⟨_, rfl, SZ⟩, (unhide CU).mono (by omega), unhide BT⟩
    · have q1 : (k == 1) = false := by simp [e1]
      clear e0 e1 k0
      go_wp2_with fail
      refine (pick_v C (T + 2) 4 _ (unhide CU) (by omega) (by omega)).mono ?_
      rintro e wp0 ⟨x, rfl, x0, x1, x2, c1, bt⟩
      replace CU := hide c1
      replace BT := hide ((unhide BT).trans bt)
      replace x1 := x1 (by omega)
      clear c1 bt x2
      have w_x : IntKind.i64.wrap (3 + x) = 3 + x := by rw [IntKind.wrap_i64]; omega
      have s1 := (unhide BT).size
      go_wp2
      go_loopw [3, 4] (fun v nv wr => ∃ (j m : Nat) (us : List (Int × Int)), j + m = 3 + x.toNat ∧ nv = .int .i64 m ∧ us.length = j ∧ Hid (∀ p ∈ us, Near p) ∧ Hid (wr.ownsRow w.heap.size 37 2 v j (flatP us)) ∧ Hid (Cur C (T + 4 + 6 * j) wr) ∧ Hid (But C (C + 1) w wr)) (fun _ nv _ => (intOf nv).toNat)
      case atStart => exact ⟨0, 3 + x.toNat, [], by omega, by congr 1; omega, rfl, hide (fun p hp => absurd hp (by simp)), hide ⟨rfl, .inl ⟨rfl, rfl⟩⟩, CU, BT⟩
      case round =>
        clear CU BT
        obtain ⟨j, m, us, hjm, rfl, hl, NR, HO, CU, BT⟩ := hrel
        have sr := (unhide BT).size
        by_cases hm : m = 0
        · subst hm
          have OW := HO
          have LU := hide hl
          go_wp2_with fail
          refine (one_v C (T + 4 + 6 * j) 20 _ (unhide CU) (by omega) (by omega)).mono ?_
          rintro e w4 ⟨b, rfl, c1, bt⟩
          replace CU := hide c1
          replace BT := hide ((unhide BT).trans bt)
          replace OW := hide (owns_but8 (unhide OW) bt ltC)
          clear c1 bt HO
          cases b
          · obtain ⟨a', c', rfl, rt⟩ := own_rt (unhide OW) (unhide LU)
            have RT := hide (rt_ar rt (by omega))
            have AT := hide (rt_at rt (by omega))
            clear rt OW
            go_wp2_with fail
            go_ret
            exact ⟨a', j, c', us, rfl, unhide RT, unhide NR, by omega, unhide AT, (unhide CU).mono (by omega), unhide BT⟩
          · go_wp2
            go_loopw [3] (fun v wr => ∃ (j : Nat) (us : List (Int × Int)), 3 ≤ j ∧ j ≤ 13 ∧ us.length = j ∧ Hid (∀ p ∈ us, Near p) ∧ Hid (wr.ownsRow w.heap.size 37 2 v j (flatP us)) ∧ Hid (Cur C (T + 50 + 8 * j) wr) ∧ Hid (But C (C + 1) w wr)) (fun v _ => 13 - (match v with | .slice _ n _ => n | _ => 0))
            case atStart => exact ⟨j, us, by omega, by omega, unhide LU, NR, OW, hide ((unhide CU).mono (by omega)), BT⟩
            case round =>
              clear CU BT OW NR LU
              obtain ⟨j', us', hj1, hj2, hl', NR, HO, CU, BT⟩ := hrel
              have sr := (unhide BT).size
              obtain ⟨a', c', rfl, rt⟩ := own_rt (unhide HO) hl'
              have RT := hide (rt_ar rt (by omega))
              have AT := hide (rt_at rt (by omega))
              have LU := hide hl'
              clear rt hl'
              go_wp2_with fail
              refine (pick_v C (T + 50 + 8 * j') 2 _ (unhide CU) (by omega) (by omega)).mono ?_
              rintro e w5 ⟨y, rfl, y0, y1, y2, c1, bt⟩
              replace y1 := y1 (by omega)
              replace CU := hide c1
              replace BT := hide ((unhide BT).trans bt)
              replace HO := hide (owns_but8 (unhide HO) bt ltC)
              have RTK : Hid (But C (C + 1) wr w5) := hide bt
              have rk := bt.size
              clear c1 bt y2
              have wy : IntKind.i64.wrap (12 + y) = 12 + y := by rw [IntKind.wrap_i64]; omega
              by_cases hc : (j' : Int) < 12 + y
              · go_wp2_with fail
                refine (pt_v C (T + 50 + 8 * j' + 2) _ (unhide CU) (by omega)).mono ?_
                rintro e w6 ⟨p, rfl, np, c1, bt⟩
                replace CU := hide c1
                replace BT := hide ((unhide BT).trans bt)
                replace HO := hide (owns_but8 (unhide HO) bt ltC)
                have NR2 : Hid (∀ q ∈ us' ++ [p], Near q) := hide (by
                  intro q hq
                  rcases List.mem_append.1 hq with hq | hq
                  · exact unhide NR q hq
                  · rw [List.mem_singleton] at hq; rw [hq]; exact np)
                have s6 := (unhide BT).size
                clear c1 bt np RT
                go_wp2_with (at_builtin; refine wpList_append_own _ rfl (.tmp 67) (.tmp 70) 23 rfl w.heap.size 37 i0 (.agg #[.int .i64 0, .int .i64 0]) 2 16 Tryz.underlying23 hi hz0 hz1 hz2 rfl (by decide) _ _ _ rfl ((unhide HO).alloc _) ⟨_, 0, none⟩ 1 1 [.int .i64 p.1, .int .i64 p.2] rfl rfl (new_cellP _ _ _) (fun u hu => by simp at hu; rcases hu with rfl | rfl <;> rfl) (by unfold maxLen; omega) (by omega) (by simp; omega) ?_)
                intro v' w7 hown hgr _
                have HO2 : Hid (w7.ownsRow w.heap.size 37 2 v' (j' + 1) (flatP (us' ++ [p]))) := hide (by rw [flatP_append, show flatP [p] = [.int .i64 p.1, .int .i64 p.2] from flatP_one p.1 p.2]; exact hown)
                have PB := hide (push_belowP (Below.refl w.heap.size w6) s6 (unhide HO) hgr)
                replace CU := hide ((unhide CU).below (unhide PB) ltC)
                replace BT := hide ((unhide BT).on (unhide PB))
                have LU2 : Hid ((us' ++ [p]).length = j' + 1) := hide (by simp; exact unhide LU)
                obtain ⟨a2, c2, hv2, _⟩ := own_rt (unhide HO2) (unhide LU2)
                have HV := hide hv2
                clear hown hgr PB hv2
                go_wp2
                go_roundw
                case rel => exact ⟨j' + 1, us' ++ [p], by omega, by omega, unhide LU2, NR2, HO2, hide ((unhide CU).mono (by omega)), BT⟩
                case measure => rw [unhide HV]; simp; omega
              · have RT2 : Hid (ArP w5 a' j' c' us') := hide (by
                  obtain ⟨a2, c2, h2, r2⟩ := own_rt (unhide HO) (unhide LU)
                  simp only [Value.slice.injEq, true_and] at h2
                  obtain ⟨rfl, rfl⟩ := h2
                  exact rt_ar r2 (by omega))
                clear HO RT
                go_wp2_with fail
                go_ret
                exact ⟨a', j', c', us', rfl, unhide RT2, unhide NR, by omega, unhide AT, (unhide CU).mono (by omega), unhide BT⟩
        · have d0 : decide ((0 : Int) < (m : Int)) = true := decide_eq_true (by omega)
          have wm : IntKind.i64.wrap ((m : Int) - 1) = (m : Int) - 1 := by rw [IntKind.wrap_i64]; omega
          have LU := hide hl
          clear hl
          go_wp2_with fail
          refine (pt_v C (T + 4 + 6 * j) _ (unhide CU) (by omega)).mono ?_
          rintro e w6 ⟨p, rfl, np, c1, bt⟩
          replace CU := hide c1
          replace BT := hide ((unhide BT).trans bt)
          replace HO := hide (owns_but8 (unhide HO) bt ltC)
          have NR2 : Hid (∀ q ∈ us ++ [p], Near q) := hide (by
            intro q hq
            rcases List.mem_append.1 hq with hq | hq
            · exact unhide NR q hq
            · rw [List.mem_singleton] at hq; rw [hq]; exact np)
          have s6 := (unhide BT).size
          clear c1 bt np
          go_wp2_with (at_builtin; refine wpList_append_own _ rfl (.tmp 54) (.tmp 57) 23 rfl w.heap.size 37 i0 (.agg #[.int .i64 0, .int .i64 0]) 2 16 Tryz.underlying23 hi hz0 hz1 hz2 rfl (by decide) _ _ _ rfl ((unhide HO).alloc _) ⟨_, 0, none⟩ 1 1 [.int .i64 p.1, .int .i64 p.2] rfl rfl (new_cellP _ _ _) (fun u hu => by simp at hu; rcases hu with rfl | rfl <;> rfl) (by unfold maxLen; omega) (by omega) (by simp; omega) ?_)
          intro v' w7 hown hgr _
          have HO2 : Hid (w7.ownsRow w.heap.size 37 2 v' (j + 1) (flatP (us ++ [p]))) := hide (by rw [flatP_append, show flatP [p] = [.int .i64 p.1, .int .i64 p.2] from flatP_one p.1 p.2]; exact hown)
          have PB := hide (push_belowP (Below.refl w.heap.size w6) s6 (unhide HO) hgr)
          replace CU := hide ((unhide CU).below (unhide PB) ltC)
          replace BT := hide ((unhide BT).on (unhide PB))
          clear hown hgr PB
          go_wp2
          go_roundw
          case rel => exact ⟨j + 1, m - 1, us ++ [p], by omega, by congr 1; omega, by simp; exact unhide LU, NR2, HO2, hide ((unhide CU).mono (by omega)), BT⟩
          case measure => simp [intOf]; omega
end Go.Proofs.YtomekmhonfofkaaGreat
