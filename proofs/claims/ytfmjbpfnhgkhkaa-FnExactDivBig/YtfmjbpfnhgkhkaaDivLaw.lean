/- The walk through the law FnExactDivBig: it returns true. No condition beyond those typed. Written by mkdlaw.py. -/
import Derived.Test.YtfmjbpfnhgkhkaaDivX
namespace Go.Proofs.Ytfmjbpfnhgkhkaa
open Go.RowKit
set_option linter.unusedVariables false
set_option maxRecDepth 100000
set_option linter.unusedSimpArgs false

structure TlawDiv (w wx : World) (v0 : BV) (d0 : BD) (v1 : BV) (d1 : BD) : Prop where
  bel : Below w.heap.size w wx
  x0_0 : wx.cell? ⟨w.heap.size, 0, none⟩ = some (.bool v0.g)
  x0_1 : wx.cell? ⟨w.heap.size, 1, none⟩ = some (.slice v0.a v0.n v0.c)
  x1_0 : wx.cell? ⟨w.heap.size + 1, 0, none⟩ = some (.bool v1.g)
  x1_1 : wx.cell? ⟨w.heap.size + 1, 1, none⟩ = some (.slice v1.a v1.n v1.c)
  s0 : AllSl wx [(v0, d0)]
  s1 : AllSl wx [(v1, d1)]
theorem TlawDiv.later {w wx wy : World} {v0 : BV} {d0 : BD} {v1 : BV} {d1 : BD} (h : TlawDiv w wx v0 d0 v1 d1) (hb : Below wx.heap.size wx wy) : TlawDiv w wy v0 d0 v1 d1 :=
  ⟨below_on h.bel hb, cell_later hb h.x0_0, cell_later hb h.x0_1, cell_later hb h.x1_0, cell_later hb h.x1_1, h.s0.later hb, h.s1.later hb⟩
theorem TlawDiv.but {w wx wy : World} {v0 : BV} {d0 : BD} {v1 : BV} {d1 : BD} {lo hi : Nat} (h : TlawDiv w wx v0 d0 v1 d1) (hb : But lo hi wx wy) (hl : w.heap.size + 2 ≤ lo) (hx0 : AllSl w [(v0, d0)]) (hx1 : AllSl w [(v1, d1)]) : TlawDiv w wy v0 d0 v1 d1 := by
  have hB := hb.below h.bel (by omega) h.bel.size
  exact ⟨hB, hb.cell h.x0_0 (by omega), hb.cell h.x0_1 (by omega), hb.cell h.x1_0 (by omega), hb.cell h.x1_1 (by omega), hx0.later hB, hx1.later hB⟩
theorem divFin {w wk w5 W : World} {v0 : BV} {d0 : BD} {v1 : BV} {d1 : BD} {G H B : Nat} {v : QV} {d : QD} {ok : Bool} {U : QD → Bool → Prop} (hk : Below wk.heap.size wk w5) (ho : AllOwn B w5.heap.size w5 [(v.num, d.num), (v.den, d.den)]) (hB : wk.heap.size ≤ B) (bt : But wk.heap.size B w5 W) (hG : wk.heap.size ≤ G ∧ wk.heap.size ≤ H)
    (c0 : W.cell? ⟨G, 0, none⟩ = some (.bool v.num.g)) (c1 : W.cell? ⟨G, 1, none⟩ = some (.slice v.num.a v.num.n v.num.c)) (c2 : W.cell? ⟨H, 0, none⟩ = some (.bool v.den.g)) (c3 : W.cell? ⟨H, 1, none⟩ = some (.slice v.den.a v.den.n v.den.c)) (hu : Hid (U d ok)) (h : TlawDiv w w5 v0 d0 v1 d1) (hl : w.heap.size + 2 ≤ wk.heap.size) (hx0 : AllSl w [(v0, d0)]) (hx1 : AllSl w [(v1, d1)]) :
    Hid (MetD wk W G H v d) ∧ Hid (U d ok) ∧ Hid (TlawDiv w W v0 d0 v1 d1) := ⟨hide (metD_fin hk ho hB bt hG c0 c1 c2 c3), hu, hide (h.but bt hl hx0 hx1)⟩
theorem TlawDiv.start (w : World) (v0 : BV) (d0 : BD) (v1 : BV) (d1 : BD) (t0 : TypeId) (t1 : TypeId) (hx0 : AllSl w [(v0, d0)]) (hx1 : AllSl w [(v1, d1)]) : TlawDiv w ((w.alloc (.cells #[.bool v0.g, .slice v0.a v0.n v0.c] t0)).alloc (.cells #[.bool v1.g, .slice v1.a v1.n v1.c] t1)) v0 d0 v1 d1 := by
  have hb : Below w.heap.size w ((w.alloc (.cells #[.bool v0.g, .slice v0.a v0.n v0.c] t0)).alloc (.cells #[.bool v1.g, .slice v1.a v1.n v1.c] t1)) := ((Below.refl _ _).alloc (Nat.le_refl _) _).alloc (by simp) _
  exact ⟨hb, by simp [go_sem], by simp [go_sem], by simp [go_sem], by simp [go_sem], hx0.later hb, hx1.later hb⟩

set_option maxHeartbeats 1000000 in
theorem lawDiv_out0 (v0 : BV) (v1 : BV) (w : World) (m0 : v0.n ≤ maxLen) (h0 : 0 ≤ 1048576) (h : 1048576 < v0.n) :
    Calls Try.prog 3 #[.agg #[.bool v0.g, .slice v0.a v0.n v0.c], .agg #[.bool v1.g, .slice v1.a v1.n v1.c]] w fun e w' => e = .returned (.bool true) ∧ Below w.heap.size w w' := by
  go_enter Try.func3, Try.ntmps3
  go_wp2_with fail
  refine (sz_out v0.g v0.a v0.n v0.c _ _ (by omega) (by omega) m0 (by omega)).mono ?_
  rintro e w1 ⟨rfl, hb⟩
  have HB := hide (below_two' hb)
  clear hb
  go_wp2
  go_ret
  exact ⟨rfl, unhide HB⟩

set_option maxHeartbeats 1000000 in
theorem lawDiv_out1 (v0 : BV) (v1 : BV) (w : World) (m0 : v1.n ≤ maxLen) (h0 : v0.n ≤ 1048576) (h : 1048576 < v0.n + v1.n) :
    Calls Try.prog 3 #[.agg #[.bool v0.g, .slice v0.a v0.n v0.c], .agg #[.bool v1.g, .slice v1.a v1.n v1.c]] w fun e w' => e = .returned (.bool true) ∧ Below w.heap.size w w' := by
  have hd0 : ¬ ((1048576 : Int) - (v0.n : Int) < 0) := by omega
  go_enter Try.func3, Try.ntmps3
  go_wp2_with fail
  refine (sz_in v0.g v0.a v0.n v0.c _ _ (by omega) (by omega) (by omega)).mono ?_
  rintro e w1 ⟨rfl, hb⟩
  have y1_0 : w1.cell? ⟨w.heap.size + 1, 0, none⟩ = some (.bool v1.g) := cell_later hb (by simp [go_sem])
  have y1_1 : w1.cell? ⟨w.heap.size + 1, 1, none⟩ = some (.slice v1.a v1.n v1.c) := cell_later hb (by simp [go_sem])
  have HB := hide (below_two' hb)
  clear hb
  go_wp2_with fail
  refine (sz_out v1.g v1.a v1.n v1.c _ _ (by omega) (by omega) m0 (by omega)).mono ?_
  rintro e w2 ⟨rfl, hb⟩
  replace HB := hide (below_on (unhide HB) hb)
  clear hb
  go_wp2
  go_ret
  exact ⟨rfl, unhide HB⟩

set_option maxRecDepth 100000 in
set_option maxHeartbeats 16000000 in
theorem lawDiv_in (v0 : BV) (v1 : BV) (d0 : BD) (d1 : BD) (w : World) (hx0 : AllSl w [(v0, d0)]) (hx1 : AllSl w [(v1, d1)])  (h : v0.n + v1.n ≤ 1048576) :
    Calls Try.prog 3 #[.agg #[.bool v0.g, .slice v0.a v0.n v0.c], .agg #[.bool v1.g, .slice v1.a v1.n v1.c]] w fun e w' => e = .returned (.bool true) ∧ Below w.heap.size w w' := by
  have HX0 := hide hx0
  have HX1 := hide hx1
  clear hx0 hx1
  have l0 : v0.n ≤ 1048576 := by omega
  have lm0 : v0.n ≤ maxLen := by unfold maxLen; omega
  have l1 : v1.n ≤ 1048576 := by omega
  have lm1 : v1.n ≤ maxLen := by unfold maxLen; omega
  have hd0 : ¬ ((1048576 : Int) - (v0.n : Int) < 0) := by omega
  have hd1 : ¬ ((1048576 : Int) - (v0.n : Int) - (v1.n : Int) < 0) := by omega
  obtain ⟨U, HU⟩ : ∃ U : QD → Bool → Prop, Hid (U = AnsD (pD d0 d1) (qD d0 d1) (rD d0 d1)) := ⟨_, hide rfl⟩
  have US : Hid (∀ d ok d' ok', U d ok → U d' ok' → d = d' ∧ ok = ok') := hide (by rw [unhide HU]; exact fun d ok d' ok' h k => h.same k)
  have UL : Hid (∀ d ok, U d ok → d.num.xs.length ≤ 40 ∧ d.den.xs.length ≤ 40) := hide (by rw [unhide HU]; exact fun d ok h => h.lens)
  have CS : Hid (∀ (q0 : BV) (q1 : BV) (w : World), AllAr w [(q0, d0)] → AllAr w [(q1, d1)] → Calls Try.prog 19 #[.agg #[.bool q0.g, .slice q0.a q0.n q0.c], .agg #[.bool q1.g, .slice q1.a q1.n q1.c]] w (RetD w U)) := hide (by rw [unhide HU]; exact fun q0 q1 w h0 h1 => DivS_a q0 q1 d0 d1 w h0 h1)
  have CI : Hid (∀ (q0 : BV) (q1 : BV) (w : World), AllAr w [(q0, d0)] → AllAr w [(q1, d1)] → Calls Try.prog 21 #[.agg #[.bool q0.g, .slice q0.a q0.n q0.c], .agg #[.bool q1.g, .slice q1.a q1.n q1.c]] w (RetD w U)) := hide (by rw [unhide HU]; exact fun q0 q1 w h0 h1 => DivI_a q0 q1 d0 d1 w h0 h1)
  clear HU
  go_enter Try.func3, Try.ntmps3
  go_wp2_with fail
  refine (sz_in v0.g v0.a v0.n v0.c _ _ (by omega) (by omega) (by omega)).mono ?_
  rintro e w1 ⟨rfl, hb⟩
  have T := hide ((TlawDiv.start w v0 d0 v1 d1 24 24 (unhide HX0) (unhide HX1)).later hb)
  have z : w.heap.size + 2 ≤ w1.heap.size := by have := hb.size; simp at this; omega
  have y0 := (unhide T).x1_0
  have y1 := (unhide T).x1_1
  clear hb
  go_wp2_with fail
  refine (sz_in v1.g v1.a v1.n v1.c _ _ (by omega) (by omega) (by omega)).mono ?_
  rintro e w2 ⟨rfl, hb⟩
  replace T := hide ((unhide T).later hb)
  replace z : w.heap.size + 2 ≤ w2.heap.size := Nat.le_trans z hb.size
  clear y0 y1
  clear hb
  go_upto_region 8 with fail
  go_cut [6, 7, 8] (fun p q r wx => ∃ (G H : Nat) (v : QV) (d : QD) (ok : Bool), p = .pointer (some ⟨G, 0, none⟩) ∧ q = .pointer (some ⟨H, 0, none⟩) ∧ r = .bool ok ∧ Hid (MetD w2 wx G H v d) ∧ Hid (U d ok) ∧ Hid (TlawDiv w wx v0 d0 v1 d1))
  case first =>
    as_aux_lemma =>
      have ka0 := (unhide T).x0_0
      have ka1 := (unhide T).x0_1
      have ka2 := (unhide T).x1_0
      have ka3 := (unhide T).x1_1
      go_region_held3 (fun w' => w'.cell? ⟨w.heap.size, 0, none⟩ = some (.bool v0.g) ∧ w'.cell? ⟨w.heap.size, 1, none⟩ = some (.slice v0.a v0.n v0.c) ∧ w'.cell? ⟨w.heap.size + 1, 0, none⟩ = some (.bool v1.g) ∧ w'.cell? ⟨w.heap.size + 1, 1, none⟩ = some (.slice v1.a v1.n v1.c)) (with_reducible (refine ⟨?_, ?_, ?_, ?_⟩ <;> repeat (first | exact ka0 | exact ka1 | exact ka2 | exact ka3 | refine cd_other ?_ | refine ca_other ?_ | refine cs_other ?_ (by omega))))
        (first
        | (go_at_call_of 20 (Value.agg #[Value.bool v0.g, Value.slice v0.a v0.n v0.c]); refine (toB_at v0 d0 _ ?_ l0).mono ?_; (first | exact (unhide T).s0.head.later (Below.refl _ _).drew | exact (unhide T).s0.head.later ((Below.refl _ _).alloc (Nat.le_refl _) _).drew | exact (unhide T).s0.head.later (((Below.refl _ _).alloc (Nat.le_refl _) _).alloc (by simp) _).drew); rintro e wa0 ⟨qa0, rfl, hb, hna0, ow, ar⟩; have hbx : Below w2.heap.size w2 wa0 := (by first | exact below_of_drew hb | exact bad hb | exact bad2 hb); have sz0 := hbx.size; replace T := hide ((unhide T).later hbx); replace ka0 := (unhide T).x0_0; replace ka1 := (unhide T).x0_1; replace ka2 := (unhide T).x1_0; replace ka3 := (unhide T).x1_1; (try (replace gaf := fun o => frozen_later hbx (World.block_lt_of_cell? _ _ ga0) (gaf o); replace ga0 := cell_later hbx ga0; replace ga1 := cell_later hbx ga1)); (try (replace gbf := fun o => frozen_later hbx (World.block_lt_of_cell? _ _ gb0) (gbf o); replace gb0 := cell_later hbx gb0; replace gb1 := cell_later hbx gb1)); (first | (refine cutP (p := (wa0.cell? ⟨w2.heap.size, 0, none⟩ = some (.bool false) ∧ wa0.cell? ⟨w2.heap.size, 1, none⟩ = some (.slice none 0 0) ∧ ∀ o, wa0.frozen? ⟨w2.heap.size, o, none⟩ = false) ∧ (wa0.cell? ⟨w2.heap.size + 1, 0, none⟩ = some (.bool false) ∧ wa0.cell? ⟨w2.heap.size + 1, 1, none⟩ = some (.slice none 0 0) ∧ ∀ o, wa0.frozen? ⟨w2.heap.size + 1, o, none⟩ = false)) ?_ (fun dd => ?_); (focus (refine ⟨⟨cell_later hb ?_, cell_later hb ?_, fun o => frozen_later hb ?_ ?_⟩, cell_later hb ?_, cell_later hb ?_, fun o => frozen_later hb ?_ ?_⟩ <;> (simp [go_sem]; done))); obtain ⟨⟨ga0, ga1, gaf⟩, gb0, gb1, gbf⟩ := dd) | (have chk := ga0; clear chk; refine cutP (p := wa0.cell? ⟨w2.heap.size, 0, none⟩ = some (.bool false) ∧ wa0.cell? ⟨w2.heap.size, 1, none⟩ = some (.slice none 0 0) ∧ ∀ o, wa0.frozen? ⟨w2.heap.size, o, none⟩ = false) ?_ (fun dd => ?_); (focus (refine ⟨cell_later hb ?_, cell_later hb ?_, fun o => frozen_later hb ?_ ?_⟩ <;> (simp [go_sem]; done))); obtain ⟨gb0, gb1, gbf⟩ := dd) | (refine cutP (p := wa0.cell? ⟨w2.heap.size, 0, none⟩ = some (.bool false) ∧ wa0.cell? ⟨w2.heap.size, 1, none⟩ = some (.slice none 0 0) ∧ ∀ o, wa0.frozen? ⟨w2.heap.size, o, none⟩ = false) ?_ (fun dd => ?_); (focus (refine ⟨cell_later hb ?_, cell_later hb ?_, fun o => frozen_later hb ?_ ?_⟩ <;> (simp [go_sem]; done))); obtain ⟨ga0, ga1, gaf⟩ := dd) | skip); have zz0 := hb.size; (try simp at zz0); have HBr := hide hbx; have A0 := hide ar; clear hb hbx ow ar hna0)
        | (go_at_call_of 20 (Value.agg #[Value.bool v1.g, Value.slice v1.a v1.n v1.c]); refine (toB_at v1 d1 _ ?_ l1).mono ?_; (first | exact (unhide T).s1.head | exact (unhide T).s1.head.later ((Below.refl _ _).alloc (Nat.le_refl _) _) | exact (unhide T).s1.head.later (((Below.refl _ _).alloc (Nat.le_refl _) _).alloc (by simp) _)); rintro e wa1 ⟨qa1, rfl, hb, hna1, ow, ar⟩; have hbx : Below wa0.heap.size wa0 wa1 := (by first | exact hb | exact ba hb | exact ba2 hb); have sz1 := hbx.size; replace T := hide ((unhide T).later hbx); replace ka0 := (unhide T).x0_0; replace ka1 := (unhide T).x0_1; replace ka2 := (unhide T).x1_0; replace ka3 := (unhide T).x1_1; replace A0 := hide ((unhide A0).later hbx); (try (replace gaf := fun o => frozen_later hbx (World.block_lt_of_cell? _ _ ga0) (gaf o); replace ga0 := cell_later hbx ga0; replace ga1 := cell_later hbx ga1)); (try (replace gbf := fun o => frozen_later hbx (World.block_lt_of_cell? _ _ gb0) (gbf o); replace gb0 := cell_later hbx gb0; replace gb1 := cell_later hbx gb1)); (first | (refine cutP (p := (wa1.cell? ⟨wa0.heap.size, 0, none⟩ = some (.bool false) ∧ wa1.cell? ⟨wa0.heap.size, 1, none⟩ = some (.slice none 0 0) ∧ ∀ o, wa1.frozen? ⟨wa0.heap.size, o, none⟩ = false) ∧ (wa1.cell? ⟨wa0.heap.size + 1, 0, none⟩ = some (.bool false) ∧ wa1.cell? ⟨wa0.heap.size + 1, 1, none⟩ = some (.slice none 0 0) ∧ ∀ o, wa1.frozen? ⟨wa0.heap.size + 1, o, none⟩ = false)) ?_ (fun dd => ?_); (focus (refine ⟨⟨cell_later hb ?_, cell_later hb ?_, fun o => frozen_later hb ?_ ?_⟩, cell_later hb ?_, cell_later hb ?_, fun o => frozen_later hb ?_ ?_⟩ <;> (simp [go_sem]; done))); obtain ⟨⟨ga0, ga1, gaf⟩, gb0, gb1, gbf⟩ := dd) | (have chk := ga0; clear chk; refine cutP (p := wa1.cell? ⟨wa0.heap.size, 0, none⟩ = some (.bool false) ∧ wa1.cell? ⟨wa0.heap.size, 1, none⟩ = some (.slice none 0 0) ∧ ∀ o, wa1.frozen? ⟨wa0.heap.size, o, none⟩ = false) ?_ (fun dd => ?_); (focus (refine ⟨cell_later hb ?_, cell_later hb ?_, fun o => frozen_later hb ?_ ?_⟩ <;> (simp [go_sem]; done))); obtain ⟨gb0, gb1, gbf⟩ := dd) | (refine cutP (p := wa1.cell? ⟨wa0.heap.size, 0, none⟩ = some (.bool false) ∧ wa1.cell? ⟨wa0.heap.size, 1, none⟩ = some (.slice none 0 0) ∧ ∀ o, wa1.frozen? ⟨wa0.heap.size, o, none⟩ = false) ?_ (fun dd => ?_); (focus (refine ⟨cell_later hb ?_, cell_later hb ?_, fun o => frozen_later hb ?_ ?_⟩ <;> (simp [go_sem]; done))); obtain ⟨ga0, ga1, gaf⟩ := dd) | skip); have zz1 := hb.size; (try simp at zz1); have HBr := hide (below_on (unhide HBr) hbx); have A1 := hide ar; clear hb hbx ow ar hna1)
        | (go_at_call 19; refine (unhide CS _ _ _ ?_ ?_).mono ?_; (first | exact unhide A0 | exact (unhide A0).later ((Below.refl _ _).alloc (Nat.le_refl _) _) | exact (unhide A0).later (((Below.refl _ _).alloc (Nat.le_refl _) _).alloc (by simp) _)); (first | exact unhide A1 | exact (unhide A1).later ((Below.refl _ _).alloc (Nat.le_refl _) _) | exact (unhide A1).later (((Below.refl _ _).alloc (Nat.le_refl _) _).alloc (by simp) _)); rintro e w5 ⟨vr, dr, okr, rfl, hb, hown, hu⟩; have hbx : Below wa1.heap.size wa1 w5 := (by first | exact hb | exact ba hb | exact ba2 hb); have sz2 := hbx.size; replace T := hide ((unhide T).later hbx); replace ka0 := (unhide T).x0_0; replace ka1 := (unhide T).x0_1; replace ka2 := (unhide T).x1_0; replace ka3 := (unhide T).x1_1; replace A0 := hide ((unhide A0).later hbx); replace A1 := hide ((unhide A1).later hbx); (try (replace gaf := fun o => frozen_later hbx (World.block_lt_of_cell? _ _ ga0) (gaf o); replace ga0 := cell_later hbx ga0; replace ga1 := cell_later hbx ga1)); (try (replace gbf := fun o => frozen_later hbx (World.block_lt_of_cell? _ _ gb0) (gbf o); replace gb0 := cell_later hbx gb0; replace gb1 := cell_later hbx gb1)); (first | (refine cutP (p := (w5.cell? ⟨wa1.heap.size, 0, none⟩ = some (.bool false) ∧ w5.cell? ⟨wa1.heap.size, 1, none⟩ = some (.slice none 0 0) ∧ ∀ o, w5.frozen? ⟨wa1.heap.size, o, none⟩ = false) ∧ (w5.cell? ⟨wa1.heap.size + 1, 0, none⟩ = some (.bool false) ∧ w5.cell? ⟨wa1.heap.size + 1, 1, none⟩ = some (.slice none 0 0) ∧ ∀ o, w5.frozen? ⟨wa1.heap.size + 1, o, none⟩ = false)) ?_ (fun dd => ?_); (focus (refine ⟨⟨cell_later hb ?_, cell_later hb ?_, fun o => frozen_later hb ?_ ?_⟩, cell_later hb ?_, cell_later hb ?_, fun o => frozen_later hb ?_ ?_⟩ <;> (simp [go_sem]; done))); obtain ⟨⟨ga0, ga1, gaf⟩, gb0, gb1, gbf⟩ := dd) | (have chk := ga0; clear chk; refine cutP (p := w5.cell? ⟨wa1.heap.size, 0, none⟩ = some (.bool false) ∧ w5.cell? ⟨wa1.heap.size, 1, none⟩ = some (.slice none 0 0) ∧ ∀ o, w5.frozen? ⟨wa1.heap.size, o, none⟩ = false) ?_ (fun dd => ?_); (focus (refine ⟨cell_later hb ?_, cell_later hb ?_, fun o => frozen_later hb ?_ ?_⟩ <;> (simp [go_sem]; done))); obtain ⟨gb0, gb1, gbf⟩ := dd) | (refine cutP (p := w5.cell? ⟨wa1.heap.size, 0, none⟩ = some (.bool false) ∧ w5.cell? ⟨wa1.heap.size, 1, none⟩ = some (.slice none 0 0) ∧ ∀ o, w5.frozen? ⟨wa1.heap.size, o, none⟩ = false) ?_ (fun dd => ?_); (focus (refine ⟨cell_later hb ?_, cell_later hb ?_, fun o => frozen_later hb ?_ ?_⟩ <;> (simp [go_sem]; done))); obtain ⟨ga0, ga1, gaf⟩ := dd) | skip); have zz2 := hb.size; (try simp at zz2); have HBr := hide (below_on (unhide HBr) hbx); (try (have ga2 := fun ob => ca_other (ob := ob) ga0; have ga3 := fun ob => ca_other (ob := ob) ga1; have ga4 := fun ob => frozen_alloc (ob := ob) ga0 gaf; have nea := ne_size ga0; have nea2 := Ne.symm nea)); (try (have gb2 := fun ob => ca_other (ob := ob) gb0; have gb3 := fun ob => ca_other (ob := ob) gb1; have gb4 := fun ob => frozen_alloc (ob := ob) gb0 gbf; have neb := ne_size gb0; have neb2 := Ne.symm neb)); (try (have neab := ne_cells ga0 gb0 (by omega); have neba := Ne.symm neab)); have O5 := hide hown; have U5 := hide hu; clear hb hbx hown hu))
      all_goals go_wp2_with fail
      all_goals go_meet
      all_goals exact ⟨_, _, vr, dr, okr, rfl, rfl, rfl, divFin (unhide HBr) (unhide O5) (by first | omega | (simp; omega)) (by (repeat (with_reducible first | exact But.refl _ _ _ | refine But.alloc' ?_ _ | refine But.drew' ?_ | refine But.set' ?_ _ (by first | omega | (simp; omega))))) ⟨by omega, by omega⟩ (by (repeat (first | with_reducible exact ca_new0 | with_reducible exact ca_new1 | with_reducible exact ca_newb0 | with_reducible exact ca_newb1 | (with_reducible refine cs_hit ?_; (repeat (with_reducible first | exact Has.of ga0 | exact Has.of ga1 | exact Has.of gb0 | exact Has.of gb1 | exact Has.of ca_new0 | exact Has.of ca_new1 | exact Has.of ca_newb0 | exact Has.of ca_newb1 | refine Has.set ?_ | refine Has.alloc ?_)); done) | with_reducible refine cs_skip ?_ (by omega) | with_reducible refine ca_other ?_ | (simp [go_sem]; done)))) (by (repeat (first | with_reducible exact ca_new0 | with_reducible exact ca_new1 | with_reducible exact ca_newb0 | with_reducible exact ca_newb1 | (with_reducible refine cs_hit ?_; (repeat (with_reducible first | exact Has.of ga0 | exact Has.of ga1 | exact Has.of gb0 | exact Has.of gb1 | exact Has.of ca_new0 | exact Has.of ca_new1 | exact Has.of ca_newb0 | exact Has.of ca_newb1 | refine Has.set ?_ | refine Has.alloc ?_)); done) | with_reducible refine cs_skip ?_ (by omega) | with_reducible refine ca_other ?_ | (simp [go_sem]; done)))) (by (repeat (first | with_reducible exact ca_new0 | with_reducible exact ca_new1 | with_reducible exact ca_newb0 | with_reducible exact ca_newb1 | (with_reducible refine cs_hit ?_; (repeat (with_reducible first | exact Has.of ga0 | exact Has.of ga1 | exact Has.of gb0 | exact Has.of gb1 | exact Has.of ca_new0 | exact Has.of ca_new1 | exact Has.of ca_newb0 | exact Has.of ca_newb1 | refine Has.set ?_ | refine Has.alloc ?_)); done) | with_reducible refine cs_skip ?_ (by omega) | with_reducible refine ca_other ?_ | (simp [go_sem]; done)))) (by (repeat (first | with_reducible exact ca_new0 | with_reducible exact ca_new1 | with_reducible exact ca_newb0 | with_reducible exact ca_newb1 | (with_reducible refine cs_hit ?_; (repeat (with_reducible first | exact Has.of ga0 | exact Has.of ga1 | exact Has.of gb0 | exact Has.of gb1 | exact Has.of ca_new0 | exact Has.of ca_new1 | exact Has.of ca_newb0 | exact Has.of ca_newb1 | refine Has.set ?_ | refine Has.alloc ?_)); done) | with_reducible refine cs_skip ?_ (by omega) | with_reducible refine ca_other ?_ | (simp [go_sem]; done)))) U5 (unhide T) (by omega) (unhide HX0) (unhide HX1)⟩
  case rest =>
    obtain ⟨G0, H0, vr, dr, okr, rfl, rfl, rfl, HM, UR, T3⟩ := hcut
    clear T
    have T := T3
    clear T3
    have V0 := hide (unhide HM).var
    have zG1 : w.heap.size + 2 ≤ G0 := Nat.le_trans z (unhide HM).lo.1
    have zG2 : G0 < wc.heap.size := (unhide V0).gt.1
    have zH1 : w.heap.size + 2 ≤ H0 := Nat.le_trans z (unhide HM).lo.2
    have zH2 : H0 < wc.heap.size := (unhide V0).gt.2
    clear HM
    have r0 : vr.num.n ≤ 40 := by rw [← ((unhide V0).own.own (vr.num, dr.num) (by simp)).len]; exact (unhide UL _ _ (unhide UR)).1
    have rm0 : vr.num.n ≤ maxLen := by unfold maxLen; omega
    have rl0 : vr.num.n ≤ 1048576 := by omega
    have r1 : vr.den.n ≤ 40 := by rw [← ((unhide V0).own.own (vr.den, dr.den) (by simp)).len]; exact (unhide UL _ _ (unhide UR)).2
    have rm1 : vr.den.n ≤ maxLen := by unfold maxLen; omega
    have rl1 : vr.den.n ≤ 1048576 := by omega
    have p0 := (unhide T).x0_0
    have p1 := (unhide T).x0_1
    go_wp2_with fail
    refine (toB_at v0 d0 _ (unhide T).s0.head l0).mono ?_
    rintro e wx0 ⟨y0, rfl, hb, hnn, ow0, ar0⟩
    have hn0 := hide hnn
    clear hnn
    have VX0 := hide (VarB.start 26 ow0)
    have AX0 := hide (ar0.later ((Below.refl _ _).alloc (Nat.le_refl _) (.cells #[.bool y0.g, .slice y0.a y0.n y0.c] 26)))
    have s0 : wc.heap.size ≤ wx0.heap.size := by have := hb.size; exact this
    replace V0 := hide ((unhide V0).later hb)
    replace T := hide ((unhide T).later hb)
    replace V0 := hide ((unhide V0).later ((Below.refl _ _).alloc (Nat.le_refl _) (.cells #[.bool y0.g, .slice y0.a y0.n y0.c] 26)))
    replace T := hide ((unhide T).later ((Below.refl _ _).alloc (Nat.le_refl _) (.cells #[.bool y0.g, .slice y0.a y0.n y0.c] 26)))
    clear hb ow0 ar0 p0 p1
    have p0 := (unhide T).x1_0
    have p1 := (unhide T).x1_1
    go_wp2_with fail
    refine (toB_at v1 d1 _ (unhide T).s1.head l1).mono ?_
    rintro e wx1 ⟨y1, rfl, hb, hnn, ow1, ar1⟩
    have hn1 := hide hnn
    clear hnn
    have VX1 := hide (VarB.start 26 (ow1.wide (lo' := wx0.heap.size + 1) (by simp) (Nat.le_refl _)))
    have AX1 := hide (ar1.later ((Below.refl _ _).alloc (Nat.le_refl _) (.cells #[.bool y1.g, .slice y1.a y1.n y1.c] 26)))
    have s1 : wx0.heap.size + 1 ≤ wx1.heap.size := by have := hb.size; simp at this; omega
    replace V0 := hide ((unhide V0).later hb)
    replace T := hide ((unhide T).later hb)
    replace VX0 := hide ((unhide VX0).later hb)
    replace AX0 := hide ((unhide AX0).later hb)
    replace V0 := hide ((unhide V0).later ((Below.refl _ _).alloc (Nat.le_refl _) (.cells #[.bool y1.g, .slice y1.a y1.n y1.c] 26)))
    replace T := hide ((unhide T).later ((Below.refl _ _).alloc (Nat.le_refl _) (.cells #[.bool y1.g, .slice y1.a y1.n y1.c] 26)))
    replace VX0 := hide ((unhide VX0).later ((Below.refl _ _).alloc (Nat.le_refl _) (.cells #[.bool y1.g, .slice y1.a y1.n y1.c] 26)))
    replace AX0 := hide ((unhide AX0).later ((Below.refl _ _).alloc (Nat.le_refl _) (.cells #[.bool y1.g, .slice y1.a y1.n y1.c] 26)))
    clear hb ow1 ar1 p0 p1
    have p0_0 := (unhide VX0).c0
    have p0_1 := (unhide VX0).c1
    go_wp2_with fail
    refine (unhide CI y0 y1 _ (unhide AX0) (unhide AX1)).mono ?_
    rintro e w5 ⟨vg, dg, okg, rfl, hb, hown, hu⟩
    obtain ⟨e1, e2⟩ := unhide US _ _ _ _ (unhide UR) hu
    subst e1 e2
    have VG := hide (VarD.start 26 (hown.wide (lo' := wx1.heap.size + 1) (by simp) (Nat.le_refl _)))
    have sg : wx1.heap.size + 1 ≤ w5.heap.size := by have := hb.size; simp at this; omega
    have en0 : vg.num.n = vr.num.n := by rw [← ((unhide VG).own.own (vg.num, dr.num) (by simp)).len, ← ((unhide V0).own.own (vr.num, dr.num) (by simp)).len]
    have q0 : vg.num.n ≤ 40 := by omega
    have qm0 : vg.num.n ≤ maxLen := by omega
    have ql0 : vg.num.n ≤ 1048576 := by omega
    have en1 : vg.den.n = vr.den.n := by rw [← ((unhide VG).own.own (vg.den, dr.den) (by simp)).len, ← ((unhide V0).own.own (vr.den, dr.den) (by simp)).len]
    have q1 : vg.den.n ≤ 40 := by omega
    have qm1 : vg.den.n ≤ maxLen := by omega
    have ql1 : vg.den.n ≤ 1048576 := by omega
    clear AX0 AX1 p0_0 p0_1
    replace V0 := hide ((unhide V0).later hb)
    replace T := hide ((unhide T).later hb)
    replace VX0 := hide ((unhide VX0).later hb)
    replace VX1 := hide ((unhide VX1).later hb)
    clear hb hown hu
    replace V0 := hide (((unhide V0).later ((Below.refl _ _).alloc (Nat.le_refl _) (.cells #[.bool vg.num.g, .slice vg.num.a vg.num.n vg.num.c] 26))).later ((Below.refl _ _).alloc (Nat.le_refl _) (.cells #[.bool vg.den.g, .slice vg.den.a vg.den.n vg.den.c] 26)))
    replace T := hide (((unhide T).later ((Below.refl _ _).alloc (Nat.le_refl _) (.cells #[.bool vg.num.g, .slice vg.num.a vg.num.n vg.num.c] 26))).later ((Below.refl _ _).alloc (Nat.le_refl _) (.cells #[.bool vg.den.g, .slice vg.den.a vg.den.n vg.den.c] 26)))
    replace VX0 := hide (((unhide VX0).later ((Below.refl _ _).alloc (Nat.le_refl _) (.cells #[.bool vg.num.g, .slice vg.num.a vg.num.n vg.num.c] 26))).later ((Below.refl _ _).alloc (Nat.le_refl _) (.cells #[.bool vg.den.g, .slice vg.den.a vg.den.n vg.den.c] 26)))
    replace VX1 := hide (((unhide VX1).later ((Below.refl _ _).alloc (Nat.le_refl _) (.cells #[.bool vg.num.g, .slice vg.num.a vg.num.n vg.num.c] 26))).later ((Below.refl _ _).alloc (Nat.le_refl _) (.cells #[.bool vg.den.g, .slice vg.den.a vg.den.n vg.den.c] 26)))
    have enh0 := hide en0
    clear en0
    have enh1 := hide en1
    clear en1
    have p0 := (unhide V0).c0
    have p1 := (unhide V0).c1
    have p2 := (unhide V0).c2
    have p3 := (unhide V0).c3
    go_wp2_with fail
    refine (eqB_at vg.num vr.num dr.num _ ((unhide VG).own.sl (vg.num, dr.num) (by simp)) ((unhide V0).own.sl (vr.num, dr.num) (by simp)) qm0).mono ?_
    rintro e w6b ⟨rfl, hb⟩
    clear p0 p1 p2 p3
    replace V0 := hide ((unhide V0).later hb)
    replace T := hide ((unhide T).later hb)
    replace VX0 := hide ((unhide VX0).later hb)
    replace VX1 := hide ((unhide VX1).later hb)
    replace VG := hide ((unhide VG).later hb)
    clear hb
    have p0 := (unhide VG).c0
    have pq0 := (unhide V0).c0
    have p1 := (unhide VG).c1
    have pq1 := (unhide V0).c1
    have p2 := (unhide VG).c2
    have pq2 := (unhide V0).c2
    have p3 := (unhide VG).c3
    have pq3 := (unhide V0).c3
    go_wp2_with fail
    refine (eqB_at vg.den vr.den dr.den _ ((unhide VG).own.sl (vg.den, dr.den) (by simp)) ((unhide V0).own.sl (vr.den, dr.den) (by simp)) qm1).mono ?_
    rintro e w6 ⟨rfl, hb⟩
    clear p0 p1 p2 p3 pq0 pq1 pq2 pq3
    replace V0 := hide ((unhide V0).later hb)
    replace T := hide ((unhide T).later hb)
    replace VX0 := hide ((unhide VX0).later hb)
    replace VX1 := hide ((unhide VX1).later hb)
    replace VG := hide ((unhide VG).later hb)
    clear hb
    generalize wx0.heap.size = GX0 at *
    generalize wx1.heap.size = GX1 at *
    generalize w5.heap.size = GG at *
    generalize wc.heap.size = GC at *
    go_wp2_with fail
    have ka0 := (unhide T).x0_0
    have kx0 := (unhide VX0).c0
    have ka1 := (unhide T).x0_1
    have kx1 := (unhide VX0).c1
    go_region_held3 (fun w' => w'.cell? ⟨w.heap.size, 0, none⟩ = some (.bool v0.g) ∧ w'.cell? ⟨w.heap.size, 1, none⟩ = some (.slice v0.a v0.n v0.c) ∧ w'.cell? ⟨GX0, 0, none⟩ = some (.bool y0.g) ∧ w'.cell? ⟨GX0, 1, none⟩ = some (.slice y0.a y0.n y0.c)) (with_reducible (first | exact ⟨ka0, ka1, kx0, kx1⟩ | exact ⟨cd_other ka0, cd_other ka1, cd_other kx0, cd_other kx1⟩ | fail))
      (first
      | (go_at_call 20; refine (toB_at v0 d0 _ ?_ l0).mono ?_; exact (unhide T).s0.head.later (Below.refl _ _).drew; rintro e w7 ⟨u7, rfl, hb', hn7, ow7, ar7⟩; have hb := below_of_drew hb'; replace V0 := hide ((unhide V0).later hb); replace T := hide ((unhide T).later hb); replace VX0 := hide ((unhide VX0).later hb); replace VX1 := hide ((unhide VX1).later hb); replace VG := hide ((unhide VG).later hb); replace ka0 := (unhide T).x0_0; replace kx0 := (unhide VX0).c0; replace ka1 := (unhide T).x0_1; replace kx1 := (unhide VX0).c1; have S7 := hide ow7.sl; clear hb hb' ow7 ar7 hn7)
      | (go_at_call 22; refine (eqB_at y0 u7 d0 _ (unhide VX0).own.sl.head (unhide S7).head (by rw [(unhide hn0)]; exact lm0)).mono ?_; rintro e w8 ⟨rfl, hb⟩; replace V0 := hide ((unhide V0).later hb); replace T := hide ((unhide T).later hb); replace VX0 := hide ((unhide VX0).later hb); replace VX1 := hide ((unhide VX1).later hb); replace VG := hide ((unhide VG).later hb); replace ka0 := (unhide T).x0_0; replace kx0 := (unhide VX0).c0; replace ka1 := (unhide T).x0_1; replace kx1 := (unhide VX0).c1; clear hb))
    clear S7 ka0 kx0 ka1 kx1
    go_wp2_with fail
    have ka0 := (unhide T).x1_0
    have kx0 := (unhide VX1).c0
    have ka1 := (unhide T).x1_1
    have kx1 := (unhide VX1).c1
    go_region_held3 (fun w' => w'.cell? ⟨w.heap.size + 1, 0, none⟩ = some (.bool v1.g) ∧ w'.cell? ⟨w.heap.size + 1, 1, none⟩ = some (.slice v1.a v1.n v1.c) ∧ w'.cell? ⟨GX1, 0, none⟩ = some (.bool y1.g) ∧ w'.cell? ⟨GX1, 1, none⟩ = some (.slice y1.a y1.n y1.c)) (with_reducible (first | exact ⟨ka0, ka1, kx0, kx1⟩ | exact ⟨cd_other ka0, cd_other ka1, cd_other kx0, cd_other kx1⟩ | fail))
      (first
      | (go_at_call 20; refine (toB_at v1 d1 _ ?_ l1).mono ?_; exact (unhide T).s1.head.later (Below.refl _ _).drew; rintro e w7 ⟨u7, rfl, hb', hn7, ow7, ar7⟩; have hb := below_of_drew hb'; replace V0 := hide ((unhide V0).later hb); replace T := hide ((unhide T).later hb); replace VX0 := hide ((unhide VX0).later hb); replace VX1 := hide ((unhide VX1).later hb); replace VG := hide ((unhide VG).later hb); replace ka0 := (unhide T).x1_0; replace kx0 := (unhide VX1).c0; replace ka1 := (unhide T).x1_1; replace kx1 := (unhide VX1).c1; have S7 := hide ow7.sl; clear hb hb' ow7 ar7 hn7)
      | (go_at_call 22; refine (eqB_at y1 u7 d1 _ (unhide VX1).own.sl.head (unhide S7).head (by rw [(unhide hn1)]; exact lm1)).mono ?_; rintro e w8 ⟨rfl, hb⟩; replace V0 := hide ((unhide V0).later hb); replace T := hide ((unhide T).later hb); replace VX0 := hide ((unhide VX0).later hb); replace VX1 := hide ((unhide VX1).later hb); replace VG := hide ((unhide VG).later hb); replace ka0 := (unhide T).x1_0; replace kx0 := (unhide VX1).c0; replace ka1 := (unhide T).x1_1; replace kx1 := (unhide VX1).c1; clear hb))
    clear S7 ka0 kx0 ka1 kx1
    have p0 := (unhide VX0).c0
    have p1 := (unhide VX0).c1
    have hl0 : y0.n ≤ 1048576 := by rw [(unhide hn0)]; exact l0
    go_wp2_with fail
    refine (markB_at y0 d0 [] [] 1 (GC) GX0 _ (unhide VX0).own hl0 (by omega) (by have := (unhide hn0); omega)).mono ?_
    rintro e w10 ⟨rfl, hbt, hmk⟩
    replace T := hide ((unhide T).but hbt (by omega) (unhide HX0) (unhide HX1))
    replace V0 := hide ((unhide V0).but hbt (by omega) (by omega) (by omega))
    replace VX1 := hide ((unhide VX1).but hbt (by omega) (by omega))
    replace VG := hide ((unhide VG).but hbt (by omega) (by omega) (by omega))
    clear VX0 p0 p1 hbt hmk hl0
    have p0 := (unhide VX1).c0
    have p1 := (unhide VX1).c1
    have hl0 : y1.n ≤ 1048576 := by rw [(unhide hn1)]; exact l1
    go_wp2_with fail
    refine (markB_at y1 d1 [] [] _ (GX0 + 1) GX1 _ (unhide VX1).own hl0 (by omega) (by have := (unhide hn0); have := (unhide hn1); omega)).mono ?_
    rintro e w11 ⟨rfl, hbt, hmk⟩
    replace T := hide ((unhide T).but hbt (by omega) (unhide HX0) (unhide HX1))
    replace V0 := hide ((unhide V0).but hbt (by omega) (by omega) (by omega))
    replace VG := hide ((unhide VG).but hbt (by omega) (by omega) (by omega))
    clear VX1 p0 p1 hbt hmk hl0
    have hk0 : decide ((1 : Int) + (y0.n : Int) + (y1.n : Int) < 0) = false := by simp; omega
    have p0 := (unhide VG).c0
    have pq0 := (unhide V0).c0
    have p1 := (unhide VG).c1
    have pq1 := (unhide V0).c1
    have p2 := (unhide VG).c2
    have pq2 := (unhide V0).c2
    have p3 := (unhide VG).c3
    have pq3 := (unhide V0).c3
    go_wp2_with fail
    refine (eqB_at vg.num vr.num dr.num _ ((unhide VG).own.sl (vg.num, dr.num) (by simp)) ((unhide V0).own.sl (vr.num, dr.num) (by simp)) qm0).mono ?_
    rintro e w20b ⟨rfl, hb⟩
    clear p0 p1 p2 p3 pq0 pq1 pq2 pq3
    replace V0 := hide ((unhide V0).later hb)
    replace T := hide ((unhide T).later hb)
    replace VG := hide ((unhide VG).later hb)
    clear hb
    have p0 := (unhide VG).c0
    have pq0 := (unhide V0).c0
    have p1 := (unhide VG).c1
    have pq1 := (unhide V0).c1
    have p2 := (unhide VG).c2
    have pq2 := (unhide V0).c2
    have p3 := (unhide VG).c3
    have pq3 := (unhide V0).c3
    go_wp2_with fail
    refine (eqB_at vg.den vr.den dr.den _ ((unhide VG).own.sl (vg.den, dr.den) (by simp)) ((unhide V0).own.sl (vr.den, dr.den) (by simp)) qm1).mono ?_
    rintro e w20 ⟨rfl, hb⟩
    clear p0 pq0 p1 pq1 p2 pq2 p3 pq3 hk0
    replace V0 := hide ((unhide V0).later hb)
    replace T := hide ((unhide T).later hb)
    replace VG := hide ((unhide VG).later hb)
    clear hb
    have p0 := (unhide VG).c0
    have p1 := (unhide VG).c1
    have p2 := (unhide VG).c2
    have p3 := (unhide VG).c3
    go_wp2_with fail
    refine (markB_at vg.num dr.num [] [(vg.den, dr.den)] 1 (GX1 + 1) GG _ (unhide VG).own ql0 (by have := (unhide VG).gt; omega) (by omega)).mono ?_
    rintro e w21b ⟨rfl, hbt, hmk⟩
    replace T := hide ((unhide T).but hbt (by omega) (unhide HX0) (unhide HX1))
    replace V0 := hide ((unhide V0).but hbt (by omega) (by omega) (by omega))
    replace VG := hide ((unhide VG).mark (d' := ⟨⟨dr.num.g, marks (1) vg.num.n⟩, dr.den⟩) hbt (by omega) (by omega) hmk)
    clear p0 p1 p2 p3 hbt hmk
    have p0 := (unhide VG).c0
    have p1 := (unhide VG).c1
    have p2 := (unhide VG).c2
    have p3 := (unhide VG).c3
    go_wp2_with fail
    refine (markB_at vg.den dr.den [(vg.num, ⟨dr.num.g, marks (1) vg.num.n⟩)] [] (1 + vg.num.n) (GX1 + 1) GG _ (unhide VG).own ql1 (by have := (unhide VG).gt; omega) (by omega)).mono ?_
    rintro e w21 ⟨rfl, hbt, hmk⟩
    replace T := hide ((unhide T).but hbt (by omega) (unhide HX0) (unhide HX1))
    replace V0 := hide ((unhide V0).but hbt (by omega) (by omega) (by omega))
    replace VG := hide ((unhide VG).mark (d' := ⟨⟨dr.num.g, marks (1) vg.num.n⟩, ⟨dr.den.g, marks (1 + vg.num.n) vg.den.n⟩⟩) hbt (by omega) (by omega) hmk)
    clear p0 p1 p2 p3 hbt hmk
    have p0 := (unhide VG).c0
    have p1 := (unhide VG).c1
    have p2 := (unhide VG).c2
    have p3 := (unhide VG).c3
    go_wp2_with fail
    refine (heldB_at vg.num 1 _ ((unhide VG).own.sl (vg.num, ⟨dr.num.g, marks (1) vg.num.n⟩) (by simp)).sl ql0 (by omega) (by omega)).mono ?_
    rintro e wkb ⟨rfl, hb⟩
    clear p0 p1 p2 p3
    replace V0 := hide ((unhide V0).later hb)
    replace T := hide ((unhide T).later hb)
    replace VG := hide ((unhide VG).later hb)
    clear hb
    have hq0 : ¬ ((1 : Int) + (vg.num.n : Int) < 0) := by omega
    have p0 := (unhide VG).c0
    have p1 := (unhide VG).c1
    have p2 := (unhide VG).c2
    have p3 := (unhide VG).c3
    go_wp2_with fail
    refine (heldB_at vg.den (1 + (vg.num.n : Int)) _ ((unhide VG).own.sl (vg.den, ⟨dr.den.g, marks (1 + (vg.num.n : Int)) vg.den.n⟩) (by simp)).sl ql1 (by omega) (by omega)).mono ?_
    rintro e wk ⟨rfl, hb⟩
    clear hq0
    replace V0 := hide ((unhide V0).later hb)
    replace T := hide ((unhide T).later hb)
    replace VG := hide ((unhide VG).later hb)
    have hr0 : ¬ ((1 : Int) + (vg.num.n : Int) + (vg.den.n : Int) < 0) := by omega
    have zk : w.heap.size + 2 ≤ wk.heap.size := by have h1 := (unhide VG).gt; omega
    clear p0 p1 p2 p3 hb
    go_upto_region 35 with fail
    go_cut [17, 18, 19] (fun p q r wx => ∃ (G H : Nat) (v : QV) (d : QD) (ok : Bool), p = .pointer (some ⟨G, 0, none⟩) ∧ q = .pointer (some ⟨H, 0, none⟩) ∧ r = .bool ok ∧ Hid (MetD wk wx G H v d) ∧ Hid (U d ok) ∧ Hid (TlawDiv w wx v0 d0 v1 d1))
    case first =>
      as_aux_lemma =>
        have ka0 := (unhide T).x0_0
        have ka1 := (unhide T).x0_1
        have ka2 := (unhide T).x1_0
        have ka3 := (unhide T).x1_1
        go_region_held3 (fun w' => w'.cell? ⟨w.heap.size, 0, none⟩ = some (.bool v0.g) ∧ w'.cell? ⟨w.heap.size, 1, none⟩ = some (.slice v0.a v0.n v0.c) ∧ w'.cell? ⟨w.heap.size + 1, 0, none⟩ = some (.bool v1.g) ∧ w'.cell? ⟨w.heap.size + 1, 1, none⟩ = some (.slice v1.a v1.n v1.c)) (with_reducible (refine ⟨?_, ?_, ?_, ?_⟩ <;> repeat (first | exact ka0 | exact ka1 | exact ka2 | exact ka3 | refine cd_other ?_ | refine ca_other ?_ | refine cs_other ?_ (by omega))))
          (first
          | (go_at_call_of 20 (Value.agg #[Value.bool v0.g, Value.slice v0.a v0.n v0.c]); refine (toB_at v0 d0 _ ?_ l0).mono ?_; (first | exact (unhide T).s0.head.later (Below.refl _ _).drew | exact (unhide T).s0.head.later ((Below.refl _ _).alloc (Nat.le_refl _) _).drew | exact (unhide T).s0.head.later (((Below.refl _ _).alloc (Nat.le_refl _) _).alloc (by simp) _).drew); rintro e wa0 ⟨qa0, rfl, hb, hna0, ow, ar⟩; have hbx : Below wk.heap.size wk wa0 := (by first | exact below_of_drew hb | exact bad hb | exact bad2 hb); have sz0 := hbx.size; replace T := hide ((unhide T).later hbx); replace ka0 := (unhide T).x0_0; replace ka1 := (unhide T).x0_1; replace ka2 := (unhide T).x1_0; replace ka3 := (unhide T).x1_1; (try (replace gaf := fun o => frozen_later hbx (World.block_lt_of_cell? _ _ ga0) (gaf o); replace ga0 := cell_later hbx ga0; replace ga1 := cell_later hbx ga1)); (try (replace gbf := fun o => frozen_later hbx (World.block_lt_of_cell? _ _ gb0) (gbf o); replace gb0 := cell_later hbx gb0; replace gb1 := cell_later hbx gb1)); (first | (refine cutP (p := (wa0.cell? ⟨wk.heap.size, 0, none⟩ = some (.bool false) ∧ wa0.cell? ⟨wk.heap.size, 1, none⟩ = some (.slice none 0 0) ∧ ∀ o, wa0.frozen? ⟨wk.heap.size, o, none⟩ = false) ∧ (wa0.cell? ⟨wk.heap.size + 1, 0, none⟩ = some (.bool false) ∧ wa0.cell? ⟨wk.heap.size + 1, 1, none⟩ = some (.slice none 0 0) ∧ ∀ o, wa0.frozen? ⟨wk.heap.size + 1, o, none⟩ = false)) ?_ (fun dd => ?_); (focus (refine ⟨⟨cell_later hb ?_, cell_later hb ?_, fun o => frozen_later hb ?_ ?_⟩, cell_later hb ?_, cell_later hb ?_, fun o => frozen_later hb ?_ ?_⟩ <;> (simp [go_sem]; done))); obtain ⟨⟨ga0, ga1, gaf⟩, gb0, gb1, gbf⟩ := dd) | (have chk := ga0; clear chk; refine cutP (p := wa0.cell? ⟨wk.heap.size, 0, none⟩ = some (.bool false) ∧ wa0.cell? ⟨wk.heap.size, 1, none⟩ = some (.slice none 0 0) ∧ ∀ o, wa0.frozen? ⟨wk.heap.size, o, none⟩ = false) ?_ (fun dd => ?_); (focus (refine ⟨cell_later hb ?_, cell_later hb ?_, fun o => frozen_later hb ?_ ?_⟩ <;> (simp [go_sem]; done))); obtain ⟨gb0, gb1, gbf⟩ := dd) | (refine cutP (p := wa0.cell? ⟨wk.heap.size, 0, none⟩ = some (.bool false) ∧ wa0.cell? ⟨wk.heap.size, 1, none⟩ = some (.slice none 0 0) ∧ ∀ o, wa0.frozen? ⟨wk.heap.size, o, none⟩ = false) ?_ (fun dd => ?_); (focus (refine ⟨cell_later hb ?_, cell_later hb ?_, fun o => frozen_later hb ?_ ?_⟩ <;> (simp [go_sem]; done))); obtain ⟨ga0, ga1, gaf⟩ := dd) | skip); have zz0 := hb.size; (try simp at zz0); have HBr := hide hbx; have A0 := hide ar; clear hb hbx ow ar hna0)
          | (go_at_call_of 20 (Value.agg #[Value.bool v1.g, Value.slice v1.a v1.n v1.c]); refine (toB_at v1 d1 _ ?_ l1).mono ?_; (first | exact (unhide T).s1.head | exact (unhide T).s1.head.later ((Below.refl _ _).alloc (Nat.le_refl _) _) | exact (unhide T).s1.head.later (((Below.refl _ _).alloc (Nat.le_refl _) _).alloc (by simp) _)); rintro e wa1 ⟨qa1, rfl, hb, hna1, ow, ar⟩; have hbx : Below wa0.heap.size wa0 wa1 := (by first | exact hb | exact ba hb | exact ba2 hb); have sz1 := hbx.size; replace T := hide ((unhide T).later hbx); replace ka0 := (unhide T).x0_0; replace ka1 := (unhide T).x0_1; replace ka2 := (unhide T).x1_0; replace ka3 := (unhide T).x1_1; replace A0 := hide ((unhide A0).later hbx); (try (replace gaf := fun o => frozen_later hbx (World.block_lt_of_cell? _ _ ga0) (gaf o); replace ga0 := cell_later hbx ga0; replace ga1 := cell_later hbx ga1)); (try (replace gbf := fun o => frozen_later hbx (World.block_lt_of_cell? _ _ gb0) (gbf o); replace gb0 := cell_later hbx gb0; replace gb1 := cell_later hbx gb1)); (first | (refine cutP (p := (wa1.cell? ⟨wa0.heap.size, 0, none⟩ = some (.bool false) ∧ wa1.cell? ⟨wa0.heap.size, 1, none⟩ = some (.slice none 0 0) ∧ ∀ o, wa1.frozen? ⟨wa0.heap.size, o, none⟩ = false) ∧ (wa1.cell? ⟨wa0.heap.size + 1, 0, none⟩ = some (.bool false) ∧ wa1.cell? ⟨wa0.heap.size + 1, 1, none⟩ = some (.slice none 0 0) ∧ ∀ o, wa1.frozen? ⟨wa0.heap.size + 1, o, none⟩ = false)) ?_ (fun dd => ?_); (focus (refine ⟨⟨cell_later hb ?_, cell_later hb ?_, fun o => frozen_later hb ?_ ?_⟩, cell_later hb ?_, cell_later hb ?_, fun o => frozen_later hb ?_ ?_⟩ <;> (simp [go_sem]; done))); obtain ⟨⟨ga0, ga1, gaf⟩, gb0, gb1, gbf⟩ := dd) | (have chk := ga0; clear chk; refine cutP (p := wa1.cell? ⟨wa0.heap.size, 0, none⟩ = some (.bool false) ∧ wa1.cell? ⟨wa0.heap.size, 1, none⟩ = some (.slice none 0 0) ∧ ∀ o, wa1.frozen? ⟨wa0.heap.size, o, none⟩ = false) ?_ (fun dd => ?_); (focus (refine ⟨cell_later hb ?_, cell_later hb ?_, fun o => frozen_later hb ?_ ?_⟩ <;> (simp [go_sem]; done))); obtain ⟨gb0, gb1, gbf⟩ := dd) | (refine cutP (p := wa1.cell? ⟨wa0.heap.size, 0, none⟩ = some (.bool false) ∧ wa1.cell? ⟨wa0.heap.size, 1, none⟩ = some (.slice none 0 0) ∧ ∀ o, wa1.frozen? ⟨wa0.heap.size, o, none⟩ = false) ?_ (fun dd => ?_); (focus (refine ⟨cell_later hb ?_, cell_later hb ?_, fun o => frozen_later hb ?_ ?_⟩ <;> (simp [go_sem]; done))); obtain ⟨ga0, ga1, gaf⟩ := dd) | skip); have zz1 := hb.size; (try simp at zz1); have HBr := hide (below_on (unhide HBr) hbx); have A1 := hide ar; clear hb hbx ow ar hna1)
          | (go_at_call 21; refine (unhide CI _ _ _ ?_ ?_).mono ?_; (first | exact unhide A0 | exact (unhide A0).later ((Below.refl _ _).alloc (Nat.le_refl _) _) | exact (unhide A0).later (((Below.refl _ _).alloc (Nat.le_refl _) _).alloc (by simp) _)); (first | exact unhide A1 | exact (unhide A1).later ((Below.refl _ _).alloc (Nat.le_refl _) _) | exact (unhide A1).later (((Below.refl _ _).alloc (Nat.le_refl _) _).alloc (by simp) _)); rintro e w5 ⟨vr, dr, okr, rfl, hb, hown, hu⟩; have hbx : Below wa1.heap.size wa1 w5 := (by first | exact hb | exact ba hb | exact ba2 hb); have sz2 := hbx.size; replace T := hide ((unhide T).later hbx); replace ka0 := (unhide T).x0_0; replace ka1 := (unhide T).x0_1; replace ka2 := (unhide T).x1_0; replace ka3 := (unhide T).x1_1; replace A0 := hide ((unhide A0).later hbx); replace A1 := hide ((unhide A1).later hbx); (try (replace gaf := fun o => frozen_later hbx (World.block_lt_of_cell? _ _ ga0) (gaf o); replace ga0 := cell_later hbx ga0; replace ga1 := cell_later hbx ga1)); (try (replace gbf := fun o => frozen_later hbx (World.block_lt_of_cell? _ _ gb0) (gbf o); replace gb0 := cell_later hbx gb0; replace gb1 := cell_later hbx gb1)); (first | (refine cutP (p := (w5.cell? ⟨wa1.heap.size, 0, none⟩ = some (.bool false) ∧ w5.cell? ⟨wa1.heap.size, 1, none⟩ = some (.slice none 0 0) ∧ ∀ o, w5.frozen? ⟨wa1.heap.size, o, none⟩ = false) ∧ (w5.cell? ⟨wa1.heap.size + 1, 0, none⟩ = some (.bool false) ∧ w5.cell? ⟨wa1.heap.size + 1, 1, none⟩ = some (.slice none 0 0) ∧ ∀ o, w5.frozen? ⟨wa1.heap.size + 1, o, none⟩ = false)) ?_ (fun dd => ?_); (focus (refine ⟨⟨cell_later hb ?_, cell_later hb ?_, fun o => frozen_later hb ?_ ?_⟩, cell_later hb ?_, cell_later hb ?_, fun o => frozen_later hb ?_ ?_⟩ <;> (simp [go_sem]; done))); obtain ⟨⟨ga0, ga1, gaf⟩, gb0, gb1, gbf⟩ := dd) | (have chk := ga0; clear chk; refine cutP (p := w5.cell? ⟨wa1.heap.size, 0, none⟩ = some (.bool false) ∧ w5.cell? ⟨wa1.heap.size, 1, none⟩ = some (.slice none 0 0) ∧ ∀ o, w5.frozen? ⟨wa1.heap.size, o, none⟩ = false) ?_ (fun dd => ?_); (focus (refine ⟨cell_later hb ?_, cell_later hb ?_, fun o => frozen_later hb ?_ ?_⟩ <;> (simp [go_sem]; done))); obtain ⟨gb0, gb1, gbf⟩ := dd) | (refine cutP (p := w5.cell? ⟨wa1.heap.size, 0, none⟩ = some (.bool false) ∧ w5.cell? ⟨wa1.heap.size, 1, none⟩ = some (.slice none 0 0) ∧ ∀ o, w5.frozen? ⟨wa1.heap.size, o, none⟩ = false) ?_ (fun dd => ?_); (focus (refine ⟨cell_later hb ?_, cell_later hb ?_, fun o => frozen_later hb ?_ ?_⟩ <;> (simp [go_sem]; done))); obtain ⟨ga0, ga1, gaf⟩ := dd) | skip); have zz2 := hb.size; (try simp at zz2); have HBr := hide (below_on (unhide HBr) hbx); (try (have ga2 := fun ob => ca_other (ob := ob) ga0; have ga3 := fun ob => ca_other (ob := ob) ga1; have ga4 := fun ob => frozen_alloc (ob := ob) ga0 gaf; have nea := ne_size ga0; have nea2 := Ne.symm nea)); (try (have gb2 := fun ob => ca_other (ob := ob) gb0; have gb3 := fun ob => ca_other (ob := ob) gb1; have gb4 := fun ob => frozen_alloc (ob := ob) gb0 gbf; have neb := ne_size gb0; have neb2 := Ne.symm neb)); (try (have neab := ne_cells ga0 gb0 (by omega); have neba := Ne.symm neab)); have O5 := hide hown; have U5 := hide hu; clear hb hbx hown hu))
        all_goals go_wp2_with fail
        all_goals go_meet
        all_goals exact ⟨_, _, vr, dr, okr, rfl, rfl, rfl, divFin (unhide HBr) (unhide O5) (by first | omega | (simp; omega)) (by (repeat (with_reducible first | exact But.refl _ _ _ | refine But.alloc' ?_ _ | refine But.drew' ?_ | refine But.set' ?_ _ (by first | omega | (simp; omega))))) ⟨by omega, by omega⟩ (by (repeat (first | with_reducible exact ca_new0 | with_reducible exact ca_new1 | with_reducible exact ca_newb0 | with_reducible exact ca_newb1 | (with_reducible refine cs_hit ?_; (repeat (with_reducible first | exact Has.of ga0 | exact Has.of ga1 | exact Has.of gb0 | exact Has.of gb1 | exact Has.of ca_new0 | exact Has.of ca_new1 | exact Has.of ca_newb0 | exact Has.of ca_newb1 | refine Has.set ?_ | refine Has.alloc ?_)); done) | with_reducible refine cs_skip ?_ (by omega) | with_reducible refine ca_other ?_ | (simp [go_sem]; done)))) (by (repeat (first | with_reducible exact ca_new0 | with_reducible exact ca_new1 | with_reducible exact ca_newb0 | with_reducible exact ca_newb1 | (with_reducible refine cs_hit ?_; (repeat (with_reducible first | exact Has.of ga0 | exact Has.of ga1 | exact Has.of gb0 | exact Has.of gb1 | exact Has.of ca_new0 | exact Has.of ca_new1 | exact Has.of ca_newb0 | exact Has.of ca_newb1 | refine Has.set ?_ | refine Has.alloc ?_)); done) | with_reducible refine cs_skip ?_ (by omega) | with_reducible refine ca_other ?_ | (simp [go_sem]; done)))) (by (repeat (first | with_reducible exact ca_new0 | with_reducible exact ca_new1 | with_reducible exact ca_newb0 | with_reducible exact ca_newb1 | (with_reducible refine cs_hit ?_; (repeat (with_reducible first | exact Has.of ga0 | exact Has.of ga1 | exact Has.of gb0 | exact Has.of gb1 | exact Has.of ca_new0 | exact Has.of ca_new1 | exact Has.of ca_newb0 | exact Has.of ca_newb1 | refine Has.set ?_ | refine Has.alloc ?_)); done) | with_reducible refine cs_skip ?_ (by omega) | with_reducible refine ca_other ?_ | (simp [go_sem]; done)))) (by (repeat (first | with_reducible exact ca_new0 | with_reducible exact ca_new1 | with_reducible exact ca_newb0 | with_reducible exact ca_newb1 | (with_reducible refine cs_hit ?_; (repeat (with_reducible first | exact Has.of ga0 | exact Has.of ga1 | exact Has.of gb0 | exact Has.of gb1 | exact Has.of ca_new0 | exact Has.of ca_new1 | exact Has.of ca_newb0 | exact Has.of ca_newb1 | refine Has.set ?_ | refine Has.alloc ?_)); done) | with_reducible refine cs_skip ?_ (by omega) | with_reducible refine ca_other ?_ | (simp [go_sem]; done)))) U5 (unhide T) (by omega) (unhide HX0) (unhide HX1)⟩
    case rest =>
      obtain ⟨GH, HH, vh, dh, okh, rfl, rfl, rfl, HM, UH, T9⟩ := hcut
      obtain ⟨e1, e2⟩ := unhide US _ _ _ _ (unhide UR) (unhide UH)
      subst e1 e2
      have VH := hide (unhide HM).var
      replace V0 := hide ((unhide V0).later (unhide HM).bel)
      replace VG := hide ((unhide VG).later (unhide HM).bel)
      clear HM
      clear T
      have T := T9
      clear T9
      have hm0 : vh.num.n ≤ maxLen := by rw [← ((unhide VH).own.own (vh.num, dr.num) (by simp)).len, ((unhide V0).own.own (vr.num, dr.num) (by simp)).len]; exact rm0
      have hm1 : vh.den.n ≤ maxLen := by rw [← ((unhide VH).own.own (vh.den, dr.den) (by simp)).len, ((unhide V0).own.own (vr.den, dr.den) (by simp)).len]; exact rm1
      have p0 := (unhide VH).c0
      have pq0 := (unhide V0).c0
      have p1 := (unhide VH).c1
      have pq1 := (unhide V0).c1
      have p2 := (unhide VH).c2
      have pq2 := (unhide V0).c2
      have p3 := (unhide VH).c3
      have pq3 := (unhide V0).c3
      go_wp2_with fail
      refine (eqB_at vh.num vr.num dr.num _ ((unhide VH).own.sl (vh.num, dr.num) (by simp)) ((unhide V0).own.sl (vr.num, dr.num) (by simp)) hm0).mono ?_
      rintro e w30b ⟨rfl, hb⟩
      clear p0 p1 p2 p3 pq0 pq1 pq2 pq3
      replace V0 := hide ((unhide V0).later hb)
      replace T := hide ((unhide T).later hb)
      replace VG := hide ((unhide VG).later hb)
      replace VH := hide ((unhide VH).later hb)
      clear hb
      have p0 := (unhide VH).c0
      have pq0 := (unhide V0).c0
      have p1 := (unhide VH).c1
      have pq1 := (unhide V0).c1
      have p2 := (unhide VH).c2
      have pq2 := (unhide V0).c2
      have p3 := (unhide VH).c3
      have pq3 := (unhide V0).c3
      go_wp2_with fail
      refine (eqB_at vh.den vr.den dr.den _ ((unhide VH).own.sl (vh.den, dr.den) (by simp)) ((unhide V0).own.sl (vr.den, dr.den) (by simp)) hm1).mono ?_
      rintro e w30 ⟨rfl, hb⟩
      clear p0 pq0 p1 pq1 p2 pq2 p3 pq3
      replace T := hide ((unhide T).later hb)
      replace VG := hide ((unhide VG).later hb)
      clear hb VH V0
      have p0 := (unhide VG).c0
      have p1 := (unhide VG).c1
      have p2 := (unhide VG).c2
      have p3 := (unhide VG).c3
      go_wp2_with fail
      refine (heldB_at vg.num 1 _ ((unhide VG).own.sl (vg.num, ⟨dr.num.g, marks (1) vg.num.n⟩) (by simp)).sl ql0 (by omega) (by omega)).mono ?_
      rintro e w31b ⟨rfl, hb⟩
      clear p0 p1 p2 p3
      replace T := hide ((unhide T).later hb)
      replace VG := hide ((unhide VG).later hb)
      clear hb
      have hq0 : ¬ ((1 : Int) + (vg.num.n : Int) < 0) := by omega
      have p0 := (unhide VG).c0
      have p1 := (unhide VG).c1
      have p2 := (unhide VG).c2
      have p3 := (unhide VG).c3
      go_wp2_with fail
      refine (heldB_at vg.den (1 + (vg.num.n : Int)) _ ((unhide VG).own.sl (vg.den, ⟨dr.den.g, marks (1 + (vg.num.n : Int)) vg.den.n⟩) (by simp)).sl ql1 (by omega) (by omega)).mono ?_
      rintro e w31 ⟨rfl, hb⟩
      clear hq0
      replace T := hide ((unhide T).later hb)
      clear p0 p1 p2 p3 hb
      go_wp2
      go_ret
      exact ⟨rfl, (unhide T).bel⟩

theorem lawDiv_walk (v0 : BV) (v1 : BV) (d0 : BD) (d1 : BD) (w : World) (hx0 : AllSl w [(v0, d0)]) (hx1 : AllSl w [(v1, d1)])  (m0 : v0.n ≤ maxLen) (m1 : v1.n ≤ maxLen) :
    Calls Try.prog 3 #[.agg #[.bool v0.g, .slice v0.a v0.n v0.c], .agg #[.bool v1.g, .slice v1.a v1.n v1.c]] w fun e w' => e = .returned (.bool true) ∧ Below w.heap.size w w' := by
  by_cases g0 : v0.n ≤ 1048576
  · by_cases g1 : v0.n + v1.n ≤ 1048576
    · exact lawDiv_in v0 v1 d0 d1 w hx0 hx1  g1
    · exact lawDiv_out1 v0 v1 w m1 g0 (by omega)
  · exact lawDiv_out0 v0 v1 w m0 (by omega) (by omega)
end Go.Proofs.Ytfmjbpfnhgkhkaa
