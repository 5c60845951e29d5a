/- The law FnExactSimplestIn returns true for every argument and leaves it as it was: the given statement FnExactSimplestInSaid. No condition. -/
import Derived.Test.YtlmeokeanihhoaaPkSimplestIn
import Derived.Test.YtlmeokeanihhoaaIo
import Derived.Test.YtlmeokeanihhoaaOpenQ
namespace Go.Proofs.Ytlmeokeanihhoaa
open Go.RowKit
set_option linter.unusedVariables false
set_option maxRecDepth 100000
set_option linter.unusedSimpArgs false

structure TlawSimp (w wx : World) (v0 : QV) (d0 : QD) (v1 : QV) (d1 : QD) : Prop where
  bel : Below w.heap.size w wx
  x0_0 : wx.cell? ⟨w.heap.size, 0, none⟩ = some (.bool v0.num.g)
  x0_1 : wx.cell? ⟨w.heap.size, 1, none⟩ = some (.slice v0.num.a v0.num.n v0.num.c)
  x0_2 : wx.cell? ⟨w.heap.size, 2, none⟩ = some (.bool v0.den.g)
  x0_3 : wx.cell? ⟨w.heap.size, 3, none⟩ = some (.slice v0.den.a v0.den.n v0.den.c)
  x1_0 : wx.cell? ⟨w.heap.size + 1, 0, none⟩ = some (.bool v1.num.g)
  x1_1 : wx.cell? ⟨w.heap.size + 1, 1, none⟩ = some (.slice v1.num.a v1.num.n v1.num.c)
  x1_2 : wx.cell? ⟨w.heap.size + 1, 2, none⟩ = some (.bool v1.den.g)
  x1_3 : wx.cell? ⟨w.heap.size + 1, 3, none⟩ = some (.slice v1.den.a v1.den.n v1.den.c)
  s0 : AllSl wx [(v0.num, d0.num), (v0.den, d0.den)]
  s1 : AllSl wx [(v1.num, d1.num), (v1.den, d1.den)]
theorem TlawSimp.later {w wx wy : World} {v0 : QV} {d0 : QD} {v1 : QV} {d1 : QD} (h : TlawSimp w wx v0 d0 v1 d1) (hb : Below wx.heap.size wx wy) : TlawSimp w wy v0 d0 v1 d1 :=
  ⟨below_on h.bel hb, cell_later hb h.x0_0, cell_later hb h.x0_1, cell_later hb h.x0_2, cell_later hb h.x0_3, cell_later hb h.x1_0, cell_later hb h.x1_1, cell_later hb h.x1_2, cell_later hb h.x1_3, h.s0.later hb, h.s1.later hb⟩
theorem TlawSimp.but {w wx wy : World} {v0 : QV} {d0 : QD} {v1 : QV} {d1 : QD} {lo hi : Nat} (h : TlawSimp w wx v0 d0 v1 d1) (hb : But lo hi wx wy) (hl : w.heap.size + 2 ≤ lo) (hx0 : AllSl w [(v0.num, d0.num), (v0.den, d0.den)]) (hx1 : AllSl w [(v1.num, d1.num), (v1.den, d1.den)]) : TlawSimp w wy v0 d0 v1 d1 := by
  have hB := hb.below h.bel (by omega) h.bel.size
  exact ⟨hB, hb.cell h.x0_0 (by omega), hb.cell h.x0_1 (by omega), hb.cell h.x0_2 (by omega), hb.cell h.x0_3 (by omega), hb.cell h.x1_0 (by omega), hb.cell h.x1_1 (by omega), hb.cell h.x1_2 (by omega), hb.cell h.x1_3 (by omega), hx0.later hB, hx1.later hB⟩
theorem TlawSimp.start (w : World) (v0 : QV) (d0 : QD) (v1 : QV) (d1 : QD) (t0 : TypeId) (t1 : TypeId) (hx0 : AllSl w [(v0.num, d0.num), (v0.den, d0.den)]) (hx1 : AllSl w [(v1.num, d1.num), (v1.den, d1.den)]) : TlawSimp w ((w.alloc (.cells #[.bool v0.num.g, .slice v0.num.a v0.num.n v0.num.c, .bool v0.den.g, .slice v0.den.a v0.den.n v0.den.c] t0)).alloc (.cells #[.bool v1.num.g, .slice v1.num.a v1.num.n v1.num.c, .bool v1.den.g, .slice v1.den.a v1.den.n v1.den.c] t1)) v0 d0 v1 d1 := by
  have hb : Below w.heap.size w ((w.alloc (.cells #[.bool v0.num.g, .slice v0.num.a v0.num.n v0.num.c, .bool v0.den.g, .slice v0.den.a v0.den.n v0.den.c] t0)).alloc (.cells #[.bool v1.num.g, .slice v1.num.a v1.num.n v1.num.c, .bool v1.den.g, .slice v1.den.a v1.den.n v1.den.c] t1)) := ((Below.refl _ _).alloc (Nat.le_refl _) _).alloc (by simp) _
  exact ⟨hb, by simp [go_sem], by simp [go_sem], by simp [go_sem], by simp [go_sem], by simp [go_sem], by simp [go_sem], by simp [go_sem], by simp [go_sem], hx0.later hb, hx1.later hb⟩

set_option maxHeartbeats 1000000 in
theorem lawSimp_out0 (v0 : QV) (v1 : QV) (w : World) (m0 : v0.num.n ≤ maxLen) (m1 : v0.den.n ≤ maxLen) (h0 : 0 ≤ 1048576) (h : 1048576 < v0.num.n + v0.den.n) :
    Calls Try.prog 7 #[.agg #[.bool v0.num.g, .slice v0.num.a v0.num.n v0.num.c, .bool v0.den.g, .slice v0.den.a v0.den.n v0.den.c], .agg #[.bool v1.num.g, .slice v1.num.a v1.num.n v1.num.c, .bool v1.den.g, .slice v1.den.a v1.den.n v1.den.c]] w fun e w' => e = .returned (.bool true) ∧ Below w.heap.size w w' := by
  go_enter Try.func7, Try.ntmps7
  go_wp2_with fail
  refine (szQ_out v0 _ _ (by omega) (by omega) m0 m1 (by omega)).mono ?_
  rintro e w1 ⟨rfl, hb⟩
  have HB := hide (below_two' hb)
  clear hb
  go_wp2
  go_ret
  exact ⟨rfl, unhide HB⟩

set_option maxHeartbeats 1000000 in
theorem lawSimp_out1 (v0 : QV) (v1 : QV) (w : World) (m0 : v1.num.n ≤ maxLen) (m1 : v1.den.n ≤ maxLen) (h0 : v0.num.n + v0.den.n ≤ 1048576) (h : 1048576 < v0.num.n + v0.den.n + v1.num.n + v1.den.n) :
    Calls Try.prog 7 #[.agg #[.bool v0.num.g, .slice v0.num.a v0.num.n v0.num.c, .bool v0.den.g, .slice v0.den.a v0.den.n v0.den.c], .agg #[.bool v1.num.g, .slice v1.num.a v1.num.n v1.num.c, .bool v1.den.g, .slice v1.den.a v1.den.n v1.den.c]] w fun e w' => e = .returned (.bool true) ∧ Below w.heap.size w w' := by
  have hd0 : ¬ ((1048576 : Int) - (v0.num.n : Int) - (v0.den.n : Int) < 0) := by omega
  go_enter Try.func7, Try.ntmps7
  go_wp2_with fail
  refine (szQ_in v0 _ _ (by omega) (by omega) (by omega)).mono ?_
  rintro e w1 ⟨rfl, hb⟩
  have y1_0 : w1.cell? ⟨w.heap.size + 1, 0, none⟩ = some (.bool v1.num.g) := cell_later hb (by simp [go_sem])
  have y1_1 : w1.cell? ⟨w.heap.size + 1, 1, none⟩ = some (.slice v1.num.a v1.num.n v1.num.c) := cell_later hb (by simp [go_sem])
  have y1_2 : w1.cell? ⟨w.heap.size + 1, 2, none⟩ = some (.bool v1.den.g) := cell_later hb (by simp [go_sem])
  have y1_3 : w1.cell? ⟨w.heap.size + 1, 3, none⟩ = some (.slice v1.den.a v1.den.n v1.den.c) := cell_later hb (by simp [go_sem])
  have HB := hide (below_two' hb)
  clear hb
  go_wp2_with fail
  refine (szQ_out v1 _ _ (by omega) (by omega) m0 m1 (by omega)).mono ?_
  rintro e w2 ⟨rfl, hb⟩
  replace HB := hide (below_on (unhide HB) hb)
  clear hb
  go_wp2
  go_ret
  exact ⟨rfl, unhide HB⟩

set_option maxRecDepth 100000 in
set_option maxHeartbeats 16000000 in
theorem lawSimp_in (v0 : QV) (v1 : QV) (d0 : QD) (d1 : QD) (w : World) (hx0 : AllSl w [(v0.num, d0.num), (v0.den, d0.den)]) (hx1 : AllSl w [(v1.num, d1.num), (v1.den, d1.den)])  (h : v0.num.n + v0.den.n + v1.num.n + v1.den.n ≤ 1048576) :
    Calls Try.prog 7 #[.agg #[.bool v0.num.g, .slice v0.num.a v0.num.n v0.num.c, .bool v0.den.g, .slice v0.den.a v0.den.n v0.den.c], .agg #[.bool v1.num.g, .slice v1.num.a v1.num.n v1.num.c, .bool v1.den.g, .slice v1.den.a v1.den.n v1.den.c]] w fun e w' => e = .returned (.bool true) ∧ Below w.heap.size w w' := by
  have HX0 := hide hx0
  have HX1 := hide hx1
  clear hx0 hx1
  have l0 : v0.num.n ≤ 1048576 := by omega
  have lm0 : v0.num.n ≤ maxLen := by unfold maxLen; omega
  have l1 : v0.den.n ≤ 1048576 := by omega
  have lm1 : v0.den.n ≤ maxLen := by unfold maxLen; omega
  have l2 : v1.num.n ≤ 1048576 := by omega
  have lm2 : v1.num.n ≤ maxLen := by unfold maxLen; omega
  have l3 : v1.den.n ≤ 1048576 := by omega
  have lm3 : v1.den.n ≤ maxLen := by unfold maxLen; omega
  have hd0 : ¬ ((1048576 : Int) - (v0.num.n : Int) - (v0.den.n : Int) < 0) := by omega
  have hd1 : ¬ ((1048576 : Int) - (v0.num.n : Int) - (v0.den.n : Int) - (v1.num.n : Int) - (v1.den.n : Int) < 0) := by omega
  obtain ⟨U, HU⟩ : ∃ U : QD → Bool → Prop, Hid (U = AnsQ (pS d0 d1) (smp (nQ d0) (dQ d0) (nQ d1) (dQ d1)).1 (smp (nQ d0) (dQ d0) (nQ d1) (dQ d1)).2) := ⟨_, hide rfl⟩
  have US : Hid (∀ d ok d' ok', U d ok → U d' ok' → d = d' ∧ ok = ok') := hide (by rw [unhide HU]; exact fun d ok d' ok' h k => h.same k)
  have UL : Hid (∀ d ok, U d ok → d.num.xs.length ≤ 40 ∧ d.den.xs.length ≤ 40) := hide (by rw [unhide HU]; exact fun d ok h => h.lens)
  have CS : Hid (∀ (q0 : QV) (q1 : QV) (w : World), AllAr w [(q0.num, d0.num), (q0.den, d0.den)] → AllAr w [(q1.num, d1.num), (q1.den, d1.den)] → Calls Try.prog 32 #[.agg #[.bool q0.num.g, .slice q0.num.a q0.num.n q0.num.c, .bool q0.den.g, .slice q0.den.a q0.den.n q0.den.c], .agg #[.bool q1.num.g, .slice q1.num.a q1.num.n q1.num.c, .bool q1.den.g, .slice q1.den.a q1.den.n q1.den.c]] w (RetQ w U)) := hide (by rw [unhide HU]; exact fun q0 q1 w h0 h1 => SimpRS q0 q1 d0 d1 w h0 h1)
  have CI : Hid (∀ (q0 : QV) (q1 : QV) (w : World), AllAr w [(q0.num, d0.num), (q0.den, d0.den)] → AllAr w [(q1.num, d1.num), (q1.den, d1.den)] → Calls Try.prog 33 #[.agg #[.bool q0.num.g, .slice q0.num.a q0.num.n q0.num.c, .bool q0.den.g, .slice q0.den.a q0.den.n q0.den.c], .agg #[.bool q1.num.g, .slice q1.num.a q1.num.n q1.num.c, .bool q1.den.g, .slice q1.den.a q1.den.n q1.den.c]] w (RetQ w U)) := hide (by rw [unhide HU]; exact fun q0 q1 w h0 h1 => SimpRI q0 q1 d0 d1 w h0 h1)
  clear HU
  go_enter Try.func7, Try.ntmps7
  go_wp2_with fail
  refine (szQ_in v0 _ _ (by omega) (by omega) (by omega)).mono ?_
  rintro e w1 ⟨rfl, hb⟩
  have T := hide ((TlawSimp.start w v0 d0 v1 d1 26 26 (unhide HX0) (unhide HX1)).later hb)
  have z : w.heap.size + 2 ≤ w1.heap.size := by have := hb.size; simp at this; omega
  have y0 := (unhide T).x1_0
  have y1 := (unhide T).x1_1
  have y2 := (unhide T).x1_2
  have y3 := (unhide T).x1_3
  clear hb
  go_wp2_with fail
  refine (szQ_in v1 _ _ (by omega) (by omega) (by omega)).mono ?_
  rintro e w2 ⟨rfl, hb⟩
  replace T := hide ((unhide T).later hb)
  replace z : w.heap.size + 2 ≤ w2.heap.size := Nat.le_trans z hb.size
  clear y0 y1 y2 y3
  clear hb
  go_upto_region 8 with fail
  go_cut [6, 7] (fun p q wx => ∃ (G : Nat) (v : QV) (d : QD) (ok : Bool), p = .pointer (some ⟨G, 0, none⟩) ∧ q = .bool ok ∧ Hid (MetQ w2 wx G v d) ∧ Hid (U d ok) ∧ Hid (TlawSimp w wx v0 d0 v1 d1))
  case first =>
    have ka0 := (unhide T).x0_0
    have ka1 := (unhide T).x0_1
    have ka2 := (unhide T).x0_2
    have ka3 := (unhide T).x0_3
    have ka4 := (unhide T).x1_0
    have ka5 := (unhide T).x1_1
    have ka6 := (unhide T).x1_2
    have ka7 := (unhide T).x1_3
    go_region_held3 (fun w' => w'.cell? ⟨w.heap.size, 0, none⟩ = some (.bool v0.num.g) ∧ w'.cell? ⟨w.heap.size, 1, none⟩ = some (.slice v0.num.a v0.num.n v0.num.c) ∧ w'.cell? ⟨w.heap.size, 2, none⟩ = some (.bool v0.den.g) ∧ w'.cell? ⟨w.heap.size, 3, none⟩ = some (.slice v0.den.a v0.den.n v0.den.c) ∧ w'.cell? ⟨w.heap.size + 1, 0, none⟩ = some (.bool v1.num.g) ∧ w'.cell? ⟨w.heap.size + 1, 1, none⟩ = some (.slice v1.num.a v1.num.n v1.num.c) ∧ w'.cell? ⟨w.heap.size + 1, 2, none⟩ = some (.bool v1.den.g) ∧ w'.cell? ⟨w.heap.size + 1, 3, none⟩ = some (.slice v1.den.a v1.den.n v1.den.c)) (with_reducible (first | exact ⟨ka0, ka1, ka2, ka3, ka4, ka5, ka6, ka7⟩ | exact ⟨cd_other ka0, cd_other ka1, cd_other ka2, cd_other ka3, cd_other ka4, cd_other ka5, cd_other ka6, cd_other ka7⟩ | exact ⟨ca_other ka0, ca_other ka1, ca_other ka2, ca_other ka3, ca_other ka4, ca_other ka5, ca_other ka6, ca_other ka7⟩ | exact ⟨cd_other (ca_other ka0), cd_other (ca_other ka1), cd_other (ca_other ka2), cd_other (ca_other ka3), cd_other (ca_other ka4), cd_other (ca_other ka5), cd_other (ca_other ka6), cd_other (ca_other ka7)⟩ | exact ⟨cs_other (cs_other (cs_other (cs_other (ka0) (by omega)) (by omega)) (by omega)) (by omega), cs_other (cs_other (cs_other (cs_other (ka1) (by omega)) (by omega)) (by omega)) (by omega), cs_other (cs_other (cs_other (cs_other (ka2) (by omega)) (by omega)) (by omega)) (by omega), cs_other (cs_other (cs_other (cs_other (ka3) (by omega)) (by omega)) (by omega)) (by omega), cs_other (cs_other (cs_other (cs_other (ka4) (by omega)) (by omega)) (by omega)) (by omega), cs_other (cs_other (cs_other (cs_other (ka5) (by omega)) (by omega)) (by omega)) (by omega), cs_other (cs_other (cs_other (cs_other (ka6) (by omega)) (by omega)) (by omega)) (by omega), cs_other (cs_other (cs_other (cs_other (ka7) (by omega)) (by omega)) (by omega)) (by omega)⟩ | fail))
      (first
      | (go_at_call_of 21 (Value.agg #[Value.bool v0.num.g, Value.slice v0.num.a v0.num.n v0.num.c, Value.bool v0.den.g, Value.slice v0.den.a v0.den.n v0.den.c]); refine (toQ_at v0 d0 _ ?_ l0 l1).mono ?_; (first | exact (unhide T).s0.later (Below.refl _ _).drew | exact (unhide T).s0.later ((Below.refl _ _).alloc (Nat.le_refl _) _).drew); rintro e wa0 ⟨qa0, rfl, hb, hna0, ow, ar⟩; have hbx : Below w2.heap.size w2 wa0 := (by first | exact below_of_drew hb | exact bad hb); have sz0 := hbx.size; replace T := hide ((unhide T).later hbx); replace ka0 := (unhide T).x0_0; replace ka1 := (unhide T).x0_1; replace ka2 := (unhide T).x0_2; replace ka3 := (unhide T).x0_3; replace ka4 := (unhide T).x1_0; replace ka5 := (unhide T).x1_1; replace ka6 := (unhide T).x1_2; replace ka7 := (unhide T).x1_3; (try (replace gf := fun o => frozen_later hbx (World.block_lt_of_cell? _ _ g0) (gf o); replace g0 := cell_later hbx g0; replace g1 := cell_later hbx g1; replace g2 := cell_later hbx g2; replace g3 := cell_later hbx g3)); (try (refine cutP (p := wa0.cell? ⟨w2.heap.size, 0, none⟩ = some (.bool false) ∧ wa0.cell? ⟨w2.heap.size, 1, none⟩ = some (.slice none 0 0) ∧ wa0.cell? ⟨w2.heap.size, 2, none⟩ = some (.bool false) ∧ wa0.cell? ⟨w2.heap.size, 3, none⟩ = some (.slice none 0 0) ∧ ∀ o, wa0.frozen? ⟨w2.heap.size, o, none⟩ = false) ?_ (fun dd => ?_); (focus (refine ⟨cell_later hb ?_, cell_later hb ?_, cell_later hb ?_, cell_later hb ?_, fun o => frozen_later hb ?_ ?_⟩ <;> (simp [go_sem]; done))); obtain ⟨g0, g1, g2, g3, gf⟩ := dd)); have zz0 := hb.size; (try simp at zz0); have HBr := hide hbx; have A0 := hide ar; clear hb hbx ow ar hna0)
      | (go_at_call_of 21 (Value.agg #[Value.bool v1.num.g, Value.slice v1.num.a v1.num.n v1.num.c, Value.bool v1.den.g, Value.slice v1.den.a v1.den.n v1.den.c]); refine (toQ_at v1 d1 _ ?_ l2 l3).mono ?_; (first | exact (unhide T).s1 | exact (unhide T).s1.later ((Below.refl _ _).alloc (Nat.le_refl _) _)); rintro e wa1 ⟨qa1, rfl, hb, hna1, ow, ar⟩; have hbx : Below wa0.heap.size wa0 wa1 := (by first | exact hb | exact ba hb); have sz1 := hbx.size; replace T := hide ((unhide T).later hbx); replace ka0 := (unhide T).x0_0; replace ka1 := (unhide T).x0_1; replace ka2 := (unhide T).x0_2; replace ka3 := (unhide T).x0_3; replace ka4 := (unhide T).x1_0; replace ka5 := (unhide T).x1_1; replace ka6 := (unhide T).x1_2; replace ka7 := (unhide T).x1_3; replace A0 := hide ((unhide A0).later hbx); (try (replace gf := fun o => frozen_later hbx (World.block_lt_of_cell? _ _ g0) (gf o); replace g0 := cell_later hbx g0; replace g1 := cell_later hbx g1; replace g2 := cell_later hbx g2; replace g3 := cell_later hbx g3)); (try (refine cutP (p := wa1.cell? ⟨wa0.heap.size, 0, none⟩ = some (.bool false) ∧ wa1.cell? ⟨wa0.heap.size, 1, none⟩ = some (.slice none 0 0) ∧ wa1.cell? ⟨wa0.heap.size, 2, none⟩ = some (.bool false) ∧ wa1.cell? ⟨wa0.heap.size, 3, none⟩ = some (.slice none 0 0) ∧ ∀ o, wa1.frozen? ⟨wa0.heap.size, o, none⟩ = false) ?_ (fun dd => ?_); (focus (refine ⟨cell_later hb ?_, cell_later hb ?_, cell_later hb ?_, cell_later hb ?_, fun o => frozen_later hb ?_ ?_⟩ <;> (simp [go_sem]; done))); obtain ⟨g0, g1, g2, g3, gf⟩ := dd)); have zz1 := hb.size; (try simp at zz1); have HBr := hide (below_on (unhide HBr) hbx); have A1 := hide ar; clear hb hbx ow ar hna1)
      | (go_at_call 32; refine (unhide CS _ _ _ ?_ ?_).mono ?_; (first | exact unhide A0 | exact (unhide A0).later ((Below.refl _ _).alloc (Nat.le_refl _) _)); (first | exact unhide A1 | exact (unhide A1).later ((Below.refl _ _).alloc (Nat.le_refl _) _)); rintro e w5 ⟨vr, dr, okr, rfl, hb, hown, hu⟩; have hbx : Below wa1.heap.size wa1 w5 := (by first | exact hb | exact ba hb); have sz2 := hbx.size; replace T := hide ((unhide T).later hbx); replace ka0 := (unhide T).x0_0; replace ka1 := (unhide T).x0_1; replace ka2 := (unhide T).x0_2; replace ka3 := (unhide T).x0_3; replace ka4 := (unhide T).x1_0; replace ka5 := (unhide T).x1_1; replace ka6 := (unhide T).x1_2; replace ka7 := (unhide T).x1_3; replace A0 := hide ((unhide A0).later hbx); replace A1 := hide ((unhide A1).later hbx); (try (replace gf := fun o => frozen_later hbx (World.block_lt_of_cell? _ _ g0) (gf o); replace g0 := cell_later hbx g0; replace g1 := cell_later hbx g1; replace g2 := cell_later hbx g2; replace g3 := cell_later hbx g3)); (try (refine cutP (p := w5.cell? ⟨wa1.heap.size, 0, none⟩ = some (.bool false) ∧ w5.cell? ⟨wa1.heap.size, 1, none⟩ = some (.slice none 0 0) ∧ w5.cell? ⟨wa1.heap.size, 2, none⟩ = some (.bool false) ∧ w5.cell? ⟨wa1.heap.size, 3, none⟩ = some (.slice none 0 0) ∧ ∀ o, w5.frozen? ⟨wa1.heap.size, o, none⟩ = false) ?_ (fun dd => ?_); (focus (refine ⟨cell_later hb ?_, cell_later hb ?_, cell_later hb ?_, cell_later hb ?_, fun o => frozen_later hb ?_ ?_⟩ <;> (simp [go_sem]; done))); obtain ⟨g0, g1, g2, g3, gf⟩ := dd)); have zz2 := hb.size; (try simp at zz2); have HBr := hide (below_on (unhide HBr) hbx); have O5 := hide hown; have U5 := hide hu; clear hb hbx hown hu))
    all_goals go_wp2_with fail
    all_goals go_meet
    all_goals first
      | (with_reducible refine ⟨_, vr, dr, okr, rfl, rfl, hide (metQ_alloc 30 (unhide HBr) (unhide O5) ?_), U5, hide ((unhide T).later ((Below.refl _ _).alloc (Nat.le_refl _) _))⟩; omega)
      | (with_reducible refine ⟨_, vr, dr, okr, rfl, rfl, hide (metQ_set (unhide HBr) (unhide O5) ?_ ?_ g0 g1 g2 g3), U5, hide ((unhide T).but metQ_but ?_ (unhide HX0) (unhide HX1))⟩ <;> first | omega | (simp; done) | (simp; omega))
  case rest =>
    obtain ⟨G0, vr, dr, okr, rfl, rfl, HM, UR, T3⟩ := hcut
    clear T
    have T := T3
    clear T3
    have V0 := hide (unhide HM).var
    have zG1 : w.heap.size + 2 ≤ G0 := Nat.le_trans z (unhide HM).lo
    have zG2 : G0 < wc.heap.size := (unhide HM).hi
    clear HM
    have r0 : vr.num.n ≤ 40 := by rw [← ((unhide V0).own.own (vr.num, dr.num) (by simp)).len]; exact (unhide UL _ _ (unhide UR)).1
    have rm0 : vr.num.n ≤ maxLen := by unfold maxLen; omega
    have rl0 : vr.num.n ≤ 1048576 := by omega
    have r1 : vr.den.n ≤ 40 := by rw [← ((unhide V0).own.own (vr.den, dr.den) (by simp)).len]; exact (unhide UL _ _ (unhide UR)).2
    have rm1 : vr.den.n ≤ maxLen := by unfold maxLen; omega
    have rl1 : vr.den.n ≤ 1048576 := by omega
    have p0 := (unhide T).x0_0
    have p1 := (unhide T).x0_1
    have p2 := (unhide T).x0_2
    have p3 := (unhide T).x0_3
    go_wp2_with fail
    refine (toQ_at v0 d0 _ (unhide T).s0 l0 l1).mono ?_
    rintro e wx0 ⟨y0, rfl, hb, hnn, ow0, ar0⟩
    have hn0 := hide hnn
    clear hnn
    have VX0 := hide (VarQ.start 30 ow0)
    have AX0 := hide (ar0.later ((Below.refl _ _).alloc (Nat.le_refl _) (.cells #[.bool y0.num.g, .slice y0.num.a y0.num.n y0.num.c, .bool y0.den.g, .slice y0.den.a y0.den.n y0.den.c] 30)))
    have s0 : wc.heap.size ≤ wx0.heap.size := by have := hb.size; exact this
    replace V0 := hide ((unhide V0).later hb)
    replace T := hide ((unhide T).later hb)
    replace V0 := hide ((unhide V0).later ((Below.refl _ _).alloc (Nat.le_refl _) (.cells #[.bool y0.num.g, .slice y0.num.a y0.num.n y0.num.c, .bool y0.den.g, .slice y0.den.a y0.den.n y0.den.c] 30)))
    replace T := hide ((unhide T).later ((Below.refl _ _).alloc (Nat.le_refl _) (.cells #[.bool y0.num.g, .slice y0.num.a y0.num.n y0.num.c, .bool y0.den.g, .slice y0.den.a y0.den.n y0.den.c] 30)))
    clear hb ow0 ar0 p0 p1 p2 p3
    have p0 := (unhide T).x1_0
    have p1 := (unhide T).x1_1
    have p2 := (unhide T).x1_2
    have p3 := (unhide T).x1_3
    go_wp2_with fail
    refine (toQ_at v1 d1 _ (unhide T).s1 l2 l3).mono ?_
    rintro e wx1 ⟨y1, rfl, hb, hnn, ow1, ar1⟩
    have hn1 := hide hnn
    clear hnn
    have VX1 := hide (VarQ.start 30 (ow1.wide (lo' := wx0.heap.size + 1) (by simp) (Nat.le_refl _)))
    have AX1 := hide (ar1.later ((Below.refl _ _).alloc (Nat.le_refl _) (.cells #[.bool y1.num.g, .slice y1.num.a y1.num.n y1.num.c, .bool y1.den.g, .slice y1.den.a y1.den.n y1.den.c] 30)))
    have s1 : wx0.heap.size + 1 ≤ wx1.heap.size := by have := hb.size; simp at this; omega
    replace V0 := hide ((unhide V0).later hb)
    replace T := hide ((unhide T).later hb)
    replace VX0 := hide ((unhide VX0).later hb)
    replace AX0 := hide ((unhide AX0).later hb)
    replace V0 := hide ((unhide V0).later ((Below.refl _ _).alloc (Nat.le_refl _) (.cells #[.bool y1.num.g, .slice y1.num.a y1.num.n y1.num.c, .bool y1.den.g, .slice y1.den.a y1.den.n y1.den.c] 30)))
    replace T := hide ((unhide T).later ((Below.refl _ _).alloc (Nat.le_refl _) (.cells #[.bool y1.num.g, .slice y1.num.a y1.num.n y1.num.c, .bool y1.den.g, .slice y1.den.a y1.den.n y1.den.c] 30)))
    replace VX0 := hide ((unhide VX0).later ((Below.refl _ _).alloc (Nat.le_refl _) (.cells #[.bool y1.num.g, .slice y1.num.a y1.num.n y1.num.c, .bool y1.den.g, .slice y1.den.a y1.den.n y1.den.c] 30)))
    replace AX0 := hide ((unhide AX0).later ((Below.refl _ _).alloc (Nat.le_refl _) (.cells #[.bool y1.num.g, .slice y1.num.a y1.num.n y1.num.c, .bool y1.den.g, .slice y1.den.a y1.den.n y1.den.c] 30)))
    clear hb ow1 ar1 p0 p1 p2 p3
    have p0_0 := (unhide VX0).c0
    have p0_1 := (unhide VX0).c1
    have p0_2 := (unhide VX0).c2
    have p0_3 := (unhide VX0).c3
    go_wp2_with fail
    refine (unhide CI y0 y1 _ (unhide AX0) (unhide AX1)).mono ?_
    rintro e w5 ⟨vg, dg, okg, rfl, hb, hown, hu⟩
    obtain ⟨e1, e2⟩ := unhide US _ _ _ _ (unhide UR) hu
    subst e1 e2
    have VG := hide (VarQ.start 30 (hown.wide (lo' := wx1.heap.size + 1) (by simp) (Nat.le_refl _)))
    have sg : wx1.heap.size + 1 ≤ w5.heap.size := by have := hb.size; simp at this; omega
    have en0 : vg.num.n = vr.num.n := by rw [← ((unhide VG).own.own (vg.num, dr.num) (by simp)).len, ← ((unhide V0).own.own (vr.num, dr.num) (by simp)).len]
    have q0 : vg.num.n ≤ 40 := by omega
    have qm0 : vg.num.n ≤ maxLen := by omega
    have ql0 : vg.num.n ≤ 1048576 := by omega
    have en1 : vg.den.n = vr.den.n := by rw [← ((unhide VG).own.own (vg.den, dr.den) (by simp)).len, ← ((unhide V0).own.own (vr.den, dr.den) (by simp)).len]
    have q1 : vg.den.n ≤ 40 := by omega
    have qm1 : vg.den.n ≤ maxLen := by omega
    have ql1 : vg.den.n ≤ 1048576 := by omega
    clear AX0 AX1 p0_0 p0_1 p0_2 p0_3
    replace V0 := hide ((unhide V0).later hb)
    replace T := hide ((unhide T).later hb)
    replace VX0 := hide ((unhide VX0).later hb)
    replace VX1 := hide ((unhide VX1).later hb)
    clear hb hown hu
    replace V0 := hide ((unhide V0).later ((Below.refl _ _).alloc (Nat.le_refl _) (.cells #[.bool vg.num.g, .slice vg.num.a vg.num.n vg.num.c, .bool vg.den.g, .slice vg.den.a vg.den.n vg.den.c] 30)))
    replace T := hide ((unhide T).later ((Below.refl _ _).alloc (Nat.le_refl _) (.cells #[.bool vg.num.g, .slice vg.num.a vg.num.n vg.num.c, .bool vg.den.g, .slice vg.den.a vg.den.n vg.den.c] 30)))
    replace VX0 := hide ((unhide VX0).later ((Below.refl _ _).alloc (Nat.le_refl _) (.cells #[.bool vg.num.g, .slice vg.num.a vg.num.n vg.num.c, .bool vg.den.g, .slice vg.den.a vg.den.n vg.den.c] 30)))
    replace VX1 := hide ((unhide VX1).later ((Below.refl _ _).alloc (Nat.le_refl _) (.cells #[.bool vg.num.g, .slice vg.num.a vg.num.n vg.num.c, .bool vg.den.g, .slice vg.den.a vg.den.n vg.den.c] 30)))
    have enh0 := hide en0
    clear en0
    have enh1 := hide en1
    clear en1
    have p0 := (unhide V0).c0
    have p1 := (unhide V0).c1
    have p2 := (unhide V0).c2
    have p3 := (unhide V0).c3
    go_wp2_with fail
    refine (eqQ_at vg vr dr _ (unhide VG).own.sl (unhide V0).own.sl qm0 qm1).mono ?_
    rintro e w6 ⟨rfl, hb⟩
    clear p0 p1 p2 p3
    replace V0 := hide ((unhide V0).later hb)
    replace T := hide ((unhide T).later hb)
    replace VX0 := hide ((unhide VX0).later hb)
    replace VX1 := hide ((unhide VX1).later hb)
    replace VG := hide ((unhide VG).later hb)
    clear hb
    generalize wx0.heap.size = GX0 at *
    generalize wx1.heap.size = GX1 at *
    generalize w5.heap.size = GG at *
    generalize wc.heap.size = GC at *
    go_wp2_with fail
    have ka0 := (unhide T).x0_0
    have kx0 := (unhide VX0).c0
    have ka1 := (unhide T).x0_1
    have kx1 := (unhide VX0).c1
    have ka2 := (unhide T).x0_2
    have kx2 := (unhide VX0).c2
    have ka3 := (unhide T).x0_3
    have kx3 := (unhide VX0).c3
    go_region_held3 (fun w' => w'.cell? ⟨w.heap.size, 0, none⟩ = some (.bool v0.num.g) ∧ w'.cell? ⟨w.heap.size, 1, none⟩ = some (.slice v0.num.a v0.num.n v0.num.c) ∧ w'.cell? ⟨w.heap.size, 2, none⟩ = some (.bool v0.den.g) ∧ w'.cell? ⟨w.heap.size, 3, none⟩ = some (.slice v0.den.a v0.den.n v0.den.c) ∧ w'.cell? ⟨GX0, 0, none⟩ = some (.bool y0.num.g) ∧ w'.cell? ⟨GX0, 1, none⟩ = some (.slice y0.num.a y0.num.n y0.num.c) ∧ w'.cell? ⟨GX0, 2, none⟩ = some (.bool y0.den.g) ∧ w'.cell? ⟨GX0, 3, none⟩ = some (.slice y0.den.a y0.den.n y0.den.c)) (with_reducible (first | exact ⟨ka0, ka1, ka2, ka3, kx0, kx1, kx2, kx3⟩ | exact ⟨cd_other ka0, cd_other ka1, cd_other ka2, cd_other ka3, cd_other kx0, cd_other kx1, cd_other kx2, cd_other kx3⟩ | fail))
      (first
      | (go_at_call 21; refine (toQ_at v0 d0 _ ?_ l0 l1).mono ?_; exact (unhide T).s0.later (Below.refl _ _).drew; rintro e w7 ⟨u7, rfl, hb', hn7, ow7, ar7⟩; have hb := below_of_drew hb'; replace V0 := hide ((unhide V0).later hb); replace T := hide ((unhide T).later hb); replace VX0 := hide ((unhide VX0).later hb); replace VX1 := hide ((unhide VX1).later hb); replace VG := hide ((unhide VG).later hb); replace ka0 := (unhide T).x0_0; replace kx0 := (unhide VX0).c0; replace ka1 := (unhide T).x0_1; replace kx1 := (unhide VX0).c1; replace ka2 := (unhide T).x0_2; replace kx2 := (unhide VX0).c2; replace ka3 := (unhide T).x0_3; replace kx3 := (unhide VX0).c3; have S7 := hide ow7.sl; clear hb hb' ow7 ar7 hn7)
      | (go_at_call 23; refine (eqQ_at y0 u7 d0 _ (unhide VX0).own.sl (unhide S7) (by rw [(unhide hn0).1]; exact lm0) (by rw [(unhide hn0).2]; exact lm1)).mono ?_; rintro e w8 ⟨rfl, hb⟩; replace V0 := hide ((unhide V0).later hb); replace T := hide ((unhide T).later hb); replace VX0 := hide ((unhide VX0).later hb); replace VX1 := hide ((unhide VX1).later hb); replace VG := hide ((unhide VG).later hb); replace ka0 := (unhide T).x0_0; replace kx0 := (unhide VX0).c0; replace ka1 := (unhide T).x0_1; replace kx1 := (unhide VX0).c1; replace ka2 := (unhide T).x0_2; replace kx2 := (unhide VX0).c2; replace ka3 := (unhide T).x0_3; replace kx3 := (unhide VX0).c3; clear hb))
    clear S7 ka0 kx0 ka1 kx1 ka2 kx2 ka3 kx3
    go_wp2_with fail
    have ka0 := (unhide T).x1_0
    have kx0 := (unhide VX1).c0
    have ka1 := (unhide T).x1_1
    have kx1 := (unhide VX1).c1
    have ka2 := (unhide T).x1_2
    have kx2 := (unhide VX1).c2
    have ka3 := (unhide T).x1_3
    have kx3 := (unhide VX1).c3
    go_region_held3 (fun w' => w'.cell? ⟨w.heap.size + 1, 0, none⟩ = some (.bool v1.num.g) ∧ w'.cell? ⟨w.heap.size + 1, 1, none⟩ = some (.slice v1.num.a v1.num.n v1.num.c) ∧ w'.cell? ⟨w.heap.size + 1, 2, none⟩ = some (.bool v1.den.g) ∧ w'.cell? ⟨w.heap.size + 1, 3, none⟩ = some (.slice v1.den.a v1.den.n v1.den.c) ∧ w'.cell? ⟨GX1, 0, none⟩ = some (.bool y1.num.g) ∧ w'.cell? ⟨GX1, 1, none⟩ = some (.slice y1.num.a y1.num.n y1.num.c) ∧ w'.cell? ⟨GX1, 2, none⟩ = some (.bool y1.den.g) ∧ w'.cell? ⟨GX1, 3, none⟩ = some (.slice y1.den.a y1.den.n y1.den.c)) (with_reducible (first | exact ⟨ka0, ka1, ka2, ka3, kx0, kx1, kx2, kx3⟩ | exact ⟨cd_other ka0, cd_other ka1, cd_other ka2, cd_other ka3, cd_other kx0, cd_other kx1, cd_other kx2, cd_other kx3⟩ | fail))
      (first
      | (go_at_call 21; refine (toQ_at v1 d1 _ ?_ l2 l3).mono ?_; exact (unhide T).s1.later (Below.refl _ _).drew; rintro e w7 ⟨u7, rfl, hb', hn7, ow7, ar7⟩; have hb := below_of_drew hb'; replace V0 := hide ((unhide V0).later hb); replace T := hide ((unhide T).later hb); replace VX0 := hide ((unhide VX0).later hb); replace VX1 := hide ((unhide VX1).later hb); replace VG := hide ((unhide VG).later hb); replace ka0 := (unhide T).x1_0; replace kx0 := (unhide VX1).c0; replace ka1 := (unhide T).x1_1; replace kx1 := (unhide VX1).c1; replace ka2 := (unhide T).x1_2; replace kx2 := (unhide VX1).c2; replace ka3 := (unhide T).x1_3; replace kx3 := (unhide VX1).c3; have S7 := hide ow7.sl; clear hb hb' ow7 ar7 hn7)
      | (go_at_call 23; refine (eqQ_at y1 u7 d1 _ (unhide VX1).own.sl (unhide S7) (by rw [(unhide hn1).1]; exact lm2) (by rw [(unhide hn1).2]; exact lm3)).mono ?_; rintro e w8 ⟨rfl, hb⟩; replace V0 := hide ((unhide V0).later hb); replace T := hide ((unhide T).later hb); replace VX0 := hide ((unhide VX0).later hb); replace VX1 := hide ((unhide VX1).later hb); replace VG := hide ((unhide VG).later hb); replace ka0 := (unhide T).x1_0; replace kx0 := (unhide VX1).c0; replace ka1 := (unhide T).x1_1; replace kx1 := (unhide VX1).c1; replace ka2 := (unhide T).x1_2; replace kx2 := (unhide VX1).c2; replace ka3 := (unhide T).x1_3; replace kx3 := (unhide VX1).c3; clear hb))
    clear S7 ka0 kx0 ka1 kx1 ka2 kx2 ka3 kx3
    have p0 := (unhide VX0).c0
    have p1 := (unhide VX0).c1
    have p2 := (unhide VX0).c2
    have p3 := (unhide VX0).c3
    have hl0 : y0.num.n ≤ 1048576 := by rw [(unhide hn0).1]; exact l0
    have hl1 : y0.den.n ≤ 1048576 := by rw [(unhide hn0).2]; exact l1
    go_wp2_with fail
    refine (markQ_at y0 d0 [] [] 1 (GC) GX0 _ (unhide VX0).own hl0 hl1 (by have := (unhide VX0).gt; omega) (by omega) (by have := (unhide hn0).1; have := (unhide hn0).2; omega)).mono ?_
    rintro e w10 ⟨rfl, hbt, hmk⟩
    replace T := hide ((unhide T).but hbt (by omega) (unhide HX0) (unhide HX1))
    replace V0 := hide ((unhide V0).but hbt (by omega) (by omega))
    replace VX1 := hide ((unhide VX1).but hbt (by omega) (by omega))
    replace VG := hide ((unhide VG).but hbt (by omega) (by omega))
    clear VX0 p0 p1 p2 p3 hbt hmk hl0 hl1
    have p0 := (unhide VX1).c0
    have p1 := (unhide VX1).c1
    have p2 := (unhide VX1).c2
    have p3 := (unhide VX1).c3
    have hl0 : y1.num.n ≤ 1048576 := by rw [(unhide hn1).1]; exact l2
    have hl1 : y1.den.n ≤ 1048576 := by rw [(unhide hn1).2]; exact l3
    go_wp2_with fail
    refine (markQ_at y1 d1 [] [] _ (GX0 + 1) GX1 _ (unhide VX1).own hl0 hl1 (by have := (unhide VX1).gt; omega) (by omega) (by have := (unhide hn0).1; have := (unhide hn0).2; have := (unhide hn1).1; have := (unhide hn1).2; omega)).mono ?_
    rintro e w11 ⟨rfl, hbt, hmk⟩
    replace T := hide ((unhide T).but hbt (by omega) (unhide HX0) (unhide HX1))
    replace V0 := hide ((unhide V0).but hbt (by omega) (by omega))
    replace VG := hide ((unhide VG).but hbt (by omega) (by omega))
    clear VX1 p0 p1 p2 p3 hbt hmk hl0 hl1
    have hk0 : decide ((1 : Int) + (y0.num.n : Int) + (y0.den.n : Int) + (y1.num.n : Int) + (y1.den.n : Int) < 0) = false := by simp; omega
    have p0 := (unhide VG).c0
    have pq0 := (unhide V0).c0
    have p1 := (unhide VG).c1
    have pq1 := (unhide V0).c1
    have p2 := (unhide VG).c2
    have pq2 := (unhide V0).c2
    have p3 := (unhide VG).c3
    have pq3 := (unhide V0).c3
    go_wp2_with fail
    refine (eqQ_at vg vr dr _ (unhide VG).own.sl (unhide V0).own.sl qm0 qm1).mono ?_
    rintro e w20 ⟨rfl, hb⟩
    clear p0 pq0 p1 pq1 p2 pq2 p3 pq3 hk0
    replace V0 := hide ((unhide V0).later hb)
    replace T := hide ((unhide T).later hb)
    replace VG := hide ((unhide VG).later hb)
    clear hb
    have p0 := (unhide VG).c0
    have p1 := (unhide VG).c1
    have p2 := (unhide VG).c2
    have p3 := (unhide VG).c3
    go_wp2_with fail
    refine (markQ_at vg dr [] [] 1 (GX1 + 1) GG _ (unhide VG).own ql0 ql1 (by have := (unhide VG).gt; omega) (by omega) (by omega)).mono ?_
    rintro e w21 ⟨rfl, hbt, hmk⟩
    replace T := hide ((unhide T).but hbt (by omega) (unhide HX0) (unhide HX1))
    replace V0 := hide ((unhide V0).but hbt (by omega) (by omega))
    replace VG := hide ((unhide VG).mark (d' := ⟨⟨dr.num.g, marks (1) vg.num.n⟩, ⟨dr.den.g, marks (1 + vg.num.n) vg.den.n⟩⟩) hbt (by omega) hmk)
    clear p0 p1 p2 p3 hbt hmk
    have p0 := (unhide VG).c0
    have p1 := (unhide VG).c1
    have p2 := (unhide VG).c2
    have p3 := (unhide VG).c3
    go_wp2_with fail
    refine (heldQ_at vg 1 _ ((unhide VG).own.sl (vg.num, ⟨dr.num.g, marks (1) vg.num.n⟩) (by simp)).sl ((unhide VG).own.sl (vg.den, ⟨dr.den.g, marks (1 + (vg.num.n : Int)) vg.den.n⟩) (by simp)).sl ql0 ql1 (by omega) (by omega)).mono ?_
    rintro e wk ⟨rfl, hb⟩
    replace V0 := hide ((unhide V0).later hb)
    replace T := hide ((unhide T).later hb)
    replace VG := hide ((unhide VG).later hb)
    have hr0 : ¬ ((1 : Int) + (vg.num.n : Int) + (vg.den.n : Int) < 0) := by omega
    have zk : w.heap.size + 2 ≤ wk.heap.size := by have h1 := (unhide VG).gt; omega
    clear p0 p1 p2 p3 hb
    go_upto_region 31 with fail
    go_cut [15, 16] (fun p q wx => ∃ (G : Nat) (v : QV) (d : QD) (ok : Bool), p = .pointer (some ⟨G, 0, none⟩) ∧ q = .bool ok ∧ Hid (MetQ wk wx G v d) ∧ Hid (U d ok) ∧ Hid (TlawSimp w wx v0 d0 v1 d1))
    case first =>
      have ka0 := (unhide T).x0_0
      have ka1 := (unhide T).x0_1
      have ka2 := (unhide T).x0_2
      have ka3 := (unhide T).x0_3
      have ka4 := (unhide T).x1_0
      have ka5 := (unhide T).x1_1
      have ka6 := (unhide T).x1_2
      have ka7 := (unhide T).x1_3
      go_region_held3 (fun w' => w'.cell? ⟨w.heap.size, 0, none⟩ = some (.bool v0.num.g) ∧ w'.cell? ⟨w.heap.size, 1, none⟩ = some (.slice v0.num.a v0.num.n v0.num.c) ∧ w'.cell? ⟨w.heap.size, 2, none⟩ = some (.bool v0.den.g) ∧ w'.cell? ⟨w.heap.size, 3, none⟩ = some (.slice v0.den.a v0.den.n v0.den.c) ∧ w'.cell? ⟨w.heap.size + 1, 0, none⟩ = some (.bool v1.num.g) ∧ w'.cell? ⟨w.heap.size + 1, 1, none⟩ = some (.slice v1.num.a v1.num.n v1.num.c) ∧ w'.cell? ⟨w.heap.size + 1, 2, none⟩ = some (.bool v1.den.g) ∧ w'.cell? ⟨w.heap.size + 1, 3, none⟩ = some (.slice v1.den.a v1.den.n v1.den.c)) (with_reducible (first | exact ⟨ka0, ka1, ka2, ka3, ka4, ka5, ka6, ka7⟩ | exact ⟨cd_other ka0, cd_other ka1, cd_other ka2, cd_other ka3, cd_other ka4, cd_other ka5, cd_other ka6, cd_other ka7⟩ | exact ⟨ca_other ka0, ca_other ka1, ca_other ka2, ca_other ka3, ca_other ka4, ca_other ka5, ca_other ka6, ca_other ka7⟩ | exact ⟨cd_other (ca_other ka0), cd_other (ca_other ka1), cd_other (ca_other ka2), cd_other (ca_other ka3), cd_other (ca_other ka4), cd_other (ca_other ka5), cd_other (ca_other ka6), cd_other (ca_other ka7)⟩ | exact ⟨cs_other (cs_other (cs_other (cs_other (ka0) (by omega)) (by omega)) (by omega)) (by omega), cs_other (cs_other (cs_other (cs_other (ka1) (by omega)) (by omega)) (by omega)) (by omega), cs_other (cs_other (cs_other (cs_other (ka2) (by omega)) (by omega)) (by omega)) (by omega), cs_other (cs_other (cs_other (cs_other (ka3) (by omega)) (by omega)) (by omega)) (by omega), cs_other (cs_other (cs_other (cs_other (ka4) (by omega)) (by omega)) (by omega)) (by omega), cs_other (cs_other (cs_other (cs_other (ka5) (by omega)) (by omega)) (by omega)) (by omega), cs_other (cs_other (cs_other (cs_other (ka6) (by omega)) (by omega)) (by omega)) (by omega), cs_other (cs_other (cs_other (cs_other (ka7) (by omega)) (by omega)) (by omega)) (by omega)⟩ | fail))
        (first
        | (go_at_call_of 21 (Value.agg #[Value.bool v0.num.g, Value.slice v0.num.a v0.num.n v0.num.c, Value.bool v0.den.g, Value.slice v0.den.a v0.den.n v0.den.c]); refine (toQ_at v0 d0 _ ?_ l0 l1).mono ?_; (first | exact (unhide T).s0.later (Below.refl _ _).drew | exact (unhide T).s0.later ((Below.refl _ _).alloc (Nat.le_refl _) _).drew); rintro e wa0 ⟨qa0, rfl, hb, hna0, ow, ar⟩; have hbx : Below wk.heap.size wk wa0 := (by first | exact below_of_drew hb | exact bad hb); have sz0 := hbx.size; replace T := hide ((unhide T).later hbx); replace ka0 := (unhide T).x0_0; replace ka1 := (unhide T).x0_1; replace ka2 := (unhide T).x0_2; replace ka3 := (unhide T).x0_3; replace ka4 := (unhide T).x1_0; replace ka5 := (unhide T).x1_1; replace ka6 := (unhide T).x1_2; replace ka7 := (unhide T).x1_3; (try (replace gf := fun o => frozen_later hbx (World.block_lt_of_cell? _ _ g0) (gf o); replace g0 := cell_later hbx g0; replace g1 := cell_later hbx g1; replace g2 := cell_later hbx g2; replace g3 := cell_later hbx g3)); (try (refine cutP (p := wa0.cell? ⟨wk.heap.size, 0, none⟩ = some (.bool false) ∧ wa0.cell? ⟨wk.heap.size, 1, none⟩ = some (.slice none 0 0) ∧ wa0.cell? ⟨wk.heap.size, 2, none⟩ = some (.bool false) ∧ wa0.cell? ⟨wk.heap.size, 3, none⟩ = some (.slice none 0 0) ∧ ∀ o, wa0.frozen? ⟨wk.heap.size, o, none⟩ = false) ?_ (fun dd => ?_); (focus (refine ⟨cell_later hb ?_, cell_later hb ?_, cell_later hb ?_, cell_later hb ?_, fun o => frozen_later hb ?_ ?_⟩ <;> (simp [go_sem]; done))); obtain ⟨g0, g1, g2, g3, gf⟩ := dd)); have zz0 := hb.size; (try simp at zz0); have HBr := hide hbx; have A0 := hide ar; clear hb hbx ow ar hna0)
        | (go_at_call_of 21 (Value.agg #[Value.bool v1.num.g, Value.slice v1.num.a v1.num.n v1.num.c, Value.bool v1.den.g, Value.slice v1.den.a v1.den.n v1.den.c]); refine (toQ_at v1 d1 _ ?_ l2 l3).mono ?_; (first | exact (unhide T).s1 | exact (unhide T).s1.later ((Below.refl _ _).alloc (Nat.le_refl _) _)); rintro e wa1 ⟨qa1, rfl, hb, hna1, ow, ar⟩; have hbx : Below wa0.heap.size wa0 wa1 := (by first | exact hb | exact ba hb); have sz1 := hbx.size; replace T := hide ((unhide T).later hbx); replace ka0 := (unhide T).x0_0; replace ka1 := (unhide T).x0_1; replace ka2 := (unhide T).x0_2; replace ka3 := (unhide T).x0_3; replace ka4 := (unhide T).x1_0; replace ka5 := (unhide T).x1_1; replace ka6 := (unhide T).x1_2; replace ka7 := (unhide T).x1_3; replace A0 := hide ((unhide A0).later hbx); (try (replace gf := fun o => frozen_later hbx (World.block_lt_of_cell? _ _ g0) (gf o); replace g0 := cell_later hbx g0; replace g1 := cell_later hbx g1; replace g2 := cell_later hbx g2; replace g3 := cell_later hbx g3)); (try (refine cutP (p := wa1.cell? ⟨wa0.heap.size, 0, none⟩ = some (.bool false) ∧ wa1.cell? ⟨wa0.heap.size, 1, none⟩ = some (.slice none 0 0) ∧ wa1.cell? ⟨wa0.heap.size, 2, none⟩ = some (.bool false) ∧ wa1.cell? ⟨wa0.heap.size, 3, none⟩ = some (.slice none 0 0) ∧ ∀ o, wa1.frozen? ⟨wa0.heap.size, o, none⟩ = false) ?_ (fun dd => ?_); (focus (refine ⟨cell_later hb ?_, cell_later hb ?_, cell_later hb ?_, cell_later hb ?_, fun o => frozen_later hb ?_ ?_⟩ <;> (simp [go_sem]; done))); obtain ⟨g0, g1, g2, g3, gf⟩ := dd)); have zz1 := hb.size; (try simp at zz1); have HBr := hide (below_on (unhide HBr) hbx); have A1 := hide ar; clear hb hbx ow ar hna1)
        | (go_at_call 33; refine (unhide CI _ _ _ ?_ ?_).mono ?_; (first | exact unhide A0 | exact (unhide A0).later ((Below.refl _ _).alloc (Nat.le_refl _) _)); (first | exact unhide A1 | exact (unhide A1).later ((Below.refl _ _).alloc (Nat.le_refl _) _)); rintro e w5 ⟨vr, dr, okr, rfl, hb, hown, hu⟩; have hbx : Below wa1.heap.size wa1 w5 := (by first | exact hb | exact ba hb); have sz2 := hbx.size; replace T := hide ((unhide T).later hbx); replace ka0 := (unhide T).x0_0; replace ka1 := (unhide T).x0_1; replace ka2 := (unhide T).x0_2; replace ka3 := (unhide T).x0_3; replace ka4 := (unhide T).x1_0; replace ka5 := (unhide T).x1_1; replace ka6 := (unhide T).x1_2; replace ka7 := (unhide T).x1_3; replace A0 := hide ((unhide A0).later hbx); replace A1 := hide ((unhide A1).later hbx); (try (replace gf := fun o => frozen_later hbx (World.block_lt_of_cell? _ _ g0) (gf o); replace g0 := cell_later hbx g0; replace g1 := cell_later hbx g1; replace g2 := cell_later hbx g2; replace g3 := cell_later hbx g3)); (try (refine cutP (p := w5.cell? ⟨wa1.heap.size, 0, none⟩ = some (.bool false) ∧ w5.cell? ⟨wa1.heap.size, 1, none⟩ = some (.slice none 0 0) ∧ w5.cell? ⟨wa1.heap.size, 2, none⟩ = some (.bool false) ∧ w5.cell? ⟨wa1.heap.size, 3, none⟩ = some (.slice none 0 0) ∧ ∀ o, w5.frozen? ⟨wa1.heap.size, o, none⟩ = false) ?_ (fun dd => ?_); (focus (refine ⟨cell_later hb ?_, cell_later hb ?_, cell_later hb ?_, cell_later hb ?_, fun o => frozen_later hb ?_ ?_⟩ <;> (simp [go_sem]; done))); obtain ⟨g0, g1, g2, g3, gf⟩ := dd)); have zz2 := hb.size; (try simp at zz2); have HBr := hide (below_on (unhide HBr) hbx); have O5 := hide hown; have U5 := hide hu; clear hb hbx hown hu))
      all_goals go_wp2_with fail
      all_goals go_meet
      all_goals first
        | (with_reducible refine ⟨_, vr, dr, okr, rfl, rfl, hide (metQ_alloc 30 (unhide HBr) (unhide O5) ?_), U5, hide ((unhide T).later ((Below.refl _ _).alloc (Nat.le_refl _) _))⟩; omega)
        | (with_reducible refine ⟨_, vr, dr, okr, rfl, rfl, hide (metQ_set (unhide HBr) (unhide O5) ?_ ?_ g0 g1 g2 g3), U5, hide ((unhide T).but metQ_but ?_ (unhide HX0) (unhide HX1))⟩ <;> first | omega | (simp; done) | (simp; omega))
    case rest =>
      obtain ⟨GH, vh, dh, okh, rfl, rfl, HM, UH, T9⟩ := hcut
      obtain ⟨e1, e2⟩ := unhide US _ _ _ _ (unhide UR) (unhide UH)
      subst e1 e2
      have VH := hide (unhide HM).var
      replace V0 := hide ((unhide V0).later (unhide HM).bel)
      replace VG := hide ((unhide VG).later (unhide HM).bel)
      clear HM
      clear T
      have T := T9
      clear T9
      have hm0 : vh.num.n ≤ maxLen := by rw [← ((unhide VH).own.own (vh.num, dr.num) (by simp)).len, ((unhide V0).own.own (vr.num, dr.num) (by simp)).len]; exact rm0
      have hm1 : vh.den.n ≤ maxLen := by rw [← ((unhide VH).own.own (vh.den, dr.den) (by simp)).len, ((unhide V0).own.own (vr.den, dr.den) (by simp)).len]; exact rm1
      have p0 := (unhide VH).c0
      have pq0 := (unhide V0).c0
      have p1 := (unhide VH).c1
      have pq1 := (unhide V0).c1
      have p2 := (unhide VH).c2
      have pq2 := (unhide V0).c2
      have p3 := (unhide VH).c3
      have pq3 := (unhide V0).c3
      go_wp2_with fail
      refine (eqQ_at vh vr dr _ (unhide VH).own.sl (unhide V0).own.sl hm0 hm1).mono ?_
      rintro e w30 ⟨rfl, hb⟩
      clear p0 pq0 p1 pq1 p2 pq2 p3 pq3
      replace T := hide ((unhide T).later hb)
      replace VG := hide ((unhide VG).later hb)
      clear hb VH V0
      have p0 := (unhide VG).c0
      have p1 := (unhide VG).c1
      have p2 := (unhide VG).c2
      have p3 := (unhide VG).c3
      go_wp2_with fail
      refine (heldQ_at vg 1 _ ((unhide VG).own.sl (vg.num, ⟨dr.num.g, marks (1) vg.num.n⟩) (by simp)).sl ((unhide VG).own.sl (vg.den, ⟨dr.den.g, marks (1 + (vg.num.n : Int)) vg.den.n⟩) (by simp)).sl ql0 ql1 (by omega) (by omega)).mono ?_
      rintro e w31 ⟨rfl, hb⟩
      replace T := hide ((unhide T).later hb)
      clear p0 p1 p2 p3 hb
      go_wp2
      go_ret
      exact ⟨rfl, (unhide T).bel⟩

theorem lawSimp_walk (v0 : QV) (v1 : QV) (d0 : QD) (d1 : QD) (w : World) (hx0 : AllSl w [(v0.num, d0.num), (v0.den, d0.den)]) (hx1 : AllSl w [(v1.num, d1.num), (v1.den, d1.den)])  (m0 : v0.num.n ≤ maxLen) (m1 : v0.den.n ≤ maxLen) (m2 : v1.num.n ≤ maxLen) (m3 : v1.den.n ≤ maxLen) :
    Calls Try.prog 7 #[.agg #[.bool v0.num.g, .slice v0.num.a v0.num.n v0.num.c, .bool v0.den.g, .slice v0.den.a v0.den.n v0.den.c], .agg #[.bool v1.num.g, .slice v1.num.a v1.num.n v1.num.c, .bool v1.den.g, .slice v1.den.a v1.den.n v1.den.c]] w fun e w' => e = .returned (.bool true) ∧ Below w.heap.size w w' := by
  by_cases g0 : v0.num.n + v0.den.n ≤ 1048576
  · by_cases g1 : v0.num.n + v0.den.n + v1.num.n + v1.den.n ≤ 1048576
    · exact lawSimp_in v0 v1 d0 d1 w hx0 hx1  g1
    · exact lawSimp_out1 v0 v1 w m2 m3 g0 (by omega)
  · exact lawSimp_out0 v0 v1 w m0 m1 (by omega) (by omega)
end Go.Proofs.Ytlmeokeanihhoaa
namespace Go.Proofs.Ytlmeokeanihhoaa
open Go.ChangeShapes Go.WideShapes Go.ChangeAt Go.RowKit Go.Joins
set_option linter.unusedVariables false
set_option maxRecDepth 100000
set_option linter.unusedSimpArgs false

set_option maxRecDepth 100000 in
theorem simp_holds_lifted (os : Os) (started : os.Started) (H : Type) (enc : TypeId × Value → H) :
    ReturnsInHanded {} Try.checked os 7 .any (Rows.fnExactSimplestInSpec.pre6 enc Try.prog Try.f7 Rows.fnExactSimplestInRow.domain false) (Rows.fnExactSimplestInSpec.post enc Try.prog Try.f7 false true false false) := by
  refine returnsInHanded_of_change (C := Try.checked) own started (by kernel_rfl) Try.func7
    (ChangeSpec.witness6 (enc := enc) (C := Try.checked) false ⟨#[], #[.agg #[.bool false, .slice none 0 0, .bool false, .slice none 0 0], .agg #[.bool false, .slice none 0 0, .bool false, .slice none 0 0]], []⟩ 8 (by kernel_rfl) (by kernel_rfl) (by kernel_rfl) (by kernel_rfl)) ?_
  intro W base args ds gs before hval0 hW hcnd _
  have hval : ∀ (j : Nat) t v, Try.f7.params[j]? = some t → args[j]? = some v → Value.okWide Try.prog W .any base t v := hval0
  have hW' := hW
  obtain ⟨p, q, hA0, hV, rfl, hfz, hnd⟩ := hW
  have hA : DataW.TrodAll enc Try.prog W 0 (fun _ => true) true Try.f7.params.toList args.toList ds p := hA0
  rw [Try.params7] at hA hval
  obtain ⟨v0, vs0, d0, ds0, p0, q0, hargs, rfl, rfl, h0, r0⟩ := trodAll_cons hA
  obtain ⟨v1, vs1, d1, ds1, p1, q1, rfl, rfl, rfl, h1, r1⟩ := trodAll_cons r0
  obtain ⟨rfl, rfl, rfl⟩ := trodAll_nil r1
  obtain rfl : args = #[v0, v1] := by cases args; simp_all
  obtain ⟨rfl, rfl⟩ := trodVars_none hV
  have lt0 : ∀ x ∈ p0, x.block < W.heap.size := by obtain ⟨m, hm⟩ := h0; exact DataW.trod_lt m _ _ _ hm
  obtain ⟨u0, e0, rfl, sl0, m0_0, m0_1⟩ := open_Q (hval 0 26 v0 rfl rfl) h0
  have lt1 : ∀ x ∈ p1, x.block < W.heap.size := by obtain ⟨m, hm⟩ := h1; exact DataW.trod_lt m _ _ _ hm
  obtain ⟨u1, e1, rfl, sl1, m1_0, m1_1⟩ := open_Q (hval 1 26 v1 rfl rfl) h1
  clear hA0 hval0
  refine (lawSimp_walk u0 u1 e0 e1 W sl0 sl1 m0_0 m0_1 m1_0 m1_1).mono fun e W' ⟨he, bel⟩ => ?_
  subst he
  exact ⟨_, rfl, _, _, _, [], _, [], hW', trodAll_mk1 (shut_bool Try.underlying4 _), (trodAll_cons_mk (Below.trod laidOut (by kernel_rfl) (of_decide_eq_true (by kernel_rfl)) h0 bel lt0) (trodAll_cons_mk (Below.trod laidOut (by kernel_rfl) (of_decide_eq_true (by kernel_rfl)) h1 bel lt1) trodAll_mk0)), rfl, bel.frame _, fun h => by cases h⟩

theorem simp_holds_c0 : (Rows.fnExactSimplestInRow.wf (OpenSpec.ofChange Rows.fnExactSimplestInSpec)) = true := by kernel_rfl
theorem simp_holds_c1 : (laidOutB Try.pinned.checked.prog) = true := by kernel_rfl
theorem simp_holds_c2 : (mapsRowed Try.pinned.checked.prog) = true := by kernel_rfl
theorem simp_holds_c3 : (Try.f7.params.all (Try.pinned.checked.prog.readableRec ·)) = true := by kernel_rfl
theorem simp_holds_c4 : (namedTie Try.pinned.checked.prog Rows.fnExactSimplestInRow.named Rows.fnExactSimplestInSpec.vars) = true := by kernel_rfl
theorem simp_holds_c5 : (Rows.fnExactSimplestInRow.stops == []) = true := by kernel_rfl
theorem simp_holds_c6 : (Try.pinned.checked.prog.stops == []) = true := by kernel_rfl
theorem simp_holds_c7 : (Rows.fnExactSimplestInRow.knobs == []) = true := by kernel_rfl
theorem simp_holds_c8 : (Try.pinned.checked.prog.stopKnobs == []) = true := by kernel_rfl
theorem simp_holds_c9 : (Rows.fnExactSimplestInRow.inPlace == Try.pinned.checked.prog.inPlace 7) = true := by kernel_rfl
theorem simp_holds_c10 : (Rows.fnExactSimplestInRow.unfollowed == Try.pinned.checked.prog.unfollowed 7) = true := by kernel_rfl
theorem simp_holds_c11 : (Rows.fnExactSimplestInRow.recurses == Try.pinned.checked.prog.recurses 7) = true := by kernel_rfl
theorem simp_holds_c12 : (Rows.fnExactSimplestInRow.named == Try.pinned.checked.prog.varsNamed 7) = true := by kernel_rfl
theorem simp_holds_c13 : (Rows.fnExactSimplestInRow.maps == (Try.f7.params.toList ++ Rows.fnExactSimplestInSpec.plain.varTypes Try.pinned.checked.prog).any (Try.pinned.checked.prog.mapsRec ·)) = true := by kernel_rfl
theorem simp_holds_c14 : (Rows.fnExactSimplestInRow.ifaces == (Try.f7.params.toList ++ Rows.fnExactSimplestInSpec.plain.varTypes Try.pinned.checked.prog).any (Try.pinned.checked.prog.ifacesRec ·)) = true := by kernel_rfl
theorem simp_holds_c15 : (Rows.fnExactSimplestInRow.mapsOut == Try.pinned.checked.prog.mapsAmong Try.f7.resultTypes.toList) = true := by kernel_rfl
theorem simp_holds_c16 : (Rows.fnExactSimplestInRow.loops == (Try.f7.params.toList ++ Rows.fnExactSimplestInSpec.plain.varTypes Try.pinned.checked.prog).any (Try.pinned.checked.prog.loopsFrom ·)) = true := by kernel_rfl
theorem simp_holds_c17 : (Rows.fnExactSimplestInRow.wideKeys == (Try.f7.params.toList ++ Rows.fnExactSimplestInSpec.plain.varTypes Try.pinned.checked.prog ++ Try.f7.resultTypes.toList).any (Try.pinned.checked.prog.wideKeysFrom ·)) = true := by kernel_rfl
theorem simp_holds_c18 : (Rows.fnExactSimplestInSpec.vars.all (Try.pinned.checked.prog.varReadable ·)) = true := by kernel_rfl
theorem simp_holds_c19 : (Try.f7.resultTypes.all (fun t => Try.pinned.checked.prog.readableRec t && decide (t < Try.pinned.checked.prog.types.size))) = true := by kernel_rfl
theorem simp_holds_c20 : (Rows.fnExactSimplestInRow.ifacesOut == Try.f7.resultTypes.toList.any (Try.pinned.checked.prog.ifacesRec ·)) = true := by kernel_rfl
theorem simp_holds_c21 : (Rows.fnExactSimplestInRow.loopsOut == Try.f7.resultTypes.toList.any (Try.pinned.checked.prog.loopsFrom ·)) = true := by kernel_rfl
theorem simp_holds_c22 : (Rows.fnExactSimplestInRow.plainKeys == Try.pinned.checked.prog.plainKeys) = true := by kernel_rfl
theorem simp_holds_c23 : (Rows.fnExactSimplestInRow.shortTexts.isNone) = true := by kernel_rfl
theorem simp_holds_c24 : (Try.pinned.checked.prog.stopsHeard) = true := by kernel_rfl
theorem simp_holds_c25 : (Try.pinned.checked.prog.mayEnter) = true := io_enter
theorem simp_holds_c26 : (Rows.fnExactSimplestInRow.lifted == Try.pinned.checked.prog.liftsFinal) = true := by rw [io_lifts]; kernel_rfl
theorem simp_holds_c27 : (Try.pinned.checked.prog.make == some Rows.fnExactSimplestInRow.make) = true := by rw [io_make]; kernel_rfl
theorem simp_holds_c28 : (Rows.fnExactSimplestInRow.kinds == (if Rows.fnExactSimplestInRow.domain.isEmpty then [] else Try.f7.params.toList.map fun t => match Try.pinned.checked.prog.underlying t with | some (.int k) => some k | _ => none)) = true := by kernel_rfl
theorem simp_holds_c29 : (Rows.fnExactSimplestInRow.pinned == Rows.fnExactSimplestInRow.pinnedBy) = true := by kernel_rfl
theorem simp_holds_c30 : (Rows.fnExactSimplestInRow.veiled == (Try.f7.params.toList ++ Rows.fnExactSimplestInSpec.plain.varTypes Try.pinned.checked.prog ++ Try.f7.resultTypes.toList).any (Try.pinned.checked.prog.veiledRec ·)) = true := by kernel_rfl
theorem simp_holds_c31 : (Rows.fnExactSimplestInRow.veiledFits Try.pinned.checked.prog Try.f7.params.toList (Try.f7.params.toList ++ Rows.fnExactSimplestInSpec.plain.varTypes Try.pinned.checked.prog ++ Try.f7.resultTypes.toList)) = true := by kernel_rfl
theorem simp_holds_and {a b : Bool} (h : a = true) (k : b = true) : (a && b) = true := by rw [h, k]; rfl
theorem simp_holds_closed : joinedFacts Try.pinned.checked.prog 7 Try.f7 Rows.fnExactSimplestInSpec Rows.fnExactSimplestInRow = true := (simp_holds_and (simp_holds_and (simp_holds_and (simp_holds_and (simp_holds_and (simp_holds_and (simp_holds_and (simp_holds_and (simp_holds_and (simp_holds_and (simp_holds_and (simp_holds_and (simp_holds_and (simp_holds_and (simp_holds_and (simp_holds_and (simp_holds_and (simp_holds_and (simp_holds_and (simp_holds_and (simp_holds_and (simp_holds_and (simp_holds_and (simp_holds_and (simp_holds_and (simp_holds_and (simp_holds_and (simp_holds_and (simp_holds_and (simp_holds_and (simp_holds_and simp_holds_c0 simp_holds_c1) simp_holds_c2) simp_holds_c3) simp_holds_c4) simp_holds_c5) simp_holds_c6) simp_holds_c7) simp_holds_c8) simp_holds_c9) simp_holds_c10) simp_holds_c11) simp_holds_c12) simp_holds_c13) simp_holds_c14) simp_holds_c15) simp_holds_c16) simp_holds_c17) simp_holds_c18) simp_holds_c19) simp_holds_c20) simp_holds_c21) simp_holds_c22) simp_holds_c23) simp_holds_c24) simp_holds_c25) simp_holds_c26) simp_holds_c27) simp_holds_c28) simp_holds_c29) simp_holds_c30) simp_holds_c31)
theorem simp_holds_named : Try.pinned.checked.prog.funcNamed Rows.fnExactSimplestInRow.func = some 7 := by kernel_rfl
theorem simp_holds_inst : Try.f7.isInstance Try.pinned.checked.prog Rows.fnExactSimplestInRow.origin Rows.fnExactSimplestInRow.targs := of_decide_eq_true (by kernel_rfl)
theorem simp_holds_wrap : Try.f7.isWrapper Try.pinned.checked.prog Rows.fnExactSimplestInRow.wrapper Rows.fnExactSimplestInRow.mainSum := by unfold Func.isWrapper; first | (rw [if_pos (by decide +kernel)]; kernel_rfl) | (rw [if_neg (by decide +kernel)]; exact ⟨rfl, rfl⟩)
theorem simp_holds : Rows.FnExactSimplestInSaid :=
  OpenClaim.holds_of_wide 7 Try.f7 rfl rfl rfl rfl rfl rfl rfl ⟨rfl, rfl, rfl, rfl, rfl⟩ rfl rfl rfl rfl rfl simp_holds_named Try.func7 simp_holds_closed simp_holds_inst simp_holds_wrap
    (fun os started H enc _ => simp_holds_lifted os started H enc)
#print axioms simp_holds
end Go.Proofs.Ytlmeokeanihhoaa
