/- The law FnExactCurveAt returns true for every argument and leaves it as it was: the given statement FnExactCurveAtSaid. No condition. -/
import Derived.Test.YtikllcoekcglcaaGreatPkR5
import Derived.Test.YtikllcoekcglcaaGreatPkR4
import Derived.Test.YtikllcoekcglcaaGreatPkR6
namespace Go.Proofs.YtikllcoekcglcaaGreat
open Go.RowKit
set_option linter.unusedVariables false
set_option maxRecDepth 100000
set_option linter.unusedSimpArgs false

structure TlawCat (w wx : World) (v1 : QV) (d1 : QD) : Prop where
  bel : Below w.heap.size w wx
  x1_0 : wx.cell? ⟨w.heap.size, 0, none⟩ = some (.bool v1.num.g)
  x1_1 : wx.cell? ⟨w.heap.size, 1, none⟩ = some (.slice v1.num.a v1.num.n v1.num.c)
  x1_2 : wx.cell? ⟨w.heap.size, 2, none⟩ = some (.bool v1.den.g)
  x1_3 : wx.cell? ⟨w.heap.size, 3, none⟩ = some (.slice v1.den.a v1.den.n v1.den.c)
  s1 : AllSl wx [(v1.num, d1.num), (v1.den, d1.den)]
theorem TlawCat.later {w wx wy : World} {v1 : QV} {d1 : QD} (h : TlawCat w wx v1 d1) (hb : Below wx.heap.size wx wy) : TlawCat w wy v1 d1 :=
  ⟨below_on h.bel hb, cell_later hb h.x1_0, cell_later hb h.x1_1, cell_later hb h.x1_2, cell_later hb h.x1_3, h.s1.later hb⟩
theorem TlawCat.but {w wx wy : World} {v1 : QV} {d1 : QD} {lo hi : Nat} (h : TlawCat w wx v1 d1) (hb : But lo hi wx wy) (hl : w.heap.size + 1 ≤ lo) (hx1 : AllSl w [(v1.num, d1.num), (v1.den, d1.den)]) : TlawCat w wy v1 d1 := by
  have hB := hb.below h.bel (by omega) h.bel.size
  exact ⟨hB, hb.cell h.x1_0 (by omega), hb.cell h.x1_1 (by omega), hb.cell h.x1_2 (by omega), hb.cell h.x1_3 (by omega), hx1.later hB⟩
theorem TlawCat.start (w : World) (v1 : QV) (d1 : QD) (t1 : TypeId) (hx1 : AllSl w [(v1.num, d1.num), (v1.den, d1.den)]) : TlawCat w (w.alloc (.cells #[.bool v1.num.g, .slice v1.num.a v1.num.n v1.num.c, .bool v1.den.g, .slice v1.den.a v1.den.n v1.den.c] t1)) v1 d1 := by
  have hb : Below w.heap.size w (w.alloc (.cells #[.bool v1.num.g, .slice v1.num.a v1.num.n v1.num.c, .bool v1.den.g, .slice v1.den.a v1.den.n v1.den.c] t1)) := ((Below.refl _ _).alloc (by simp) _)
  exact ⟨hb, by simp [go_sem], by simp [go_sem], by simp [go_sem], by simp [go_sem], hx1.later hb⟩
set_option maxRecDepth 100000 in
set_option maxHeartbeats 16000000 in
theorem lawCat_walk (a0 : Option Addr) (n0 c0 : Nat) (l0 : List (SV × SD)) (v1 : QV) (d1 : QD) (w : World) (h0 : PSlS w a0 l0) (hn0 : l0.length = n0) (hx1 : AllSl w [(v1.num, d1.num), (v1.den, d1.den)]) (hm0 : n0 ≤ maxLen) (ml0 : ∀ p ∈ l0, p.1.lo.num.n ≤ maxLen ∧ p.1.lo.den.n ≤ maxLen ∧ p.1.hi.num.n ≤ maxLen ∧ p.1.hi.den.n ≤ maxLen) (m1_0 : v1.num.n ≤ maxLen) (m1_1 : v1.den.n ≤ maxLen) :
    Calls Tryz.prog 7 #[.slice a0 n0 c0, .agg #[.bool v1.num.g, .slice v1.num.a v1.num.n v1.num.c, .bool v1.den.g, .slice v1.den.a v1.den.n v1.den.c]] w fun e w' => e = .returned (.bool true) ∧ Below w.heap.size w w' := by
  obtain ⟨U, HU⟩ : ∃ U : SD → Bool → Prop, Hid (U = AnsS (gCv (l0.map Prod.snd) && gF d1) (nR (plc (vQ d1) (vC l0)).1) (dR (plc (vQ d1) (vC l0)).1) (nR (plc (vQ d1) (vC l0)).2) (dR (plc (vQ d1) (vC l0)).2)) := ⟨_, hide rfl⟩
  have US : Hid (∀ d ok d' ok', U d ok → U d' ok' → d = d' ∧ ok = ok') := hide (by rw [unhide HU]; exact fun d ok d' ok' h k => h.same k)
  have UL : Hid (∀ d ok, U d ok → d.lo.num.xs.length ≤ 40 ∧ d.lo.den.xs.length ≤ 40 ∧ d.hi.num.xs.length ≤ 40 ∧ d.hi.den.xs.length ≤ 40) := hide (by rw [unhide HU]; exact fun d ok h => h.lens)
  have CS : Hid (∀ (a : Option Addr) (n c : Nat) (k : List (SV × SD)) (q1 : QV) (w : World), PArS w a n c k → k.map Prod.snd = l0.map Prod.snd → AllAr w [(q1.num, d1.num), (q1.den, d1.den)] → Calls Tryz.prog 21 #[.slice a n c, .agg #[.bool q1.num.g, .slice q1.num.a q1.num.n q1.num.c, .bool q1.den.g, .slice q1.den.a q1.den.n q1.den.c]] w (RetS w U)) := hide (by rw [unhide HU]; exact fun a n c k q1 w h e h1 => by have := CatS a n c k q1 d1 w h h1; rw [vC_eq e, e] at this; exact this)
  have CI : Hid (∀ (a : Option Addr) (n c : Nat) (k : List (SV × SD)) (q1 : QV) (w : World), PArS w a n c k → k.map Prod.snd = l0.map Prod.snd → AllAr w [(q1.num, d1.num), (q1.den, d1.den)] → Calls Tryz.prog 20 #[.slice a n c, .agg #[.bool q1.num.g, .slice q1.num.a q1.num.n q1.num.c, .bool q1.den.g, .slice q1.den.a q1.den.n q1.den.c]] w (RetS w U)) := hide (by rw [unhide HU]; exact fun a n c k q1 w h e h1 => by have := CatI a n c k q1 d1 w h h1; rw [vC_eq e, e] at this; exact this)
  clear HU
  have SZ0 := hide (fun w1 (left : Int) (b0 : 0 ≤ left) (b1 : left ≤ 1048576) (k : PSlS w1 a0 l0) => szPS a0 n0 c0 l0 left w1 k hn0 hm0 ml0 b0 b1)
  have HS0 := hide h0
  have HN0 := hide hn0
  have HX1 := hide hx1
  have MM1 := hide (And.intro m1_0 m1_1)
  clear h0 hn0 hm0 ml0 hx1 m1_0 m1_1
  have T := hide (TlawCat.start w v1 d1 69 (unhide HX1))
  go_enter Tryz.func7, Tryz.ntmps7
  go_wp2_with fail
  refine (unhide SZ0 _ 1048576 (by omega) (by omega) ((unhide HS0).later (unhide T).bel)).mono ?_
  rintro e ws0 ⟨r0, rfl, hb, hr⟩
  have z := hb.size
  replace T := hide ((unhide T).later hb)
  clear hb SZ0
  replace z : w.heap.size + 1 ≤ ws0.heap.size := by simp at z; omega
  by_cases hneg : r0 < 0
  · clear hr
    go_wp2
    go_ret
    exact ⟨rfl, (unhide T).bel⟩
  have e0 : Hid (r0 = 1048576 - (n0 : Int) - (lenPS l0 : Int)) := hide (by
    rcases hr with e | e
    · exact absurd (show r0 < 0 by omega) hneg
    · exact e.2)
  clear hr
  have b0 : r0 ≤ 1048576 := by have := unhide e0; omega
  have pp0 : 0 ≤ r0 := by omega
  have y0 := (unhide T).x1_0
  have y1 := (unhide T).x1_1
  have y2 := (unhide T).x1_2
  have y3 := (unhide T).x1_3
  by_cases hc1 : r0 < (v1.num.n : Int) + (v1.den.n : Int)
  · go_wp2_with fail
    refine (szQ_out v1 (r0) _ (by omega) (by omega) (unhide MM1).1 (unhide MM1).2 hc1).mono ?_
    rintro e wz ⟨rfl, hb⟩
    replace T := hide ((unhide T).later hb)
    clear hb y0 y1 y2 y3
    go_wp2
    go_ret
    exact ⟨rfl, (unhide T).bel⟩
  have u1 : ¬ (r0 - (v1.num.n : Int) - (v1.den.n : Int) < 0) := by omega
  go_wp2_with fail
  refine (szQ_in v1 (r0) _ (by omega) (by omega) (by omega)).mono ?_
  rintro e wq1 ⟨rfl, hb⟩
  replace z : w.heap.size + 1 ≤ wq1.heap.size := Nat.le_trans z hb.size
  replace T := hide ((unhide T).later hb)
  clear hb y0 y1 y2 y3
  have l1_0 : v1.num.n ≤ 1048576 := by omega
  have l1_1 : v1.den.n ≤ 1048576 := by omega
  have M0 : Hid (∀ p ∈ l0, p.1.lo.num.n ≤ 1048576 ∧ p.1.lo.den.n ≤ 1048576 ∧ p.1.hi.num.n ≤ 1048576 ∧ p.1.hi.den.n ≤ 1048576) := hide (fun p hp => by have h1 := lenPS_mem hp; have h2 : lenS p = p.1.lo.num.n + p.1.lo.den.n + p.1.hi.num.n + p.1.hi.den.n := rfl; have := unhide e0; omega)
  have Z0 : Hid (4 * n0 + lenPS l0 ≤ 4200000) := hide (by have := unhide e0; omega)
  have TT0 := hide (fun w1 (k : PSlS w1 a0 l0) => toPS a0 n0 c0 l0 w1 k (unhide HN0) (by have := unhide e0; omega) (unhide M0))
  go_upto_region 8 with fail
  go_cut [6, 7] (fun p q wx => ∃ (G : Nat) (v : SV) (d : SD) (ok : Bool), p = .pointer (some ⟨G, 0, none⟩) ∧ q = .bool ok ∧ Hid (MetS wq1 wx G v d) ∧ Hid (U d ok) ∧ Hid (TlawCat w wx v1 d1))
  case first =>
    have ka0 := (unhide T).x1_0
    have ka1 := (unhide T).x1_1
    have ka2 := (unhide T).x1_2
    have ka3 := (unhide T).x1_3
    go_region_held3 (fun w' => w'.cell? ⟨w.heap.size, 0, none⟩ = some (.bool v1.num.g) ∧ w'.cell? ⟨w.heap.size, 1, none⟩ = some (.slice v1.num.a v1.num.n v1.num.c) ∧ w'.cell? ⟨w.heap.size, 2, none⟩ = some (.bool v1.den.g) ∧ w'.cell? ⟨w.heap.size, 3, none⟩ = some (.slice v1.den.a v1.den.n v1.den.c)) (with_reducible (first | exact ⟨ka0, ka1, ka2, ka3⟩ | exact ⟨cd_other ka0, cd_other ka1, cd_other ka2, cd_other ka3⟩ | exact ⟨ca_other ka0, ca_other ka1, ca_other ka2, ca_other ka3⟩ | exact ⟨cd_other (ca_other ka0), cd_other (ca_other ka1), cd_other (ca_other ka2), cd_other (ca_other ka3)⟩ | exact ⟨cs_other (cs_other (cs_other (cs_other (cs_other (cs_other (cs_other (cs_other (ka0) (by omega)) (by omega)) (by omega)) (by omega)) (by omega)) (by omega)) (by omega)) (by omega), cs_other (cs_other (cs_other (cs_other (cs_other (cs_other (cs_other (cs_other (ka1) (by omega)) (by omega)) (by omega)) (by omega)) (by omega)) (by omega)) (by omega)) (by omega), cs_other (cs_other (cs_other (cs_other (cs_other (cs_other (cs_other (cs_other (ka2) (by omega)) (by omega)) (by omega)) (by omega)) (by omega)) (by omega)) (by omega)) (by omega), cs_other (cs_other (cs_other (cs_other (cs_other (cs_other (cs_other (cs_other (ka3) (by omega)) (by omega)) (by omega)) (by omega)) (by omega)) (by omega)) (by omega)) (by omega)⟩ | fail))
      (first
      | (go_at_call 70; refine (unhide TT0 _ ?_).mono ?_; (first | exact ((unhide HS0).later (unhide T).bel).later (Below.refl _ _).drew | exact ((unhide HS0).later (unhide T).bel).later ((Below.refl _ _).alloc (Nat.le_refl _) _).drew); rintro e wa0 ⟨lA, rfl, hb, zA, dA, oA⟩; have hbx : Below wq1.heap.size wq1 wa0 := (by first | exact below_of_drew hb | exact bad hb); have sz0 := hbx.size; replace T := hide ((unhide T).later hbx); replace ka0 := (unhide T).x1_0; replace ka1 := (unhide T).x1_1; replace ka2 := (unhide T).x1_2; replace ka3 := (unhide T).x1_3; (try (replace gf := fun o => frozen_later hbx (World.block_lt_of_cell? _ _ g0) (gf o); replace g0 := cell_later hbx g0; replace g1 := cell_later hbx g1; replace g2 := cell_later hbx g2; replace g3 := cell_later hbx g3; replace g4 := cell_later hbx g4; replace g5 := cell_later hbx g5; replace g6 := cell_later hbx g6; replace g7 := cell_later hbx g7)); (try (refine cutP (p := wa0.cell? ⟨wq1.heap.size, 0, none⟩ = some (.bool false) ∧ wa0.cell? ⟨wq1.heap.size, 1, none⟩ = some (.slice none 0 0) ∧ wa0.cell? ⟨wq1.heap.size, 2, none⟩ = some (.bool false) ∧ wa0.cell? ⟨wq1.heap.size, 3, none⟩ = some (.slice none 0 0) ∧ wa0.cell? ⟨wq1.heap.size, 4, none⟩ = some (.bool false) ∧ wa0.cell? ⟨wq1.heap.size, 5, none⟩ = some (.slice none 0 0) ∧ wa0.cell? ⟨wq1.heap.size, 6, none⟩ = some (.bool false) ∧ wa0.cell? ⟨wq1.heap.size, 7, none⟩ = some (.slice none 0 0) ∧ ∀ o, wa0.frozen? ⟨wq1.heap.size, o, none⟩ = false) ?_ (fun dd => ?_); (focus (refine ⟨cell_later hb ?_, cell_later hb ?_, cell_later hb ?_, cell_later hb ?_, cell_later hb ?_, cell_later hb ?_, cell_later hb ?_, cell_later hb ?_, fun o => frozen_later hb ?_ ?_⟩ <;> (simp [go_sem]; done))); obtain ⟨g0, g1, g2, g3, g4, g5, g6, g7, gf⟩ := dd)); have zz0 := hb.size; (try simp at zz0); have HBr := hide hbx; have A0 := hide oA; have DA := hide dA; clear hb hbx oA dA zA)
      | (go_at_call_of 71 (Value.agg #[Value.bool v1.num.g, Value.slice v1.num.a v1.num.n v1.num.c, Value.bool v1.den.g, Value.slice v1.den.a v1.den.n v1.den.c]); refine (toQ_at v1 d1 _ ?_ l1_0 l1_1).mono ?_; (first | exact (unhide T).s1 | exact (unhide T).s1.later ((Below.refl _ _).alloc (Nat.le_refl _) _)); rintro e wa1 ⟨qa1, rfl, hb, hna, ow, ar⟩; have hbx : Below wa0.heap.size wa0 wa1 := (by first | exact hb | exact ba hb); have sz1 := hbx.size; replace T := hide ((unhide T).later hbx); replace ka0 := (unhide T).x1_0; replace ka1 := (unhide T).x1_1; replace ka2 := (unhide T).x1_2; replace ka3 := (unhide T).x1_3; replace A0 := hide ((unhide A0).later hbx); (try (replace gf := fun o => frozen_later hbx (World.block_lt_of_cell? _ _ g0) (gf o); replace g0 := cell_later hbx g0; replace g1 := cell_later hbx g1; replace g2 := cell_later hbx g2; replace g3 := cell_later hbx g3; replace g4 := cell_later hbx g4; replace g5 := cell_later hbx g5; replace g6 := cell_later hbx g6; replace g7 := cell_later hbx g7)); (try (refine cutP (p := wa1.cell? ⟨wa0.heap.size, 0, none⟩ = some (.bool false) ∧ wa1.cell? ⟨wa0.heap.size, 1, none⟩ = some (.slice none 0 0) ∧ wa1.cell? ⟨wa0.heap.size, 2, none⟩ = some (.bool false) ∧ wa1.cell? ⟨wa0.heap.size, 3, none⟩ = some (.slice none 0 0) ∧ wa1.cell? ⟨wa0.heap.size, 4, none⟩ = some (.bool false) ∧ wa1.cell? ⟨wa0.heap.size, 5, none⟩ = some (.slice none 0 0) ∧ wa1.cell? ⟨wa0.heap.size, 6, none⟩ = some (.bool false) ∧ wa1.cell? ⟨wa0.heap.size, 7, none⟩ = some (.slice none 0 0) ∧ ∀ o, wa1.frozen? ⟨wa0.heap.size, o, none⟩ = false) ?_ (fun dd => ?_); (focus (refine ⟨cell_later hb ?_, cell_later hb ?_, cell_later hb ?_, cell_later hb ?_, cell_later hb ?_, cell_later hb ?_, cell_later hb ?_, cell_later hb ?_, fun o => frozen_later hb ?_ ?_⟩ <;> (simp [go_sem]; done))); obtain ⟨g0, g1, g2, g3, g4, g5, g6, g7, gf⟩ := dd)); have zz1 := hb.size; (try simp at zz1); have HBr := hide (below_on (unhide HBr) hbx); have A1 := hide ar; clear hb hbx ow ar hna)
      | (go_at_call 21; refine (unhide CS _ _ _ lA _ _ ?_ (unhide DA) ?_).mono ?_; (first | exact (unhide A0).arg | exact (unhide A0).arg.later ((Below.refl _ _).alloc (Nat.le_refl _) _) | (have hh := (unhide A0).arg; simp at hh; exact hh) | (have hh := (unhide A0).arg; simp at hh; exact hh.later ((Below.refl _ _).alloc (Nat.le_refl _) _))); (first | exact unhide A1 | exact (unhide A1).later ((Below.refl _ _).alloc (Nat.le_refl _) _)); rintro e w5 ⟨vr, dr, okr, rfl, hb, hown, hu⟩; have hbx : Below wa1.heap.size wa1 w5 := (by first | exact hb | exact ba hb); have sz2 := hbx.size; replace T := hide ((unhide T).later hbx); replace ka0 := (unhide T).x1_0; replace ka1 := (unhide T).x1_1; replace ka2 := (unhide T).x1_2; replace ka3 := (unhide T).x1_3; replace A0 := hide ((unhide A0).later hbx); replace A1 := hide ((unhide A1).later hbx); (try (replace gf := fun o => frozen_later hbx (World.block_lt_of_cell? _ _ g0) (gf o); replace g0 := cell_later hbx g0; replace g1 := cell_later hbx g1; replace g2 := cell_later hbx g2; replace g3 := cell_later hbx g3; replace g4 := cell_later hbx g4; replace g5 := cell_later hbx g5; replace g6 := cell_later hbx g6; replace g7 := cell_later hbx g7)); (try (refine cutP (p := w5.cell? ⟨wa1.heap.size, 0, none⟩ = some (.bool false) ∧ w5.cell? ⟨wa1.heap.size, 1, none⟩ = some (.slice none 0 0) ∧ w5.cell? ⟨wa1.heap.size, 2, none⟩ = some (.bool false) ∧ w5.cell? ⟨wa1.heap.size, 3, none⟩ = some (.slice none 0 0) ∧ w5.cell? ⟨wa1.heap.size, 4, none⟩ = some (.bool false) ∧ w5.cell? ⟨wa1.heap.size, 5, none⟩ = some (.slice none 0 0) ∧ w5.cell? ⟨wa1.heap.size, 6, none⟩ = some (.bool false) ∧ w5.cell? ⟨wa1.heap.size, 7, none⟩ = some (.slice none 0 0) ∧ ∀ o, w5.frozen? ⟨wa1.heap.size, o, none⟩ = false) ?_ (fun dd => ?_); (focus (refine ⟨cell_later hb ?_, cell_later hb ?_, cell_later hb ?_, cell_later hb ?_, cell_later hb ?_, cell_later hb ?_, cell_later hb ?_, cell_later hb ?_, fun o => frozen_later hb ?_ ?_⟩ <;> (simp [go_sem]; done))); obtain ⟨g0, g1, g2, g3, g4, g5, g6, g7, gf⟩ := dd)); have zz2 := hb.size; (try simp at zz2); have HBr := hide (below_on (unhide HBr) hbx); have O5 := hide hown; have U5 := hide hu; clear hb hbx hown hu))
    all_goals go_wp2_with fail
    all_goals go_meet
    all_goals first
      | (with_reducible refine ⟨_, vr, dr, okr, rfl, rfl, hide (metS_alloc 34 (unhide HBr) (unhide O5) ?_), U5, hide ((unhide T).later ((Below.refl _ _).alloc (Nat.le_refl _) _))⟩; omega)
      | (with_reducible refine ⟨_, vr, dr, okr, rfl, rfl, hide (metS_set (unhide HBr) (unhide O5) ?_ ?_ g0 g1 g2 g3 g4 g5 g6 g7), U5, hide ((unhide T).but metS_but ?_ (unhide HX1))⟩ <;> first | omega | (simp; done) | (simp; omega))
  case rest =>
    obtain ⟨G0, vr, dr, okr, rfl, rfl, HM, UR, T3⟩ := hcut
    clear T
    have T := T3
    clear T3
    have V0 := hide (unhide HM).var
    have zG1 : w.heap.size + 1 ≤ G0 := Nat.le_trans z (unhide HM).lo
    have zG2 : G0 < wc.heap.size := (unhide HM).hi
    have zG3 : wq1.heap.size ≤ wc.heap.size := (unhide HM).bel.size
    clear HM
    have r_0 : vr.lo.num.n ≤ 40 := by rw [← ((unhide V0).own.own (vr.lo.num, dr.lo.num) (by simp)).len]; exact (unhide UL _ _ (unhide UR)).1
    have rm0 : vr.lo.num.n ≤ maxLen := by unfold maxLen; omega
    have rl0 : vr.lo.num.n ≤ 1048576 := by omega
    have r_1 : vr.lo.den.n ≤ 40 := by rw [← ((unhide V0).own.own (vr.lo.den, dr.lo.den) (by simp)).len]; exact (unhide UL _ _ (unhide UR)).2.1
    have rm1 : vr.lo.den.n ≤ maxLen := by unfold maxLen; omega
    have rl1 : vr.lo.den.n ≤ 1048576 := by omega
    have r_2 : vr.hi.num.n ≤ 40 := by rw [← ((unhide V0).own.own (vr.hi.num, dr.hi.num) (by simp)).len]; exact (unhide UL _ _ (unhide UR)).2.2.1
    have rm2 : vr.hi.num.n ≤ maxLen := by unfold maxLen; omega
    have rl2 : vr.hi.num.n ≤ 1048576 := by omega
    have r_3 : vr.hi.den.n ≤ 40 := by rw [← ((unhide V0).own.own (vr.hi.den, dr.hi.den) (by simp)).len]; exact (unhide UL _ _ (unhide UR)).2.2.2
    have rm3 : vr.hi.den.n ≤ maxLen := by unfold maxLen; omega
    have rl3 : vr.hi.den.n ≤ 1048576 := by omega
    go_wp2_with fail
    refine (unhide TT0 _ ((unhide HS0).later (unhide T).bel)).mono ?_
    rintro e wx ⟨lx, rfl, hb, zx, dx, ox⟩
    have szx := hb.size
    replace T := hide ((unhide T).later hb)
    replace V0 := hide ((unhide V0).later hb)
    have Dx := hide dx
    have Ox := hide ox
    clear hb dx ox
    have p0 := (unhide T).x1_0
    have p1 := (unhide T).x1_1
    have p2 := (unhide T).x1_2
    have p3 := (unhide T).x1_3
    go_wp2_with fail
    refine (toQ_at v1 d1 _ (unhide T).s1 l1_0 l1_1).mono ?_
    rintro e wx1 ⟨y1, rfl, hb, hnn, ow, ar⟩
    have hn1 := hide hnn
    have VX1 := hide (VarQ.start 28 ow)
    have AX1 := hide (ar.later ((Below.refl _ _).alloc (Nat.le_refl _) (.cells #[.bool y1.num.g, .slice y1.num.a y1.num.n y1.num.c, .bool y1.den.g, .slice y1.den.a y1.den.n y1.den.c] 28)))
    have s1 : wx.heap.size ≤ wx1.heap.size := by have := hb.size; exact this
    replace T := hide (((unhide T).later hb).later ((Below.refl _ _).alloc (Nat.le_refl _) (.cells #[.bool y1.num.g, .slice y1.num.a y1.num.n y1.num.c, .bool y1.den.g, .slice y1.den.a y1.den.n y1.den.c] 28)))
    replace V0 := hide (((unhide V0).later hb).later ((Below.refl _ _).alloc (Nat.le_refl _) (.cells #[.bool y1.num.g, .slice y1.num.a y1.num.n y1.num.c, .bool y1.den.g, .slice y1.den.a y1.den.n y1.den.c] 28)))
    replace Ox := hide (((unhide Ox).later hb).later ((Below.refl _ _).alloc (Nat.le_refl _) (.cells #[.bool y1.num.g, .slice y1.num.a y1.num.n y1.num.c, .bool y1.den.g, .slice y1.den.a y1.den.n y1.den.c] 28)))
    clear hb hnn ow ar p0 p1 p2 p3
    go_wp2_with fail
    refine (unhide CI _ _ _ lx y1 _ (unhide Ox).arg (unhide Dx) (unhide AX1)).mono ?_
    rintro e w5 ⟨vg, dg, okg, rfl, hb, hown, hu⟩
    obtain ⟨e1, e2⟩ := unhide US _ _ _ _ (unhide UR) hu
    subst e1 e2
    have VG := hide (VarS.start 34 (hown.wide (lo' := wx1.heap.size + 1) (by simp) (Nat.le_refl _)))
    have sg : wx1.heap.size + 1 ≤ w5.heap.size := by have := hb.size; simp at this; omega
    have en0 : vg.lo.num.n = vr.lo.num.n := by rw [← ((unhide VG).own.own (vg.lo.num, dr.lo.num) (by simp)).len, ← ((unhide V0).own.own (vr.lo.num, dr.lo.num) (by simp)).len]
    have q0 : vg.lo.num.n ≤ 40 := by omega
    have qm0 : vg.lo.num.n ≤ maxLen := by omega
    have ql0 : vg.lo.num.n ≤ 1048576 := by omega
    have en1 : vg.lo.den.n = vr.lo.den.n := by rw [← ((unhide VG).own.own (vg.lo.den, dr.lo.den) (by simp)).len, ← ((unhide V0).own.own (vr.lo.den, dr.lo.den) (by simp)).len]
    have q1 : vg.lo.den.n ≤ 40 := by omega
    have qm1 : vg.lo.den.n ≤ maxLen := by omega
    have ql1 : vg.lo.den.n ≤ 1048576 := by omega
    have en2 : vg.hi.num.n = vr.hi.num.n := by rw [← ((unhide VG).own.own (vg.hi.num, dr.hi.num) (by simp)).len, ← ((unhide V0).own.own (vr.hi.num, dr.hi.num) (by simp)).len]
    have q2 : vg.hi.num.n ≤ 40 := by omega
    have qm2 : vg.hi.num.n ≤ maxLen := by omega
    have ql2 : vg.hi.num.n ≤ 1048576 := by omega
    have en3 : vg.hi.den.n = vr.hi.den.n := by rw [← ((unhide VG).own.own (vg.hi.den, dr.hi.den) (by simp)).len, ← ((unhide V0).own.own (vr.hi.den, dr.hi.den) (by simp)).len]
    have q3 : vg.hi.den.n ≤ 40 := by omega
    have qm3 : vg.hi.den.n ≤ maxLen := by omega
    have ql3 : vg.hi.den.n ≤ 1048576 := by omega
    clear AX1
    replace T := hide ((unhide T).later hb)
    replace V0 := hide ((unhide V0).later hb)
    replace Ox := hide ((unhide Ox).later hb)
    replace VX1 := hide ((unhide VX1).later hb)
    clear hb hown hu
    replace T := hide ((unhide T).later ((Below.refl _ _).alloc (Nat.le_refl _) (.cells #[.bool vg.lo.num.g, .slice vg.lo.num.a vg.lo.num.n vg.lo.num.c, .bool vg.lo.den.g, .slice vg.lo.den.a vg.lo.den.n vg.lo.den.c, .bool vg.hi.num.g, .slice vg.hi.num.a vg.hi.num.n vg.hi.num.c, .bool vg.hi.den.g, .slice vg.hi.den.a vg.hi.den.n vg.hi.den.c] 34)))
    replace V0 := hide ((unhide V0).later ((Below.refl _ _).alloc (Nat.le_refl _) (.cells #[.bool vg.lo.num.g, .slice vg.lo.num.a vg.lo.num.n vg.lo.num.c, .bool vg.lo.den.g, .slice vg.lo.den.a vg.lo.den.n vg.lo.den.c, .bool vg.hi.num.g, .slice vg.hi.num.a vg.hi.num.n vg.hi.num.c, .bool vg.hi.den.g, .slice vg.hi.den.a vg.hi.den.n vg.hi.den.c] 34)))
    replace Ox := hide ((unhide Ox).later ((Below.refl _ _).alloc (Nat.le_refl _) (.cells #[.bool vg.lo.num.g, .slice vg.lo.num.a vg.lo.num.n vg.lo.num.c, .bool vg.lo.den.g, .slice vg.lo.den.a vg.lo.den.n vg.lo.den.c, .bool vg.hi.num.g, .slice vg.hi.num.a vg.hi.num.n vg.hi.num.c, .bool vg.hi.den.g, .slice vg.hi.den.a vg.hi.den.n vg.hi.den.c] 34)))
    replace VX1 := hide ((unhide VX1).later ((Below.refl _ _).alloc (Nat.le_refl _) (.cells #[.bool vg.lo.num.g, .slice vg.lo.num.a vg.lo.num.n vg.lo.num.c, .bool vg.lo.den.g, .slice vg.lo.den.a vg.lo.den.n vg.lo.den.c, .bool vg.hi.num.g, .slice vg.hi.num.a vg.hi.num.n vg.hi.num.c, .bool vg.hi.den.g, .slice vg.hi.den.a vg.hi.den.n vg.hi.den.c] 34)))
    have enh0 := hide en0
    clear en0
    have enh1 := hide en1
    clear en1
    have enh2 := hide en2
    clear en2
    have enh3 := hide en3
    clear en3
    have PX : Hid (PRoZ (wc.heap.size) wx.heap.size (w5.alloc (.cells #[.bool vg.lo.num.g, .slice vg.lo.num.a vg.lo.num.n vg.lo.num.c, .bool vg.lo.den.g, .slice vg.lo.den.a vg.lo.den.n vg.lo.den.c, .bool vg.hi.num.g, .slice vg.hi.num.a vg.hi.num.n vg.hi.num.c, .bool vg.hi.den.g, .slice vg.hi.den.a vg.hi.den.n vg.hi.den.c] 34)) (some ⟨wc.heap.size, 0, none⟩) n0 n0 lx) := hide ((unhide Ox).ro (Nat.lt_succ_self _) (by omega) (by rw [lenPS_sndZ (unhide Ox).arg.sl (unhide HS0) (unhide Dx)]; exact unhide Z0) (ml_sndZ (unhide Ox).arg.sl (unhide HS0) (unhide Dx) (unhide M0)))
    have KL : Hid (lenPS lx = lenPS l0 ∧ lx.length = n0) := hide ⟨lenPS_sndZ (unhide Ox).arg.sl (unhide HS0) (unhide Dx), (unhide Ox).len⟩
    clear Ox
    have p0 := (unhide V0).c0
    have p1 := (unhide V0).c1
    have p2 := (unhide V0).c2
    have p3 := (unhide V0).c3
    have p4 := (unhide V0).c4
    have p5 := (unhide V0).c5
    have p6 := (unhide V0).c6
    have p7 := (unhide V0).c7
    have okk : (okr == okr) = true := by simp
    go_wp2_with fail
    refine (eqS_at vg vr dr _ (unhide VG).own.sl (unhide V0).own.sl qm0 qm1 qm2 qm3).mono ?_
    rintro e w6 ⟨rfl, hb⟩
    have sz6 := hb.size
    clear p0 p1 p2 p3 p4 p5 p6 p7
    replace T := hide ((unhide T).later hb)
    replace V0 := hide ((unhide V0).later hb)
    replace VX1 := hide ((unhide VX1).later hb)
    replace VG := hide ((unhide VG).later hb)
    replace PX := hide ((unhide PX).later hb)
    clear hb
    go_wp2_with fail
    refine (unhide TT0 _ ((unhide HS0).later (unhide T).bel)).mono ?_
    rintro e wy ⟨ly, rfl, hb, zy, dy, oy⟩
    have szy := hb.size
    replace T := hide ((unhide T).later hb)
    replace V0 := hide ((unhide V0).later hb)
    replace VX1 := hide ((unhide VX1).later hb)
    replace VG := hide ((unhide VG).later hb)
    replace PX := hide ((unhide PX).later hb)
    have Dy := hide dy
    have Oy := hide oy
    clear hb dy oy
    go_wp2_with fail
    refine (eqPS _ _ n0 _ _ lx ly _ (unhide PX).sl (unhide Oy).arg.sl (unhide PX).len ((unhide Dx).trans (unhide Dy).symm) (unhide PX).max (unhide PX).lens).mono ?_
    rintro e wy1 ⟨rfl, hb⟩
    have szy1 := hb.size
    replace T := hide ((unhide T).later hb)
    replace V0 := hide ((unhide V0).later hb)
    replace VX1 := hide ((unhide VX1).later hb)
    replace VG := hide ((unhide VG).later hb)
    replace PX := hide ((unhide PX).later hb)
    clear hb Oy Dy zy
    have WW : w5.heap.size + 1 ≤ wy1.heap.size := by simp at sz6; omega
    clear sz6 szy szy1
    generalize wx1.heap.size = GX1 at *
    generalize w5.heap.size = GG at *
    generalize wx.heap.size = GX0 at *
    generalize wc.heap.size = GC at *
    go_wp2_with fail
    have ka0 := (unhide T).x1_0
    have kx0 := (unhide VX1).c0
    have ka1 := (unhide T).x1_1
    have kx1 := (unhide VX1).c1
    have ka2 := (unhide T).x1_2
    have kx2 := (unhide VX1).c2
    have ka3 := (unhide T).x1_3
    have kx3 := (unhide VX1).c3
    go_region_held3 (fun w' => w'.cell? ⟨w.heap.size, 0, none⟩ = some (.bool v1.num.g) ∧ w'.cell? ⟨w.heap.size, 1, none⟩ = some (.slice v1.num.a v1.num.n v1.num.c) ∧ w'.cell? ⟨w.heap.size, 2, none⟩ = some (.bool v1.den.g) ∧ w'.cell? ⟨w.heap.size, 3, none⟩ = some (.slice v1.den.a v1.den.n v1.den.c) ∧ w'.cell? ⟨GX1, 0, none⟩ = some (.bool y1.num.g) ∧ w'.cell? ⟨GX1, 1, none⟩ = some (.slice y1.num.a y1.num.n y1.num.c) ∧ w'.cell? ⟨GX1, 2, none⟩ = some (.bool y1.den.g) ∧ w'.cell? ⟨GX1, 3, none⟩ = some (.slice y1.den.a y1.den.n y1.den.c)) (with_reducible (first | exact ⟨ka0, ka1, ka2, ka3, kx0, kx1, kx2, kx3⟩ | exact ⟨cd_other ka0, cd_other ka1, cd_other ka2, cd_other ka3, cd_other kx0, cd_other kx1, cd_other kx2, cd_other kx3⟩ | fail))
      (first
      | (go_at_call 71; refine (toQ_at v1 d1 _ ?_ l1_0 l1_1).mono ?_; exact (unhide T).s1.later (Below.refl _ _).drew; rintro e w71 ⟨u7, rfl, hb', hn7, ow7, ar7⟩; have hb := below_of_drew hb'; replace T := hide ((unhide T).later hb); replace V0 := hide ((unhide V0).later hb); replace VX1 := hide ((unhide VX1).later hb); replace VG := hide ((unhide VG).later hb); replace PX := hide ((unhide PX).later hb); have Wa1 := hb.size; replace ka0 := (unhide T).x1_0; replace kx0 := (unhide VX1).c0; replace ka1 := (unhide T).x1_1; replace kx1 := (unhide VX1).c1; replace ka2 := (unhide T).x1_2; replace kx2 := (unhide VX1).c2; replace ka3 := (unhide T).x1_3; replace kx3 := (unhide VX1).c3; have S7 := hide ow7.sl; clear hb hb' ow7 ar7 hn7)
      | (go_at_call 74; refine (eqQ_at y1 u7 d1 _ (unhide VX1).own.sl (unhide S7) (by rw [(unhide hn1).1]; exact (unhide MM1).1) (by rw [(unhide hn1).2]; exact (unhide MM1).2)).mono ?_; rintro e w81 ⟨rfl, hb⟩; replace T := hide ((unhide T).later hb); replace V0 := hide ((unhide V0).later hb); replace VX1 := hide ((unhide VX1).later hb); replace VG := hide ((unhide VG).later hb); replace PX := hide ((unhide PX).later hb); have Wb1 := hb.size; replace ka0 := (unhide T).x1_0; replace kx0 := (unhide VX1).c0; replace ka1 := (unhide T).x1_1; replace kx1 := (unhide VX1).c1; replace ka2 := (unhide T).x1_2; replace kx2 := (unhide VX1).c2; replace ka3 := (unhide T).x1_3; replace kx3 := (unhide VX1).c3; clear hb))
    clear S7 ka0 kx0 ka1 kx1 ka2 kx2 ka3 kx3
    replace WW : GG + 1 ≤ w81.heap.size := by omega
    clear Wa1 Wb1
    go_wp2_with fail
    refine (markRZ _ _ _ n0 n0 lx _ (unhide PX) (by omega)).mono ?_
    rintro e wm0 ⟨rfl, hbt, _⟩
    have kb : 0 ≤ enZ 1 lx ∧ enZ 1 lx = 1 + 4 * (n0 : Int) + (lenPS l0 : Int) := by rw [enZ_eq, (unhide KL).1, (unhide KL).2]; omega
    have kb2 : enZ 1 lx + (v1.num.n : Int) + (v1.den.n : Int) ≤ 4400000 := by have := unhide e0; omega
    generalize enZ 1 lx = kk at *
    replace T := hide ((unhide T).but hbt (by omega) (unhide HX1))
    replace V0 := hide ((unhide V0).but hbt (by omega) (by omega))
    replace VX1 := hide ((unhide VX1).but hbt (by omega) (by omega))
    replace VG := hide ((unhide VG).but hbt (by omega) (by omega))
    replace WW : GG + 1 ≤ wm0.heap.size := Nat.le_trans WW hbt.size
    clear hbt PX KL
    have kb0 := hide kb.2
    replace kb := kb.1
    have p0 := (unhide VX1).c0
    have p1 := (unhide VX1).c1
    have p2 := (unhide VX1).c2
    have p3 := (unhide VX1).c3
    have hl0 : y1.num.n ≤ 1048576 := by rw [(unhide hn1).1]; exact l1_0
    have hl1 : y1.den.n ≤ 1048576 := by rw [(unhide hn1).2]; exact l1_1
    have kn1 : (y1.num.n : Int) = (v1.num.n : Int) ∧ (y1.den.n : Int) = (v1.den.n : Int) := by rw [(unhide hn1).1, (unhide hn1).2]; exact ⟨rfl, rfl⟩
    have KN1 := hide kn1
    clear kn1
    go_wp2_with fail
    refine (markQ_atL y1 d1 [] [] _ (GX0) GX1 _ (unhide VX1).own hl0 hl1 (by have := (unhide VX1).gt; omega) (by omega) (by have := unhide KN1; omega)).mono ?_
    rintro e wm1 ⟨rfl, hbt, hmk⟩
    replace T := hide ((unhide T).but hbt (by omega) (unhide HX1))
    replace V0 := hide ((unhide V0).but hbt (by omega) (by omega))
    replace VG := hide ((unhide VG).but hbt (by omega) (by omega))
    replace WW : GG + 1 ≤ wm1.heap.size := Nat.le_trans WW hbt.size
    clear VX1 p0 p1 p2 p3 hbt hmk hl0 hl1
    have hk0 : decide (kk + (y1.num.n : Int) + (y1.den.n : Int) < 0) = false := decide_eq_false (by omega)
    have p0 := (unhide VG).c0
    have pq0 := (unhide V0).c0
    have p1 := (unhide VG).c1
    have pq1 := (unhide V0).c1
    have p2 := (unhide VG).c2
    have pq2 := (unhide V0).c2
    have p3 := (unhide VG).c3
    have pq3 := (unhide V0).c3
    have p4 := (unhide VG).c4
    have pq4 := (unhide V0).c4
    have p5 := (unhide VG).c5
    have pq5 := (unhide V0).c5
    have p6 := (unhide VG).c6
    have pq6 := (unhide V0).c6
    have p7 := (unhide VG).c7
    have pq7 := (unhide V0).c7
    go_wp2_with fail
    refine (eqS_at vg vr dr _ (unhide VG).own.sl (unhide V0).own.sl qm0 qm1 qm2 qm3).mono ?_
    rintro e w20 ⟨rfl, hb⟩
    clear p0 pq0 p1 pq1 p2 pq2 p3 pq3 p4 pq4 p5 pq5 p6 pq6 p7 pq7 hk0
    replace WW : GG + 1 ≤ w20.heap.size := Nat.le_trans WW hb.size
    replace T := hide ((unhide T).later hb)
    replace V0 := hide ((unhide V0).later hb)
    replace VG := hide ((unhide VG).later hb)
    clear hb
    have p0 := (unhide VG).c0
    have p1 := (unhide VG).c1
    have p2 := (unhide VG).c2
    have p3 := (unhide VG).c3
    have p4 := (unhide VG).c4
    have p5 := (unhide VG).c5
    have p6 := (unhide VG).c6
    have p7 := (unhide VG).c7
    go_wp2_with fail
    refine (markS_at vg dr [] [] 1 (GX1 + 1) GG _ (unhide VG).own ql0 ql1 ql2 ql3 (by have := (unhide VG).gt; omega) (by omega) (by omega)).mono ?_
    rintro e w21 ⟨rfl, hbt, hmk⟩
    replace T := hide ((unhide T).but hbt (by omega) (unhide HX1))
    replace V0 := hide ((unhide V0).but hbt (by omega) (by omega))
    replace VG := hide ((unhide VG).mark (d' := ⟨⟨⟨dr.lo.num.g, marks (1) vg.lo.num.n⟩, ⟨dr.lo.den.g, marks (1 + vg.lo.num.n) vg.lo.den.n⟩⟩, ⟨⟨dr.hi.num.g, marks (1 + vg.lo.num.n + vg.lo.den.n) vg.hi.num.n⟩, ⟨dr.hi.den.g, marks (1 + vg.lo.num.n + vg.lo.den.n + vg.hi.num.n) vg.hi.den.n⟩⟩⟩) hbt (by omega) hmk)
    clear p0 p1 p2 p3 p4 p5 p6 p7 hbt hmk
    have p0 := (unhide VG).c0
    have p1 := (unhide VG).c1
    have p2 := (unhide VG).c2
    have p3 := (unhide VG).c3
    have p4 := (unhide VG).c4
    have p5 := (unhide VG).c5
    have p6 := (unhide VG).c6
    have p7 := (unhide VG).c7
    go_wp2_with fail
    refine (heldS_at vg 1 _ ((unhide VG).own.sl (vg.lo.num, ⟨dr.lo.num.g, marks (1) vg.lo.num.n⟩) (by simp)).sl ((unhide VG).own.sl (vg.lo.den, ⟨dr.lo.den.g, marks (1 + vg.lo.num.n) vg.lo.den.n⟩) (by simp)).sl ((unhide VG).own.sl (vg.hi.num, ⟨dr.hi.num.g, marks (1 + vg.lo.num.n + vg.lo.den.n) vg.hi.num.n⟩) (by simp)).sl ((unhide VG).own.sl (vg.hi.den, ⟨dr.hi.den.g, marks (1 + vg.lo.num.n + vg.lo.den.n + vg.hi.num.n) vg.hi.den.n⟩) (by simp)).sl ql0 ql1 ql2 ql3 (by omega) (by omega)).mono ?_
    rintro e wk ⟨rfl, hb⟩
    replace T := hide ((unhide T).later hb)
    replace V0 := hide ((unhide V0).later hb)
    replace VG := hide ((unhide VG).later hb)
    have hr0 : ¬ ((1 : Int) + (vg.lo.num.n : Int) + (vg.lo.den.n : Int) + (vg.hi.num.n : Int) + (vg.hi.den.n : Int) < 0) := by omega
    have zk : w.heap.size + 1 ≤ wk.heap.size := by have h1 := (unhide VG).gt; omega
    clear p0 p1 p2 p3 p4 p5 p6 p7 hb
    go_upto_region 31 with fail
    go_cut [15, 16] (fun p q wx => ∃ (G : Nat) (v : SV) (d : SD) (ok : Bool), p = .pointer (some ⟨G, 0, none⟩) ∧ q = .bool ok ∧ Hid (MetS wk wx G v d) ∧ Hid (U d ok) ∧ Hid (TlawCat w wx v1 d1))
    case first =>
      have ka0 := (unhide T).x1_0
      have ka1 := (unhide T).x1_1
      have ka2 := (unhide T).x1_2
      have ka3 := (unhide T).x1_3
      go_region_held3 (fun w' => w'.cell? ⟨w.heap.size, 0, none⟩ = some (.bool v1.num.g) ∧ w'.cell? ⟨w.heap.size, 1, none⟩ = some (.slice v1.num.a v1.num.n v1.num.c) ∧ w'.cell? ⟨w.heap.size, 2, none⟩ = some (.bool v1.den.g) ∧ w'.cell? ⟨w.heap.size, 3, none⟩ = some (.slice v1.den.a v1.den.n v1.den.c)) (with_reducible (first | exact ⟨ka0, ka1, ka2, ka3⟩ | exact ⟨cd_other ka0, cd_other ka1, cd_other ka2, cd_other ka3⟩ | exact ⟨ca_other ka0, ca_other ka1, ca_other ka2, ca_other ka3⟩ | exact ⟨cd_other (ca_other ka0), cd_other (ca_other ka1), cd_other (ca_other ka2), cd_other (ca_other ka3)⟩ | exact ⟨cs_other (cs_other (cs_other (cs_other (cs_other (cs_other (cs_other (cs_other (ka0) (by omega)) (by omega)) (by omega)) (by omega)) (by omega)) (by omega)) (by omega)) (by omega), cs_other (cs_other (cs_other (cs_other (cs_other (cs_other (cs_other (cs_other (ka1) (by omega)) (by omega)) (by omega)) (by omega)) (by omega)) (by omega)) (by omega)) (by omega), cs_other (cs_other (cs_other (cs_other (cs_other (cs_other (cs_other (cs_other (ka2) (by omega)) (by omega)) (by omega)) (by omega)) (by omega)) (by omega)) (by omega)) (by omega), cs_other (cs_other (cs_other (cs_other (cs_other (cs_other (cs_other (cs_other (ka3) (by omega)) (by omega)) (by omega)) (by omega)) (by omega)) (by omega)) (by omega)) (by omega)⟩ | fail))
        (first
        | (go_at_call 70; refine (unhide TT0 _ ?_).mono ?_; (first | exact ((unhide HS0).later (unhide T).bel).later (Below.refl _ _).drew | exact ((unhide HS0).later (unhide T).bel).later ((Below.refl _ _).alloc (Nat.le_refl _) _).drew); rintro e wa0 ⟨lA, rfl, hb, zA, dA, oA⟩; have hbx : Below wk.heap.size wk wa0 := (by first | exact below_of_drew hb | exact bad hb); have sz0 := hbx.size; replace T := hide ((unhide T).later hbx); replace ka0 := (unhide T).x1_0; replace ka1 := (unhide T).x1_1; replace ka2 := (unhide T).x1_2; replace ka3 := (unhide T).x1_3; (try (replace gf := fun o => frozen_later hbx (World.block_lt_of_cell? _ _ g0) (gf o); replace g0 := cell_later hbx g0; replace g1 := cell_later hbx g1; replace g2 := cell_later hbx g2; replace g3 := cell_later hbx g3; replace g4 := cell_later hbx g4; replace g5 := cell_later hbx g5; replace g6 := cell_later hbx g6; replace g7 := cell_later hbx g7)); (try (refine cutP (p := wa0.cell? ⟨wk.heap.size, 0, none⟩ = some (.bool false) ∧ wa0.cell? ⟨wk.heap.size, 1, none⟩ = some (.slice none 0 0) ∧ wa0.cell? ⟨wk.heap.size, 2, none⟩ = some (.bool false) ∧ wa0.cell? ⟨wk.heap.size, 3, none⟩ = some (.slice none 0 0) ∧ wa0.cell? ⟨wk.heap.size, 4, none⟩ = some (.bool false) ∧ wa0.cell? ⟨wk.heap.size, 5, none⟩ = some (.slice none 0 0) ∧ wa0.cell? ⟨wk.heap.size, 6, none⟩ = some (.bool false) ∧ wa0.cell? ⟨wk.heap.size, 7, none⟩ = some (.slice none 0 0) ∧ ∀ o, wa0.frozen? ⟨wk.heap.size, o, none⟩ = false) ?_ (fun dd => ?_); (focus (refine ⟨cell_later hb ?_, cell_later hb ?_, cell_later hb ?_, cell_later hb ?_, cell_later hb ?_, cell_later hb ?_, cell_later hb ?_, cell_later hb ?_, fun o => frozen_later hb ?_ ?_⟩ <;> (simp [go_sem]; done))); obtain ⟨g0, g1, g2, g3, g4, g5, g6, g7, gf⟩ := dd)); have zz0 := hb.size; (try simp at zz0); have HBr := hide hbx; have A0 := hide oA; have DA := hide dA; clear hb hbx oA dA zA)
        | (go_at_call_of 71 (Value.agg #[Value.bool v1.num.g, Value.slice v1.num.a v1.num.n v1.num.c, Value.bool v1.den.g, Value.slice v1.den.a v1.den.n v1.den.c]); refine (toQ_at v1 d1 _ ?_ l1_0 l1_1).mono ?_; (first | exact (unhide T).s1 | exact (unhide T).s1.later ((Below.refl _ _).alloc (Nat.le_refl _) _)); rintro e wa1 ⟨qa1, rfl, hb, hna, ow, ar⟩; have hbx : Below wa0.heap.size wa0 wa1 := (by first | exact hb | exact ba hb); have sz1 := hbx.size; replace T := hide ((unhide T).later hbx); replace ka0 := (unhide T).x1_0; replace ka1 := (unhide T).x1_1; replace ka2 := (unhide T).x1_2; replace ka3 := (unhide T).x1_3; replace A0 := hide ((unhide A0).later hbx); (try (replace gf := fun o => frozen_later hbx (World.block_lt_of_cell? _ _ g0) (gf o); replace g0 := cell_later hbx g0; replace g1 := cell_later hbx g1; replace g2 := cell_later hbx g2; replace g3 := cell_later hbx g3; replace g4 := cell_later hbx g4; replace g5 := cell_later hbx g5; replace g6 := cell_later hbx g6; replace g7 := cell_later hbx g7)); (try (refine cutP (p := wa1.cell? ⟨wa0.heap.size, 0, none⟩ = some (.bool false) ∧ wa1.cell? ⟨wa0.heap.size, 1, none⟩ = some (.slice none 0 0) ∧ wa1.cell? ⟨wa0.heap.size, 2, none⟩ = some (.bool false) ∧ wa1.cell? ⟨wa0.heap.size, 3, none⟩ = some (.slice none 0 0) ∧ wa1.cell? ⟨wa0.heap.size, 4, none⟩ = some (.bool false) ∧ wa1.cell? ⟨wa0.heap.size, 5, none⟩ = some (.slice none 0 0) ∧ wa1.cell? ⟨wa0.heap.size, 6, none⟩ = some (.bool false) ∧ wa1.cell? ⟨wa0.heap.size, 7, none⟩ = some (.slice none 0 0) ∧ ∀ o, wa1.frozen? ⟨wa0.heap.size, o, none⟩ = false) ?_ (fun dd => ?_); (focus (refine ⟨cell_later hb ?_, cell_later hb ?_, cell_later hb ?_, cell_later hb ?_, cell_later hb ?_, cell_later hb ?_, cell_later hb ?_, cell_later hb ?_, fun o => frozen_later hb ?_ ?_⟩ <;> (simp [go_sem]; done))); obtain ⟨g0, g1, g2, g3, g4, g5, g6, g7, gf⟩ := dd)); have zz1 := hb.size; (try simp at zz1); have HBr := hide (below_on (unhide HBr) hbx); have A1 := hide ar; clear hb hbx ow ar hna)
        | (go_at_call 20; refine (unhide CI _ _ _ lA _ _ ?_ (unhide DA) ?_).mono ?_; (first | exact (unhide A0).arg | exact (unhide A0).arg.later ((Below.refl _ _).alloc (Nat.le_refl _) _) | (have hh := (unhide A0).arg; simp at hh; exact hh) | (have hh := (unhide A0).arg; simp at hh; exact hh.later ((Below.refl _ _).alloc (Nat.le_refl _) _))); (first | exact unhide A1 | exact (unhide A1).later ((Below.refl _ _).alloc (Nat.le_refl _) _)); rintro e w5 ⟨vr, dr, okr, rfl, hb, hown, hu⟩; have hbx : Below wa1.heap.size wa1 w5 := (by first | exact hb | exact ba hb); have sz2 := hbx.size; replace T := hide ((unhide T).later hbx); replace ka0 := (unhide T).x1_0; replace ka1 := (unhide T).x1_1; replace ka2 := (unhide T).x1_2; replace ka3 := (unhide T).x1_3; replace A0 := hide ((unhide A0).later hbx); replace A1 := hide ((unhide A1).later hbx); (try (replace gf := fun o => frozen_later hbx (World.block_lt_of_cell? _ _ g0) (gf o); replace g0 := cell_later hbx g0; replace g1 := cell_later hbx g1; replace g2 := cell_later hbx g2; replace g3 := cell_later hbx g3; replace g4 := cell_later hbx g4; replace g5 := cell_later hbx g5; replace g6 := cell_later hbx g6; replace g7 := cell_later hbx g7)); (try (refine cutP (p := w5.cell? ⟨wa1.heap.size, 0, none⟩ = some (.bool false) ∧ w5.cell? ⟨wa1.heap.size, 1, none⟩ = some (.slice none 0 0) ∧ w5.cell? ⟨wa1.heap.size, 2, none⟩ = some (.bool false) ∧ w5.cell? ⟨wa1.heap.size, 3, none⟩ = some (.slice none 0 0) ∧ w5.cell? ⟨wa1.heap.size, 4, none⟩ = some (.bool false) ∧ w5.cell? ⟨wa1.heap.size, 5, none⟩ = some (.slice none 0 0) ∧ w5.cell? ⟨wa1.heap.size, 6, none⟩ = some (.bool false) ∧ w5.cell? ⟨wa1.heap.size, 7, none⟩ = some (.slice none 0 0) ∧ ∀ o, w5.frozen? ⟨wa1.heap.size, o, none⟩ = false) ?_ (fun dd => ?_); (focus (refine ⟨cell_later hb ?_, cell_later hb ?_, cell_later hb ?_, cell_later hb ?_, cell_later hb ?_, cell_later hb ?_, cell_later hb ?_, cell_later hb ?_, fun o => frozen_later hb ?_ ?_⟩ <;> (simp [go_sem]; done))); obtain ⟨g0, g1, g2, g3, g4, g5, g6, g7, gf⟩ := dd)); have zz2 := hb.size; (try simp at zz2); have HBr := hide (below_on (unhide HBr) hbx); have O5 := hide hown; have U5 := hide hu; clear hb hbx hown hu))
      all_goals go_wp2_with fail
      all_goals go_meet
      all_goals first
        | (with_reducible refine ⟨_, vr, dr, okr, rfl, rfl, hide (metS_alloc 34 (unhide HBr) (unhide O5) ?_), U5, hide ((unhide T).later ((Below.refl _ _).alloc (Nat.le_refl _) _))⟩; omega)
        | (with_reducible refine ⟨_, vr, dr, okr, rfl, rfl, hide (metS_set (unhide HBr) (unhide O5) ?_ ?_ g0 g1 g2 g3 g4 g5 g6 g7), U5, hide ((unhide T).but metS_but ?_ (unhide HX1))⟩ <;> first | omega | (simp; done) | (simp; omega))
    case rest =>
      obtain ⟨GH, vh, dh, okh, rfl, rfl, HM, UH, T9⟩ := hcut
      obtain ⟨e1, e2⟩ := unhide US _ _ _ _ (unhide UR) (unhide UH)
      subst e1 e2
      have VH := hide (unhide HM).var
      replace V0 := hide ((unhide V0).later (unhide HM).bel)
      replace VG := hide ((unhide VG).later (unhide HM).bel)
      clear HM
      clear T
      have T := T9
      clear T9
      have hm0 : vh.lo.num.n ≤ maxLen := by rw [← ((unhide VH).own.own (vh.lo.num, dr.lo.num) (by simp)).len, ((unhide V0).own.own (vr.lo.num, dr.lo.num) (by simp)).len]; exact rm0
      have hm1 : vh.lo.den.n ≤ maxLen := by rw [← ((unhide VH).own.own (vh.lo.den, dr.lo.den) (by simp)).len, ((unhide V0).own.own (vr.lo.den, dr.lo.den) (by simp)).len]; exact rm1
      have hm2 : vh.hi.num.n ≤ maxLen := by rw [← ((unhide VH).own.own (vh.hi.num, dr.hi.num) (by simp)).len, ((unhide V0).own.own (vr.hi.num, dr.hi.num) (by simp)).len]; exact rm2
      have hm3 : vh.hi.den.n ≤ maxLen := by rw [← ((unhide VH).own.own (vh.hi.den, dr.hi.den) (by simp)).len, ((unhide V0).own.own (vr.hi.den, dr.hi.den) (by simp)).len]; exact rm3
      have p0 := (unhide VH).c0
      have pq0 := (unhide V0).c0
      have p1 := (unhide VH).c1
      have pq1 := (unhide V0).c1
      have p2 := (unhide VH).c2
      have pq2 := (unhide V0).c2
      have p3 := (unhide VH).c3
      have pq3 := (unhide V0).c3
      have p4 := (unhide VH).c4
      have pq4 := (unhide V0).c4
      have p5 := (unhide VH).c5
      have pq5 := (unhide V0).c5
      have p6 := (unhide VH).c6
      have pq6 := (unhide V0).c6
      have p7 := (unhide VH).c7
      have pq7 := (unhide V0).c7
      go_wp2_with fail
      refine (eqS_at vh vr dr _ (unhide VH).own.sl (unhide V0).own.sl hm0 hm1 hm2 hm3).mono ?_
      rintro e w30 ⟨rfl, hb⟩
      clear p0 pq0 p1 pq1 p2 pq2 p3 pq3 p4 pq4 p5 pq5 p6 pq6 p7 pq7
      replace T := hide ((unhide T).later hb)
      replace VG := hide ((unhide VG).later hb)
      clear hb VH V0
      have p0 := (unhide VG).c0
      have p1 := (unhide VG).c1
      have p2 := (unhide VG).c2
      have p3 := (unhide VG).c3
      have p4 := (unhide VG).c4
      have p5 := (unhide VG).c5
      have p6 := (unhide VG).c6
      have p7 := (unhide VG).c7
      go_wp2_with fail
      refine (heldS_at vg 1 _ ((unhide VG).own.sl (vg.lo.num, ⟨dr.lo.num.g, marks (1) vg.lo.num.n⟩) (by simp)).sl ((unhide VG).own.sl (vg.lo.den, ⟨dr.lo.den.g, marks (1 + vg.lo.num.n) vg.lo.den.n⟩) (by simp)).sl ((unhide VG).own.sl (vg.hi.num, ⟨dr.hi.num.g, marks (1 + vg.lo.num.n + vg.lo.den.n) vg.hi.num.n⟩) (by simp)).sl ((unhide VG).own.sl (vg.hi.den, ⟨dr.hi.den.g, marks (1 + vg.lo.num.n + vg.lo.den.n + vg.hi.num.n) vg.hi.den.n⟩) (by simp)).sl ql0 ql1 ql2 ql3 (by omega) (by omega)).mono ?_
      rintro e w31 ⟨rfl, hb⟩
      replace T := hide ((unhide T).later hb)
      clear p0 p1 p2 p3 p4 p5 p6 p7 hb
      go_wp2
      go_ret
      exact ⟨rfl, (unhide T).bel⟩
end Go.Proofs.YtikllcoekcglcaaGreat
namespace Go.Proofs.YtikllcoekcglcaaGreat
open Go.ChangeShapes Go.WideShapes Go.ChangeAt Go.RowKit Go.Joins
set_option linter.unusedVariables false
set_option maxRecDepth 100000
set_option linter.unusedSimpArgs false

set_option maxRecDepth 100000 in
theorem cat_holds_lifted (os : Os) (started : os.Started) (H : Type) (enc : TypeId × Value → H) :
    ReturnsInHanded {} Tryz.checked os 7 .any (Rows.fnExactCurveAtSpec.pre6 enc Tryz.prog Tryz.f7 Rows.fnExactCurveAtRow.domain false) (Rows.fnExactCurveAtSpec.post enc Tryz.prog Tryz.f7 false true false false) := by
  refine returnsInHanded_of_change (C := Tryz.checked) own started (by kernel_rfl) Tryz.func7
    (ChangeSpec.witness6 (enc := enc) (C := Tryz.checked) false ⟨#[], #[.slice none 0 0, .agg #[.bool false, .slice none 0 0, .bool false, .slice none 0 0]], []⟩ 8 (by kernel_rfl) (by kernel_rfl) (by kernel_rfl) (by kernel_rfl)) ?_
  intro W base args ds gs before hval0 hW hcnd _
  have hval : ∀ (j : Nat) t v, Tryz.f7.params[j]? = some t → args[j]? = some v → Value.okWide Tryz.prog W .any base t v := hval0
  have hW' := hW
  obtain ⟨p, q, hA0, hV, rfl, hfz, hnd⟩ := hW
  have hA : DataW.TrodAll enc Tryz.prog W 0 (fun _ => true) true Tryz.f7.params.toList args.toList ds p := hA0
  rw [Tryz.params7] at hA hval
  obtain ⟨v0, vs0, d0, ds0, p0, q0, hargs, rfl, rfl, h0, r0⟩ := trodAll_cons hA
  obtain ⟨v1, vs1, d1, ds1, p1, q1, rfl, rfl, rfl, h1, r1⟩ := trodAll_cons r0
  obtain ⟨rfl, rfl, rfl⟩ := trodAll_nil r1
  obtain rfl : args = #[v0, v1] := by cases args; simp_all
  obtain ⟨rfl, rfl⟩ := trodVars_none hV
  have lt0 : ∀ x ∈ p0, x.block < W.heap.size := by obtain ⟨m, hm⟩ := h0; exact DataW.trod_lt m _ _ _ hm
  obtain ⟨a0, n0, c0, l0, rfl, sl0, hn0, hm0, ml0⟩ := open_PS (hval 0 66 v0 rfl rfl) h0
  have lt1 : ∀ x ∈ p1, x.block < W.heap.size := by obtain ⟨m, hm⟩ := h1; exact DataW.trod_lt m _ _ _ hm
  obtain ⟨u1, e1, rfl, sl1, m1_0, m1_1⟩ := open_Q (hval 1 69 v1 rfl rfl) h1
  clear hA0 hval0
  refine (lawCat_walk a0 n0 c0 l0 u1 e1 W sl0 hn0 sl1 hm0 ml0 m1_0 m1_1).mono fun e W' ⟨he, bel⟩ => ?_
  subst he
  exact ⟨_, rfl, _, _, _, [], _, [], hW', trodAll_mk1 (shut_bool Tryz.underlying4 _), (trodAll_cons_mk (Below.trod laidOut (by kernel_rfl) (of_decide_eq_true (by kernel_rfl)) h0 bel lt0) (trodAll_cons_mk (Below.trod laidOut (by kernel_rfl) (of_decide_eq_true (by kernel_rfl)) h1 bel lt1) trodAll_mk0)), rfl, bel.frame _, fun h => by cases h⟩

theorem cat_holds_c0 : (Rows.fnExactCurveAtRow.wf (OpenSpec.ofChange Rows.fnExactCurveAtSpec)) = true := by kernel_rfl
theorem cat_holds_c1 : (laidOutB Tryz.pinned.checked.prog) = true := by kernel_rfl
theorem cat_holds_c2 : (mapsRowed Tryz.pinned.checked.prog) = true := by kernel_rfl
theorem cat_holds_c3 : (Tryz.f7.params.all (Tryz.pinned.checked.prog.readableRec ·)) = true := by kernel_rfl
theorem cat_holds_c4 : (namedTie Tryz.pinned.checked.prog Rows.fnExactCurveAtRow.named Rows.fnExactCurveAtSpec.vars) = true := by kernel_rfl
theorem cat_holds_c5 : (Rows.fnExactCurveAtRow.stops == []) = true := by kernel_rfl
theorem cat_holds_c6 : (Tryz.pinned.checked.prog.stops == []) = true := by kernel_rfl
theorem cat_holds_c7 : (Rows.fnExactCurveAtRow.knobs == []) = true := by kernel_rfl
theorem cat_holds_c8 : (Tryz.pinned.checked.prog.stopKnobs == []) = true := by kernel_rfl
theorem cat_holds_c9 : (Rows.fnExactCurveAtRow.inPlace == Tryz.pinned.checked.prog.inPlace 7) = true := by kernel_rfl
theorem cat_holds_c10 : (Rows.fnExactCurveAtRow.unfollowed == Tryz.pinned.checked.prog.unfollowed 7) = true := by kernel_rfl
theorem cat_holds_c11 : (Rows.fnExactCurveAtRow.recurses == Tryz.pinned.checked.prog.recurses 7) = true := by kernel_rfl
theorem cat_holds_c12 : (Rows.fnExactCurveAtRow.named == Tryz.pinned.checked.prog.varsNamed 7) = true := by kernel_rfl
theorem cat_holds_c13 : (Rows.fnExactCurveAtRow.maps == (Tryz.f7.params.toList ++ Rows.fnExactCurveAtSpec.plain.varTypes Tryz.pinned.checked.prog).any (Tryz.pinned.checked.prog.mapsRec ·)) = true := by kernel_rfl
theorem cat_holds_c14 : (Rows.fnExactCurveAtRow.ifaces == (Tryz.f7.params.toList ++ Rows.fnExactCurveAtSpec.plain.varTypes Tryz.pinned.checked.prog).any (Tryz.pinned.checked.prog.ifacesRec ·)) = true := by kernel_rfl
theorem cat_holds_c15 : (Rows.fnExactCurveAtRow.mapsOut == Tryz.pinned.checked.prog.mapsAmong Tryz.f7.resultTypes.toList) = true := by kernel_rfl
theorem cat_holds_c16 : (Rows.fnExactCurveAtRow.loops == (Tryz.f7.params.toList ++ Rows.fnExactCurveAtSpec.plain.varTypes Tryz.pinned.checked.prog).any (Tryz.pinned.checked.prog.loopsFrom ·)) = true := by kernel_rfl
theorem cat_holds_c17 : (Rows.fnExactCurveAtRow.wideKeys == (Tryz.f7.params.toList ++ Rows.fnExactCurveAtSpec.plain.varTypes Tryz.pinned.checked.prog ++ Tryz.f7.resultTypes.toList).any (Tryz.pinned.checked.prog.wideKeysFrom ·)) = true := by kernel_rfl
theorem cat_holds_c18 : (Rows.fnExactCurveAtSpec.vars.all (Tryz.pinned.checked.prog.varReadable ·)) = true := by kernel_rfl
theorem cat_holds_c19 : (Tryz.f7.resultTypes.all (fun t => Tryz.pinned.checked.prog.readableRec t && decide (t < Tryz.pinned.checked.prog.types.size))) = true := by kernel_rfl
theorem cat_holds_c20 : (Rows.fnExactCurveAtRow.ifacesOut == Tryz.f7.resultTypes.toList.any (Tryz.pinned.checked.prog.ifacesRec ·)) = true := by kernel_rfl
theorem cat_holds_c21 : (Rows.fnExactCurveAtRow.loopsOut == Tryz.f7.resultTypes.toList.any (Tryz.pinned.checked.prog.loopsFrom ·)) = true := by kernel_rfl
theorem cat_holds_c22 : (Rows.fnExactCurveAtRow.plainKeys == Tryz.pinned.checked.prog.plainKeys) = true := by kernel_rfl
theorem cat_holds_c23 : (Rows.fnExactCurveAtRow.shortTexts.isNone) = true := by kernel_rfl
theorem cat_holds_c24 : (Tryz.pinned.checked.prog.stopsHeard) = true := by kernel_rfl
theorem cat_holds_c25 : (Tryz.pinned.checked.prog.mayEnter) = true := io_enter
theorem cat_holds_c26 : (Rows.fnExactCurveAtRow.lifted == Tryz.pinned.checked.prog.liftsFinal) = true := by rw [io_lifts]; kernel_rfl
theorem cat_holds_c27 : (Tryz.pinned.checked.prog.make == some Rows.fnExactCurveAtRow.make) = true := by rw [io_make]; kernel_rfl
theorem cat_holds_c28 : (Rows.fnExactCurveAtRow.kinds == (if Rows.fnExactCurveAtRow.domain.isEmpty then [] else Tryz.f7.params.toList.map fun t => match Tryz.pinned.checked.prog.underlying t with | some (.int k) => some k | _ => none)) = true := by kernel_rfl
theorem cat_holds_c29 : (Rows.fnExactCurveAtRow.pinned == Rows.fnExactCurveAtRow.pinnedBy) = true := by kernel_rfl
theorem cat_holds_c30 : (Rows.fnExactCurveAtRow.veiled == (Tryz.f7.params.toList ++ Rows.fnExactCurveAtSpec.plain.varTypes Tryz.pinned.checked.prog ++ Tryz.f7.resultTypes.toList).any (Tryz.pinned.checked.prog.veiledRec ·)) = true := by kernel_rfl
theorem cat_holds_c31 : (Rows.fnExactCurveAtRow.veiledFits Tryz.pinned.checked.prog Tryz.f7.params.toList (Tryz.f7.params.toList ++ Rows.fnExactCurveAtSpec.plain.varTypes Tryz.pinned.checked.prog ++ Tryz.f7.resultTypes.toList)) = true := by kernel_rfl
theorem cat_holds_and {a b : Bool} (h : a = true) (k : b = true) : (a && b) = true := by rw [h, k]; rfl
theorem cat_holds_closed : joinedFacts Tryz.pinned.checked.prog 7 Tryz.f7 Rows.fnExactCurveAtSpec Rows.fnExactCurveAtRow = true := (cat_holds_and (cat_holds_and (cat_holds_and (cat_holds_and (cat_holds_and (cat_holds_and (cat_holds_and (cat_holds_and (cat_holds_and (cat_holds_and (cat_holds_and (cat_holds_and (cat_holds_and (cat_holds_and (cat_holds_and (cat_holds_and (cat_holds_and (cat_holds_and (cat_holds_and (cat_holds_and (cat_holds_and (cat_holds_and (cat_holds_and (cat_holds_and (cat_holds_and (cat_holds_and (cat_holds_and (cat_holds_and (cat_holds_and (cat_holds_and (cat_holds_and cat_holds_c0 cat_holds_c1) cat_holds_c2) cat_holds_c3) cat_holds_c4) cat_holds_c5) cat_holds_c6) cat_holds_c7) cat_holds_c8) cat_holds_c9) cat_holds_c10) cat_holds_c11) cat_holds_c12) cat_holds_c13) cat_holds_c14) cat_holds_c15) cat_holds_c16) cat_holds_c17) cat_holds_c18) cat_holds_c19) cat_holds_c20) cat_holds_c21) cat_holds_c22) cat_holds_c23) cat_holds_c24) cat_holds_c25) cat_holds_c26) cat_holds_c27) cat_holds_c28) cat_holds_c29) cat_holds_c30) cat_holds_c31)
theorem cat_holds_named : Tryz.pinned.checked.prog.funcNamed Rows.fnExactCurveAtRow.func = some 7 := by kernel_rfl
theorem cat_holds_inst : Tryz.f7.isInstance Tryz.pinned.checked.prog Rows.fnExactCurveAtRow.origin Rows.fnExactCurveAtRow.targs := of_decide_eq_true (by kernel_rfl)
theorem cat_holds_wrap : Tryz.f7.isWrapper Tryz.pinned.checked.prog Rows.fnExactCurveAtRow.wrapper Rows.fnExactCurveAtRow.mainSum := by unfold Func.isWrapper; first | (rw [if_pos (by decide +kernel)]; kernel_rfl) | (rw [if_neg (by decide +kernel)]; exact ⟨rfl, rfl⟩)
theorem cat_holds : Rows.FnExactCurveAtSaid :=
  OpenClaim.holds_of_wide 7 Tryz.f7 rfl rfl rfl rfl rfl rfl rfl ⟨rfl, rfl, rfl, rfl, rfl⟩ rfl rfl rfl rfl rfl cat_holds_named Tryz.func7 cat_holds_closed cat_holds_inst cat_holds_wrap
    (fun os started H enc _ => cat_holds_lifted os started H enc)
#print axioms cat_holds
end Go.Proofs.YtikllcoekcglcaaGreat
