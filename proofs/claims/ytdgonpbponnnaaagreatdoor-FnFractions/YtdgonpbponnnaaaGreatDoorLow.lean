/- Fractions in lowest terms: the program's lowest and the specification's l2Make answer the same numbers. No condition beyond those typed. Written by mklow.py. -/
import Derived.Test.YtdgonpbponnnaaaGreatDoorSignV
import Derived.Test.YtdgonpbponnnaaaGreatDoorVarB
import Derived.Test.YtdgonpbponnnaaaGreatDoorDivJ
import Derived.Test.YtdgonpbponnnaaaGreatDoorDivI
namespace Go.Proofs.YtdgonpbponnnaaaGreatDoor
open Go.RowKit
set_option linter.unusedVariables false
set_option maxRecDepth 100000
set_option linter.unusedSimpArgs false

theorem cd_other {w : World} {b o : Nat} {x : Value} (h : w.cell? ⟨b, o, none⟩ = some x) : w.drew.cell? ⟨b, o, none⟩ = some x := cell_later (Below.refl _ _).drew h
theorem gcd_len {gs : List Int} {N D : Int} {n : Nat} (h : Nm gs ((Nat.gcd N.natAbs D.natAbs : Nat) : Int)) (hl : gs.length = n) (hD : D ≠ 0) (k : Bd D 400000) : 1 ≤ n ∧ n ≤ 400000 := by
  have hg := gcd_pos_right (N := N) hD
  have hd : Nat.gcd N.natAbs D.natAbs ≤ D.natAbs := Nat.le_of_dvd (by omega) (Nat.gcd_dvd_right _ _)
  subst hl
  constructor
  · have := h.nil_iff
    by_cases e : gs = []
    · have := this.1 e; omega
    · have : gs.length ≠ 0 := fun e0 => e (List.length_eq_zero_iff.1 e0)
      omega
  · exact Nm.len_le (V := ((Nat.gcd N.natAbs D.natAbs : Nat) : Int)) (by simpa using h) (k.le (by simp; omega))

set_option maxHeartbeats 4000000 in
theorem lowI (b b' : BV) (N D : Int) (w : World) (h : IsB w b N) (h' : IsB w b' D) (hD : D ≠ 0) (k : Bd N 400000) (k' : Bd D 400000) :
    Calls Tryz.prog 51 #[.agg #[.bool b.g, .slice b.a b.n b.c], .agg #[.bool b'.g, .slice b'.a b'.n b'.c]] w (OutQ w (lowN N D) (lowD N D)) := by
  obtain ⟨xs, hx, _, hl, nx, sx⟩ := h.num k (by omega)
  obtain ⟨ys, hy, _, hl', ny, sy⟩ := h'.num k' (by omega)
  have hm : 1 ≤ b'.n := by have := h'.zero_iff; omega
  have HX := hide hx.arg
  have HY := hide hy.arg
  have SX := hide (And.intro sx sy)
  have EN : Hid ((val xs).toNat = N.natAbs ∧ (val ys).toNat = D.natAbs) := hide ⟨by rw [nx.v]; simp, by rw [ny.v]; simp⟩
  have KD := hide k'
  have NX := hide nx
  have NY := hide ny
  have HD := hide hD
  clear h h' hx hy nx ny sx sy k k' hD
  have B0 := hide (show Below w.heap.size w (((w.alloc (.cells #[.bool b.g, .slice b.a b.n b.c] 25)).alloc (.cells #[.bool b'.g, .slice b'.a b'.n b'.c] 25)).alloc (.cells #[.bool false, .slice none 0 0, .bool false, .slice none 0 0] 27)) from ((((Below.refl _ _).alloc (by simp) _).alloc (by simp) _).alloc (by simp <;> omega) _))
  go_enter Tryz.func51, Tryz.ntmps51
  go_wp2_with fail
  refine (gcdI_any b.a b'.a b.n b'.n b.c b'.c xs ys _ ((unhide HX).later (unhide B0)) ((unhide HY).later (unhide B0)) (unhide NX).ok (unhide NX).tr (unhide NY).ok (unhide NY).tr (by omega) (by omega)).mono ?_
  rintro e w1 ⟨a1, n1, c1, gs, rfl, hb, ho1, ha1, hn1⟩
  rw [(unhide EN).1, (unhide EN).2] at hn1
  obtain ⟨g1, g2⟩ := gcd_len hn1 ha1.len (unhide HD) (unhide KD)
  have N1 := hide hn1
  have s1 : w.heap.size + 3 ≤ w1.heap.size := by have := hb.size; simp at this; omega
  have k0_0 : w1.cell? ⟨w.heap.size, 0, none⟩ = some (.bool b.g) := cell_later hb (by simp [go_sem])
  have k1_0 : w1.cell? ⟨w.heap.size + 1, 0, none⟩ = some (.bool b'.g) := cell_later hb (by simp [go_sem])
  have k0_1 : w1.cell? ⟨w.heap.size, 1, none⟩ = some (.slice b.a b.n b.c) := cell_later hb (by simp [go_sem])
  have k1_1 : w1.cell? ⟨w.heap.size + 1, 1, none⟩ = some (.slice b'.a b'.n b'.c) := cell_later hb (by simp [go_sem])
  have k2_0 : w1.cell? ⟨w.heap.size + 1 + 1, 0, none⟩ = some (.bool false) := cell_later hb (by simp [go_sem])
  have k2_1 : w1.cell? ⟨w.heap.size + 1 + 1, 1, none⟩ = some (.slice none 0 0) := cell_later hb (by simp [go_sem])
  have k2_2 : w1.cell? ⟨w.heap.size + 1 + 1, 2, none⟩ = some (.bool false) := cell_later hb (by simp [go_sem])
  have k2_3 : w1.cell? ⟨w.heap.size + 1 + 1, 3, none⟩ = some (.slice none 0 0) := cell_later hb (by simp [go_sem])
  have z2 : ∀ o, w1.frozen? ⟨w.heap.size + 1 + 1, o, none⟩ = false := fun o => frozen_later hb (by simp) (by simp [go_sem])
  have A1 := hide (ha1)
  have HB := hide (below_on (unhide B0) hb)
  clear hb
  clear ho1 ha1 hn1
  go_wp2_with fail
  refine (divI_any b.a a1 b.n n1 b.c c1 xs gs _ ((unhide HX).later (unhide HB)) (unhide A1) (unhide NX).ok (unhide NX).tr (unhide N1).ok (unhide N1).tr (by omega) (by omega) (by omega)).mono ?_
  rintro e w2 ⟨a2, n2, c2, zs, a2', n2', c2', rs, rfl, hb, ho2, ha2, hn2, _, _, _, _⟩
  have s2 := hb.size
  rw [(unhide NX).v, (unhide N1).v] at hn2
  have N2 : Hid (Nm zs (lowU N D)) := hide hn2
  replace z2 := fun o => frozen_later hb (World.block_lt_of_cell? _ _ k2_0) (z2 o)
  replace k0_0 := cell_later hb k0_0
  replace k1_0 := cell_later hb k1_0
  replace k1_1 := cell_later hb k1_1
  replace k2_0 := cell_later hb k2_0
  replace k2_1 := cell_later hb k2_1
  replace k2_2 := cell_later hb k2_2
  replace k2_3 := cell_later hb k2_3
  clear k0_1
  replace A1 := hide ((unhide A1).later hb)
  have A2 := hide (ha2)
  have O2 := hide (ho2.two)
  replace HB := hide (below_on (unhide HB) hb)
  clear hb
  clear ho2 ha2 hn2
  go_wp2_with fail
  refine (divI_any b'.a a1 b'.n n1 b'.c c1 ys gs _ ((unhide HY).later (unhide HB)) (unhide A1) (unhide NY).ok (unhide NY).tr (unhide N1).ok (unhide N1).tr (by omega) (by omega) (by omega)).mono ?_
  rintro e w3 ⟨a3, n3, c3, zs3, a3', n3', c3', rs3, rfl, hb, ho3, ha3, hn3, _, _, _, _⟩
  have s3 := hb.size
  rw [(unhide NY).v, (unhide N1).v] at hn3
  have N3 : Hid (Nm zs3 (lowD N D)) := hide hn3
  replace z2 := fun o => frozen_later hb (World.block_lt_of_cell? _ _ k2_0) (z2 o)
  replace k0_0 := cell_later hb k0_0
  replace k1_0 := cell_later hb k1_0
  replace k2_0 := cell_later hb k2_0
  replace k2_1 := cell_later hb k2_1
  replace k2_2 := cell_later hb k2_2
  replace k2_3 := cell_later hb k2_3
  clear k1_1
  replace A1 := hide ((unhide A1).later hb)
  replace A2 := hide ((unhide A2).later hb)
  replace O2 := hide ((unhide O2).later hb)
  have A3 := hide (ha3)
  have O3 := hide (ho3.two)
  replace HB := hide (below_on (unhide HB) hb)
  clear hb
  clear ho3 ha3 hn3
  clear A1
  go_wp2_with fail
  refine (signI_v _ a2 n2 c2 zs _ w1.heap.size w2.heap.size (lowU N D) (unhide A2) (unhide O2) (unhide N2)).mono ?_
  rintro e w4 ⟨x1, rfl, hb, ow1, ar1⟩
  have s4 := hb.size
  rw [(unhide SX).1, (unhide SX).2] at ow1 ar1
  replace ow1 : AllOwn w1.heap.size w2.heap.size w4 [(x1, ⟨decide (lowN N D < 0), zs⟩)] := ow1
  replace ar1 : AllAr w4 [(x1, ⟨decide (lowN N D < 0), zs⟩)] := ar1
  replace z2 := fun o => frozen_later hb (World.block_lt_of_cell? _ _ k2_0) (z2 o)
  replace k2_0 := cell_later hb k2_0
  replace k2_1 := cell_later hb k2_1
  replace k2_2 := cell_later hb k2_2
  replace k2_3 := cell_later hb k2_3
  clear k0_0 k1_0
  replace A2 := hide ((unhide A2).later hb)
  replace O2 := hide ((unhide O2).later hb)
  replace A3 := hide ((unhide A3).later hb)
  replace O3 := hide ((unhide O3).later hb)
  have OW1 := hide (ow1)
  have AR1 := hide (ar1)
  replace HB := hide (below_on (unhide HB) hb)
  clear hb
  clear ow1 ar1
  clear A2 O2
  go_wp2_with fail
  refine (signI_v false a3 n3 c3 zs3 _ w2.heap.size w3.heap.size (lowD N D) (unhide A3) (unhide O3) (unhide N3)).mono ?_
  rintro e w5 ⟨x2, rfl, hb, ow2, ar2⟩
  have s5 := hb.size
  replace ow2 : AllOwn w2.heap.size w3.heap.size w5 [(x2, ⟨decide (lowD N D < 0), zs3⟩)] := ow2
  replace ar2 : AllAr w5 [(x2, ⟨decide (lowD N D < 0), zs3⟩)] := ar2
  replace z2 := fun o => frozen_later hb (World.block_lt_of_cell? _ _ k2_0) (z2 o)
  replace k2_0 := cell_later hb k2_0
  replace k2_1 := cell_later hb k2_1
  replace k2_2 := cell_later hb k2_2
  replace k2_3 := cell_later hb k2_3
  replace A3 := hide ((unhide A3).later hb)
  replace O3 := hide ((unhide O3).later hb)
  replace OW1 := hide ((unhide OW1).later hb)
  replace AR1 := hide ((unhide AR1).later hb)
  have OW2 := hide (ow2)
  have AR2 := hide (ar2)
  replace HB := hide (below_on (unhide HB) hb)
  clear hb
  clear ow2 ar2
  clear A3 O3
  have OO := hide (((unhide OW1).join (unhide OW2) s2 s3).wide (lo' := w.heap.size + 1 + 1 + 1) (hi' := w5.heap.size) (by omega) (by omega))
  have AA := hide ((unhide AR1).append (unhide AR2))
  have NN : Hid (Nm zs (lowN N D).natAbs ∧ Nm zs3 (lowD N D).natAbs) := hide ⟨by rw [lowN_abs]; exact unhide N2, by rw [lowD_abs]; exact unhide N3⟩
  clear OW1 OW2 AR1 AR2 N2 N3 N1 NX NY EN KD
  go_wp2
  refine bodyPost_ret (v := .agg #[.bool x1.g, .slice x1.a x1.n x1.c, .bool x2.g, .slice x2.a x2.n x2.c]) (by simp [results, Tryz.results51, go_sem, k2_0, k2_1, k2_2, k2_3]) rfl ?_
  exact outQ_fin (q := ⟨x1, x2⟩) (R := w.heap.size + 1 + 1) (by omega) (unhide HB) (metQ_but (w5 := w5) (v := ⟨x1, x2⟩) (G := w.heap.size + 1 + 1)) (unhide OO) (unhide AA) (unhide NN).1 (unhide NN).2

theorem outN_fin {w wN W : World} {R : Nat} {b : BV} {xs : List Int} {V : Int} (hR : w.heap.size ≤ R) (hb : Below w.heap.size w wN) (bt : But R (R + 1) wN W)
    (ho : AllOwn (R + 1) wN.heap.size wN [(b, ⟨decide (V < 0), xs⟩)]) (ha : AllAr wN [(b, ⟨decide (V < 0), xs⟩)]) (h1 : Nm xs V.natAbs) : OutN w V (.returned (.agg #[.bool b.g, .slice b.a b.n b.c])) W :=
  ⟨b, xs, rfl, bt.below hb hR hb.size, (own_fin bt ho (Nat.le_refl _)).wide (by omega) bt.size, ar_fin bt ho ha (Nat.le_refl _), h1⟩
set_option maxHeartbeats 1000000 in
theorem negS_v (b : BV) (V : Int) (w : World) (h : IsB w b V) (k : Bd V 400000) :
    Calls Tryz.prog 85 #[.agg #[.bool b.g, .slice b.a b.n b.c]] w (OutN w (-V)) := by
  obtain ⟨xs, hx, _, hl, nx, sx⟩ := h.num k (by omega)
  have HX := hide hx.arg
  have NX := hide nx
  have SX := hide sx
  clear h hx nx sx
  have B0 := hide (show Below w.heap.size w ((w.alloc (.cells #[.bool b.g, .slice b.a b.n b.c] 25)).alloc (.cells #[.bool false, .slice none 0 0] 25)) from (((Below.refl _ _).alloc (by simp) _).alloc (by simp) _))
  go_enter Tryz.func85, Tryz.ntmps85
  go_wp2_with fail
  refine (makeS_v _ b.a b.n b.c xs _ (V.natAbs : Int) ((unhide HX).later (unhide B0)) (unhide NX) (by omega)).mono ?_
  rintro e w1 ⟨x1, rfl, hb, ow1, ar1⟩
  have s1 : w.heap.size + 1 + 1 ≤ w1.heap.size := by have := hb.size; simp at this; omega
  have e0 : sU (!b.g) (V.natAbs : Int) = -V := by
    rw [unhide SX]; unfold sU
    by_cases h0 : V < 0
    · rw [decide_eq_true h0, if_neg (by simp)]; omega
    · rw [decide_eq_false h0, if_pos (by simp)]; omega
  rw [e0] at ow1 ar1
  have OW := hide (ow1.wide (lo' := w.heap.size + 1 + 1) (by simp) (Nat.le_refl _))
  have AR := hide ar1
  have k1_0 : w1.cell? ⟨w.heap.size + 1, 0, none⟩ = some (.bool false) := cell_later hb (by simp [go_sem])
  have k1_1 : w1.cell? ⟨w.heap.size + 1, 1, none⟩ = some (.slice none 0 0) := cell_later hb (by simp [go_sem])
  have z1 : ∀ o, w1.frozen? ⟨w.heap.size + 1, o, none⟩ = false := fun o => frozen_later hb (by simp) (by simp [go_sem])
  have HB := hide (below_on (unhide B0) hb)
  clear hb
  clear ow1 ar1 e0
  have NN : Hid (Nm xs (-V).natAbs) := hide (by rw [Int.natAbs_neg]; exact unhide NX)
  go_wp2
  refine bodyPost_ret (v := .agg #[.bool x1.g, .slice x1.a x1.n x1.c]) (by simp [results, Tryz.results85, go_sem, k1_0, k1_1]) rfl ?_
  exact outN_fin (b := x1) (R := w.heap.size + 1) (by omega) (unhide HB) (metB_but (w5 := w1) (v := x1) (G := w.heap.size + 1)) (unhide OW) (unhide AR) (unhide NN)

theorem quot_len {zs rs : List Int} {X Y : Int} {N : Int} {n m : Nat} (h : Nm zs (X / Y)) (h' : Nm rs (X % Y)) (k : X = N.natAbs) (hn : zs.length = n) (hm : rs.length = m) (hY : 0 < Y) (kb : Bd N 400000) : n ≤ 400000 ∧ m ≤ 400000 := by
  subst k
  have h1 : (N.natAbs : Int) / Y ≤ N.natAbs := Int.ediv_le_self _ (by omega)
  have h2 : 0 ≤ (N.natAbs : Int) / Y := Int.ediv_nonneg (by omega) (by omega)
  have h3 : (N.natAbs : Int) % Y ≤ N.natAbs := by have e1 := Int.emod_add_mul_ediv (N.natAbs : Int) Y; have e2 := Int.mul_nonneg (show 0 ≤ Y by omega) h2; omega
  have h4 : 0 ≤ (N.natAbs : Int) % Y := Int.emod_nonneg _ (by omega)
  subst hn hm
  exact ⟨Nm.len_le (V := (N.natAbs : Int) / Y) (by rw [Int.natAbs_of_nonneg h2]; exact h) (kb.le (by omega)), Nm.len_le (V := (N.natAbs : Int) % Y) (by rw [Int.natAbs_of_nonneg h4]; exact h') (kb.le (by omega))⟩
/-- The quotient and the rest, with signs. -/
def OutDv (w : World) (N D : Int) (e : Ending) (w' : World) : Prop :=
  ∃ x y : BV, e = .returned (.tuple #[.agg #[.bool x.g, .slice x.a x.n x.c], .agg #[.bool y.g, .slice y.a y.n y.c]]) ∧ Below w.heap.size w w' ∧ Ow w.heap.size w'.heap.size w' x (sU (!(decide (N < 0) == decide (D < 0))) ((N.natAbs : Int) / (D.natAbs : Int))) ∧ Ow w.heap.size w'.heap.size w' y (sU (decide (N < 0)) ((N.natAbs : Int) % (D.natAbs : Int)))
set_option maxHeartbeats 4000000 in
theorem divS_v (b b' : BV) (N D : Int) (w : World) (h : IsB w b N) (h' : IsB w b' D) (hD : D ≠ 0) (k : Bd N 400000) (k' : Bd D 400000) :
    Calls Tryz.prog 84 #[.agg #[.bool b.g, .slice b.a b.n b.c], .agg #[.bool b'.g, .slice b'.a b'.n b'.c]] w (OutDv w N D) := by
  obtain ⟨xs, hx, _, hl, nx, sx⟩ := h.num k (by omega)
  obtain ⟨ys, hy, _, hl', ny, sy⟩ := h'.num k' (by omega)
  have hm : 1 ≤ b'.n := by have := h'.zero_iff; omega
  have HX := hide hx.arg
  have HY := hide hy.arg
  have SX := hide (And.intro sx sy)
  have EN : Hid ((val xs).toNat = N.natAbs ∧ (val ys).toNat = D.natAbs) := hide ⟨by rw [nx.v]; simp, by rw [ny.v]; simp⟩
  have KD := hide k'
  have KN := hide k
  have NX := hide nx
  have NY := hide ny
  have HD := hide hD
  clear h h' hx hy nx ny sx sy k k' hD
  have B0 := hide (show Below w.heap.size w ((((w.alloc (.cells #[.bool b.g, .slice b.a b.n b.c] 25)).alloc (.cells #[.bool b'.g, .slice b'.a b'.n b'.c] 25)).alloc (.cells #[.bool false, .slice none 0 0] 25)).alloc (.cells #[.bool false, .slice none 0 0] 25)) from (((((Below.refl _ _).alloc (by simp) _).alloc (by simp) _).alloc (by simp <;> omega) _).alloc (by simp <;> omega) _))
  go_enter Tryz.func84, Tryz.ntmps84
  go_wp2_with fail
  refine (divS_any b.a b'.a b.n b'.n b.c b'.c xs ys _ ((unhide HX).later (unhide B0)) ((unhide HY).later (unhide B0)) (unhide NX).ok (unhide NX).tr (unhide NY).ok (unhide NY).tr (by omega) (by omega) (by omega)).mono ?_
  rintro e w2 ⟨a2, n2, c2, zs, a3, n3, c3, rs, rfl, hb, ho2, ha2, hn2, ho3, ha3, hn3, _⟩
  have s2 : w.heap.size + 1 + 1 + 1 + 1 ≤ w2.heap.size := by have := hb.size; simp at this; omega
  have hq : n2 ≤ 400000 ∧ n3 ≤ 400000 := quot_len hn2 hn3 (unhide NX).v ha2.len ha3.len (by rw [(unhide NY).v]; have := unhide HD; omega) (unhide KN)
  obtain ⟨q2, q3⟩ := hq
  rw [(unhide NX).v, (unhide NY).v] at hn2 hn3
  have N2 : Hid (Nm zs ((N.natAbs : Int) / (D.natAbs : Int))) := hide hn2
  have N3 : Hid (Nm rs ((N.natAbs : Int) % (D.natAbs : Int))) := hide hn3
  have k0_0 : w2.cell? ⟨w.heap.size, 0, none⟩ = some (.bool b.g) := cell_later hb (by simp [go_sem])
  have k1_0 : w2.cell? ⟨w.heap.size + 1, 0, none⟩ = some (.bool b'.g) := cell_later hb (by simp [go_sem])
  have k2_0 : w2.cell? ⟨w.heap.size + 1 + 1, 0, none⟩ = some (.bool false) := cell_later hb (by simp [go_sem])
  have k2_1 : w2.cell? ⟨w.heap.size + 1 + 1, 1, none⟩ = some (.slice none 0 0) := cell_later hb (by simp [go_sem])
  have k3_0 : w2.cell? ⟨w.heap.size + 1 + 1 + 1, 0, none⟩ = some (.bool false) := cell_later hb (by simp [go_sem])
  have k3_1 : w2.cell? ⟨w.heap.size + 1 + 1 + 1, 1, none⟩ = some (.slice none 0 0) := cell_later hb (by simp [go_sem])
  have z2 : ∀ o, w2.frozen? ⟨w.heap.size + 1 + 1, o, none⟩ = false := fun o => frozen_later hb (by simp) (by simp [go_sem])
  have z3 : ∀ o, w2.frozen? ⟨w.heap.size + 1 + 1 + 1, o, none⟩ = false := fun o => frozen_later hb (by simp) (by simp [go_sem])
  have A2 := hide (ha2)
  have A3 := hide (ha3)
  have HB := hide (below_on (unhide B0) hb)
  clear hb
  clear ho2 ha2 hn2 ho3 ha3 hn3
  have ne : (w.heap.size ≠ w.heap.size + 1 + 1) ∧ (w.heap.size + 1 ≠ w.heap.size + 1 + 1) ∧ (w.heap.size ≠ w.heap.size + 1 + 1 + 1) ∧ (w.heap.size + 1 ≠ w.heap.size + 1 + 1 + 1) := by omega
  go_upto_region 2 with fail
  go_region_held3 (fun w' => w'.cell? ⟨w.heap.size, 0, none⟩ = some (.bool b.g) ∧ w'.cell? ⟨w.heap.size + 1, 0, none⟩ = some (.bool b'.g)) (with_reducible (first | exact ⟨k0_0, k1_0⟩ | exact ⟨cd_other k0_0, cd_other k1_0⟩ | exact ⟨j0, j1⟩ | exact ⟨i0, i1⟩ | exact ⟨cs_other (cs_other i0 ne.1) ne.1, cs_other (cs_other i1 ne.2.1) ne.2.1⟩ | exact ⟨cs_other (cs_other (cs_other (cs_other i0 ne.1) ne.1) ne.2.2.1) ne.2.2.1, cs_other (cs_other (cs_other (cs_other i1 ne.2.1) ne.2.1) ne.2.2.2) ne.2.2.2⟩ | fail))
    (first
    | (go_at_call_of 67 (Value.bool (!(b.g == b'.g))); refine (makeS_v _ a2 n2 c2 zs _ ((N.natAbs : Int) / (D.natAbs : Int)) (?_) (unhide N2) (?_)).mono ?_; exact (unhide A2).drew; omega; rintro e w3 ⟨x1, rfl, hb', ow1, ar1⟩; have hb := below_of_drew hb'; have s3 := hb.size; have OW1 := hide (show AllOwn w2.heap.size w3.heap.size w3 _ from ow1); have AR1 := hide ar1; have A3b := hide ((unhide A3).later hb); have B3 := hide hb; have j0 := cell_later hb k0_0; have j1 := cell_later hb k1_0; have j2 := cell_later hb k2_0; have j3 := cell_later hb k2_1; have j4 := cell_later hb k3_0; have j5 := cell_later hb k3_1; have y2 := fun o => frozen_later hb (World.block_lt_of_cell? _ _ k2_0) (z2 o); have y3 := fun o => frozen_later hb (World.block_lt_of_cell? _ _ k3_0) (z3 o); clear ow1 ar1 hb hb')
    | (go_at_call_of 67 (Value.bool b.g); refine (makeS_v _ a3 n3 c3 rs _ ((N.natAbs : Int) % (D.natAbs : Int)) (?_) (unhide N3) (?_)).mono ?_; exact unhide A3b; omega; rintro e w4 ⟨x2, rfl, hb, ow2, ar2⟩; have s4 := hb.size; have OW2 := hide ow2; have AR2 := hide ar2; have OW1b := hide ((unhide OW1).later hb); have AR1b := hide ((unhide AR1).later hb); have B4 := hide hb; have i0 := cell_later hb j0; have i1 := cell_later hb j1; have i2 := cell_later hb j2; have i3 := cell_later hb j3; have i4 := cell_later hb j4; have i5 := cell_later hb j5; have u2 := fun o => frozen_later hb (World.block_lt_of_cell? _ _ j2) (y2 o); have u3 := fun o => frozen_later hb (World.block_lt_of_cell? _ _ j4) (y3 o); clear ow2 ar2 hb))
  all_goals
    have HB2 := hide (below_on (below_on (unhide HB) (unhide B3)) (unhide B4))
    go_wp2
    refine bodyPost_ret (v := .tuple #[.agg #[.bool x1.g, .slice x1.a x1.n x1.c], .agg #[.bool x2.g, .slice x2.a x2.n x2.c]]) (by simp [results, Tryz.results84, go_sem, i2, i3, i4, i5]) rfl ?_
    have bt1 := metB_but (w5 := w4) (v := x1) (G := w.heap.size + 1 + 1)
    have bt2 := metB_but (w5 := (w4.setCell ⟨w.heap.size + 1 + 1, 0, none⟩ (.bool x1.g)).setCell ⟨w.heap.size + 1 + 1, 1, none⟩ (.slice x1.a x1.n x1.c)) (v := x2) (G := w.heap.size + 1 + 1 + 1)
    refine ⟨x1, x2, rfl, bt2.below (bt1.below (unhide HB2) (by omega) (unhide HB2).size) (by omega) (by have := bt1.size; have := (unhide HB2).size; omega), ?_, ?_⟩
    · have a0 := unhide OW1b
      have a1 := unhide AR1b
      rw [(unhide SX).1, (unhide SX).2] at a0 a1
      exact ((outN_ow (V := sU (!(decide (N < 0) == decide (D < 0))) ((N.natAbs : Int) / (D.natAbs : Int))) a0 a1 (by rw [sU_abs (Int.ediv_nonneg (by omega) (by omega))]; exact unhide N2)).but bt1 (.inr (by omega))).but bt2 (.inr (by omega)) |>.wide (by omega) (by have := bt1.size; have := bt2.size; omega)
    · have a0 := unhide OW2
      have a1 := unhide AR2
      rw [(unhide SX).1] at a0 a1
      exact ((outN_ow (V := sU (decide (N < 0)) ((N.natAbs : Int) % (D.natAbs : Int))) a0 a1 (by rw [sU_abs (Int.emod_nonneg _ (by have := unhide HD; omega))]; exact unhide N3)).but bt1 (.inr (by omega))).but bt2 (.inr (by omega)) |>.wide (by omega) (by have := bt1.size; have := bt2.size; omega)
end Go.Proofs.YtdgonpbponnnaaaGreatDoor
