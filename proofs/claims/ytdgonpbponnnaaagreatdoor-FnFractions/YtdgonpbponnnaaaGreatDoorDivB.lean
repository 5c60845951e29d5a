/- DivBig: the program's and the specification's, at every two numbers: the quotient towards nought and the rest. No condition beyond those typed. Written by mkdivb.py. -/
import Derived.Test.YtdgonpbponnnaaaGreatDoorFloorQ
import Derived.Test.YtdgonpbponnnaaaGreatDoorVarQ
import Derived.Test.YtdgonpbponnnaaaGreatDoorDivJ
namespace Go.Proofs.YtdgonpbponnnaaaGreatDoor
open Go.RowKit
set_option linter.unusedVariables false
set_option maxRecDepth 100000
set_option linter.unusedSimpArgs false

/-- Two numbers and a bool are answered, in memory of the call's own, apart. -/
def RetD (w : World) (U : QD → Bool → Prop) (e : Ending) (w' : World) : Prop := ∃ (v : QV) (d : QD) (ok : Bool), e = .returned (.tuple #[.agg #[.bool v.num.g, .slice v.num.a v.num.n v.num.c], .agg #[.bool v.den.g, .slice v.den.a v.den.n v.den.c], .bool ok]) ∧ Below w.heap.size w w' ∧ AllOwn w.heap.size w'.heap.size w' [(v.num, d.num), (v.den, d.den)] ∧ U d ok
theorem RetD.drew {w W : World} {U : QD → Bool → Prop} {e : Ending} (h : RetD w U e W) : RetD w U e W.drew := by
  obtain ⟨v, d, ok, rfl, hb, ho, hu⟩ := h
  exact ⟨v, d, ok, rfl, hb.drew, ho.later (Below.refl _ _).drew, hu⟩
def AnsD (P : Bool) (A B : Int) (d : QD) (ok : Bool) : Prop := AnsB P A d.num ok ∧ AnsB P B d.den ok
theorem AnsD.same {P : Bool} {A B : Int} {d d' : QD} {ok ok' : Bool} (h : AnsD P A B d ok) (k : AnsD P A B d' ok') : d = d' ∧ ok = ok' := by
  obtain ⟨e1, e2⟩ := h.1.same k.1
  obtain ⟨e3, _⟩ := h.2.same k.2
  obtain ⟨d1, d2⟩ := d
  obtain ⟨d3, d4⟩ := d'
  simp only at e1 e3
  exact ⟨by rw [e1, e3], e2⟩
theorem AnsD.lens {P : Bool} {A B : Int} {d : QD} {ok : Bool} (h : AnsD P A B d ok) : d.num.xs.length ≤ 40 ∧ d.den.xs.length ≤ 40 := ⟨h.1.lens, h.2.lens⟩
/-- The quotient and the rest of two numbers as they are read. -/
def qD (d d' : BD) : Int := sU (!(d.g == d'.g)) (val d.xs / val d'.xs)
def rD (d d' : BD) : Int := sU d.g (val d.xs % val d'.xs)
def pD (d d' : BD) : Bool := (goodB d.g d.xs && goodB d'.g d'.xs) && decide (d'.xs.length ≠ 0)
theorem dOwn_zero (lo hi : Nat) (w : World) : AllOwn lo hi w [((⟨⟨false, none, 0, 0⟩, ⟨false, none, 0, 0⟩⟩ : QV).num, (⟨⟨false, []⟩, ⟨false, []⟩⟩ : QD).num), ((⟨⟨false, none, 0, 0⟩, ⟨false, none, 0, 0⟩⟩ : QV).den, (⟨⟨false, []⟩, ⟨false, []⟩⟩ : QD).den)] := zeroQ lo hi w
theorem AnsD.no {A B : Int} : AnsD false A B ⟨⟨false, []⟩, ⟨false, []⟩⟩ false := ⟨.inr ⟨rfl, rfl, rfl⟩, .inr ⟨rfl, rfl, rfl⟩⟩
theorem retD_fin {w wN : World} {R : Nat} {v : QV} {d : QD} {ok : Bool} {U : QD → Bool → Prop} (hR : w.heap.size ≤ R) (hb : Below w.heap.size w wN) (ho : AllOwn (R + 1 + 1) wN.heap.size wN [(v.num, d.num), (v.den, d.den)]) (hu : U d ok) :
    RetD w U (.returned (.tuple #[.agg #[.bool v.num.g, .slice v.num.a v.num.n v.num.c], .agg #[.bool v.den.g, .slice v.den.a v.den.n v.den.c], .bool ok])) ((((wN.setCell ⟨R, 0, none⟩ (.bool v.num.g)).setCell ⟨R, 1, none⟩ (.slice v.num.a v.num.n v.num.c)).setCell ⟨R + 1, 0, none⟩ (.bool v.den.g)).setCell ⟨R + 1, 1, none⟩ (.slice v.den.a v.den.n v.den.c)) := by
  have bt1 := metB_but (w5 := wN) (v := v.num) (G := R)
  have bt2 := metB_but (w5 := (wN.setCell ⟨R, 0, none⟩ (.bool v.num.g)).setCell ⟨R, 1, none⟩ (.slice v.num.a v.num.n v.num.c)) (v := v.den) (G := R + 1)
  have h1 := bt1.below hb hR hb.size
  exact ⟨v, d, ok, rfl, bt2.below h1 (by omega) h1.size, ((ho.but bt1 (.inr (by omega))).but bt2 (.inr (by omega))).wide (by omega) (Nat.le_trans bt1.size bt2.size), hu⟩
/-- What a quotient and a rest lie in can be cut in two. -/
theorem mid_of {lo : Nat} {w : World} {a a' : Option Addr} {zs rs : List Int} (h : Own lo w a zs) (h' : Own lo w a' rs) (k : Apart a zs a' rs) (hl : lo ≤ w.heap.size) : ∃ mid, lo ≤ mid ∧ mid ≤ w.heap.size ∧ Own2 lo mid w a zs ∧ Own2 mid w.heap.size w a' rs := by
  rcases k with k | k | ⟨b, o, b', o', ea, ea', hlt⟩
  · exact ⟨lo, Nat.le_refl _, hl, .inl k, h'.two⟩
  · exact ⟨w.heap.size, hl, Nat.le_refl _, h.two, .inl k⟩
  · rcases h.two with e | ⟨c, cur, e, h1, h2, hg, hc⟩
    · exact ⟨lo, Nat.le_refl _, hl, .inl e, h'.two⟩
    · rcases h'.two with e' | ⟨c', cur', e', h1', h2', hg', hc'⟩
      · exact ⟨w.heap.size, hl, Nat.le_refl _, h.two, .inl e'⟩
      · have f1 : c = b := by rw [ea] at e; injection e with e; injection e with e _ _; exact e.symm
        have f2 : c' = b' := by rw [ea'] at e'; injection e' with e'; injection e' with e' _ _; exact e'.symm
        exact ⟨c', by omega, by omega, .inr ⟨c, cur, e, h1, by omega, hg, hc⟩, .inr ⟨c', cur', e', Nat.le_refl _, h2', hg', hc'⟩⟩
theorem div_short {xs ys zs rs : List Int} (ox : okL xs) (hy : 0 < val ys) (h : Nm zs (val xs / val ys)) (k : Nm rs (val xs % val ys)) : zs.length ≤ xs.length ∧ rs.length ≤ xs.length := by
  have x0 := val_nonneg ox
  have h1 : val xs / val ys ≤ val xs := Int.ediv_le_self _ x0
  have h2 : 0 ≤ val xs / val ys := Int.ediv_nonneg x0 (by omega)
  have h3 : val xs % val ys ≤ val xs := by have e1 := Int.emod_add_mul_ediv (val xs) (val ys); have e2 := Int.mul_nonneg (show 0 ≤ val ys by omega) h2; omega
  exact ⟨len_of_val ox h.ok h.tr (by rw [h.v]; exact h1), len_of_val ox k.ok k.tr (by rw [k.v]; exact h3)⟩
theorem val_pos_of {ys : List Int} (oy : okL ys) (ty : trim ys = ys) (h : ys.length ≠ 0) : 0 < val ys := by
  have h1 := val_nonneg oy
  have h2 := (val_zero_iff oy ty)
  by_cases e : val ys = 0
  · exact absurd (by rw [h2.1 e]; rfl) h
  · omega
theorem ansD_yes {d d' : BD} {zs rs : List Int} (hg1 : goodB d.g d.xs = true) (hg2 : goodB d'.g d'.xs = true) (h0 : d'.xs.length ≠ 0) (h : Nm zs (val d.xs / val d'.xs)) (k : Nm rs (val d.xs % val d'.xs)) :
    AnsD (pD d d') (qD d d') (rD d d') ⟨⟨decide (qD d d' < 0), zs⟩, ⟨decide (rD d d' < 0), rs⟩⟩ true := by
  obtain ⟨ox, tx, lx, _⟩ := good_parts hg1
  obtain ⟨oy, ty, ly, _⟩ := good_parts hg2
  have hp : pD d d' = true := by unfold pD; rw [hg1, hg2]; simp only [Bool.and_self, Bool.true_and]; exact decide_eq_true h0
  have y0 := val_pos_of oy ty h0
  obtain ⟨l1, l2⟩ := div_short ox y0 h k
  refine ⟨.inl ⟨hp, rfl, rfl, ?_, ?_⟩, .inl ⟨hp, rfl, rfl, ?_, ?_⟩⟩
  · show Nm zs ((qD d d').natAbs : Int)
    unfold qD; rw [sU_abs (Int.ediv_nonneg (val_nonneg ox) (by omega))]; exact h
  · exact Nat.le_trans l1 lx
  · show Nm rs ((rD d d').natAbs : Int)
    unfold rD; rw [sU_abs (Int.emod_nonneg _ (by omega))]; exact k
  · exact Nat.le_trans l2 lx

/-- The specification's l1Div at good numbers. -/
def OutD (w : World) (d d' : BD) (e : Ending) (w' : World) : Prop := ∃ (x y : BV) (zs rs : List Int), e = .returned (.tuple #[.agg #[.bool x.g, .slice x.a x.n x.c], .agg #[.bool y.g, .slice y.a y.n y.c]]) ∧ Below w.heap.size w w' ∧ AllOwn w.heap.size w'.heap.size w' [(x, ⟨decide (qD d d' < 0), zs⟩), (y, ⟨decide (rD d d' < 0), rs⟩)] ∧ Nm zs (val d.xs / val d'.xs) ∧ Nm rs (val d.xs % val d'.xs)
set_option maxHeartbeats 4000000 in
theorem l1DivD (b b' : BV) (d d' : BD) (w : World) (h : AllAr w [(b, d)]) (h' : AllAr w [(b', d')]) (hg1 : goodB d.g d.xs = true) (hg2 : goodB d'.g d'.xs = true) (h0 : d'.xs.length ≠ 0) :
    Calls Tryz.prog 84 #[.agg #[.bool b.g, .slice b.a b.n b.c], .agg #[.bool b'.g, .slice b'.a b'.n b'.c]] w (OutD w d d') := by
  have HX := hide h.head
  have HY := hide h'.head
  clear h h'
  have NX := hide (good_parts hg1)
  have NY := hide (good_parts hg2)
  have GG := hide (And.intro hg1 hg2)
  have LX : Hid (b.n ≤ 40 ∧ b'.n ≤ 40 ∧ 1 ≤ b'.n) := hide (by have := (good_parts hg1).2.2.1; have := (good_parts hg2).2.2.1; have := (unhide HX).ar.len; have := (unhide HY).ar.len; omega)
  have SX := hide (And.intro (unhide HX).sg (unhide HY).sg)
  have YP := hide (val_pos_of (unhide NY).1 (unhide NY).2.1 h0)
  have B0 := hide (show Below w.heap.size w ((((w.alloc (.cells #[.bool b.g, .slice b.a b.n b.c] 25)).alloc (.cells #[.bool b'.g, .slice b'.a b'.n b'.c] 25)).alloc (.cells #[.bool false, .slice none 0 0] 25)).alloc (.cells #[.bool false, .slice none 0 0] 25)) from (((((Below.refl _ _).alloc (by simp) _).alloc (by simp) _).alloc (by simp <;> omega) _).alloc (by simp <;> omega) _))
  clear hg1 hg2 h0
  go_enter Tryz.func84, Tryz.ntmps84
  go_wp2_with fail
  refine (divS_any b.a b'.a b.n b'.n b.c b'.c d.xs d'.xs _ ((unhide HX).ar.later (unhide B0)) ((unhide HY).ar.later (unhide B0)) (unhide NX).1 (unhide NX).2.1 (unhide NY).1 (unhide NY).2.1 (unhide LX).2.2 (by have := unhide LX; omega) (by have := unhide LX; omega)).mono ?_
  rintro e w2 ⟨a2, n2, c2, zs, a3, n3, c3, rs, rfl, hb, ho2, ha2, hn2, ho3, ha3, hn3, _⟩
  have s2 : w.heap.size + 1 + 1 + 1 + 1 ≤ w2.heap.size := by have := hb.size; simp at this; omega
  have hq := div_short (unhide NX).1 (unhide YP) hn2 hn3
  have q2 : n2 ≤ 400000 := by have := unhide LX; have := (unhide HX).ar.len; have := ha2.len; omega
  have q3 : n3 ≤ 400000 := by have := unhide LX; have := (unhide HX).ar.len; have := ha3.len; omega
  have N2 := hide hn2
  have N3 := hide hn3
  have k0_0 : w2.cell? ⟨w.heap.size, 0, none⟩ = some (.bool b.g) := cell_later hb (by simp [go_sem])
  have k1_0 : w2.cell? ⟨w.heap.size + 1, 0, none⟩ = some (.bool b'.g) := cell_later hb (by simp [go_sem])
  have k2_0 : w2.cell? ⟨w.heap.size + 1 + 1, 0, none⟩ = some (.bool false) := cell_later hb (by simp [go_sem])
  have k2_1 : w2.cell? ⟨w.heap.size + 1 + 1, 1, none⟩ = some (.slice none 0 0) := cell_later hb (by simp [go_sem])
  have k3_0 : w2.cell? ⟨w.heap.size + 1 + 1 + 1, 0, none⟩ = some (.bool false) := cell_later hb (by simp [go_sem])
  have k3_1 : w2.cell? ⟨w.heap.size + 1 + 1 + 1, 1, none⟩ = some (.slice none 0 0) := cell_later hb (by simp [go_sem])
  have z2 : ∀ o, w2.frozen? ⟨w.heap.size + 1 + 1, o, none⟩ = false := fun o => frozen_later hb (by simp) (by simp [go_sem])
  have z3 : ∀ o, w2.frozen? ⟨w.heap.size + 1 + 1 + 1, o, none⟩ = false := fun o => frozen_later hb (by simp) (by simp [go_sem])
  have A2 := hide (ha2)
  have A3 := hide (ha3)
  have HB := hide (below_on (unhide B0) hb)
  clear hb
  clear ho2 ha2 hn2 ho3 ha3 hn3 hq
  have ne : (w.heap.size ≠ w.heap.size + 1 + 1) ∧ (w.heap.size + 1 ≠ w.heap.size + 1 + 1) ∧ (w.heap.size ≠ w.heap.size + 1 + 1 + 1) ∧ (w.heap.size + 1 ≠ w.heap.size + 1 + 1 + 1) := by omega
  go_upto_region 2 with fail
  go_region_held3 (fun w' => w'.cell? ⟨w.heap.size, 0, none⟩ = some (.bool b.g) ∧ w'.cell? ⟨w.heap.size + 1, 0, none⟩ = some (.bool b'.g)) (with_reducible (first | exact ⟨k0_0, k1_0⟩ | exact ⟨cd_other k0_0, cd_other k1_0⟩ | exact ⟨j0, j1⟩ | exact ⟨i0, i1⟩ | exact ⟨cs_other (cs_other i0 ne.1) ne.1, cs_other (cs_other i1 ne.2.1) ne.2.1⟩ | exact ⟨cs_other (cs_other (cs_other (cs_other i0 ne.1) ne.1) ne.2.2.1) ne.2.2.1, cs_other (cs_other (cs_other (cs_other i1 ne.2.1) ne.2.1) ne.2.2.2) ne.2.2.2⟩ | fail))
    (first
    | (go_at_call_of 67 (Value.bool (!(b.g == b'.g))); refine (makeS_v _ a2 n2 c2 zs _ (val d.xs / val d'.xs) (?_) (unhide N2) (?_)).mono ?_; exact (unhide A2).drew; omega; rintro e w3 ⟨x1, rfl, hb', ow1, ar1⟩; have hb := below_of_drew hb'; have s3 := hb.size; have OW1 := hide (show AllOwn w2.heap.size w3.heap.size w3 _ from ow1); have A3b := hide ((unhide A3).later hb); have B3 := hide hb; have j0 := cell_later hb k0_0; have j1 := cell_later hb k1_0; have j2 := cell_later hb k2_0; have j3 := cell_later hb k2_1; have j4 := cell_later hb k3_0; have j5 := cell_later hb k3_1; have y2 := fun o => frozen_later hb (World.block_lt_of_cell? _ _ k2_0) (z2 o); have y3 := fun o => frozen_later hb (World.block_lt_of_cell? _ _ k3_0) (z3 o); clear ow1 ar1 hb hb')
    | (go_at_call_of 67 (Value.bool b.g); refine (makeS_v _ a3 n3 c3 rs _ (val d.xs % val d'.xs) (?_) (unhide N3) (?_)).mono ?_; exact unhide A3b; omega; rintro e w4 ⟨x2, rfl, hb, ow2, ar2⟩; have s4 := hb.size; have OW2 := hide ow2; have OW1b := hide ((unhide OW1).later hb); have B4 := hide hb; have i0 := cell_later hb j0; have i1 := cell_later hb j1; have i2 := cell_later hb j2; have i3 := cell_later hb j3; have i4 := cell_later hb j4; have i5 := cell_later hb j5; have u2 := fun o => frozen_later hb (World.block_lt_of_cell? _ _ j2) (y2 o); have u3 := fun o => frozen_later hb (World.block_lt_of_cell? _ _ j4) (y3 o); clear ow2 ar2 hb))
  all_goals
    have HB2 := hide (below_on (below_on (unhide HB) (unhide B3)) (unhide B4))
    go_wp2
    refine bodyPost_ret (v := .tuple #[.agg #[.bool x1.g, .slice x1.a x1.n x1.c], .agg #[.bool x2.g, .slice x2.a x2.n x2.c]]) (by simp [results, Tryz.results84, go_sem, i2, i3, i4, i5]) rfl ?_
    have bt1 := metB_but (w5 := w4) (v := x1) (G := w.heap.size + 1 + 1)
    have bt2 := metB_but (w5 := (w4.setCell ⟨w.heap.size + 1 + 1, 0, none⟩ (.bool x1.g)).setCell ⟨w.heap.size + 1 + 1, 1, none⟩ (.slice x1.a x1.n x1.c)) (v := x2) (G := w.heap.size + 1 + 1 + 1)
    have a1 := unhide OW1b
    have a2' := unhide OW2
    rw [(unhide SX).1, (unhide SX).2] at a1
    rw [(unhide SX).1] at a2'
    exact ⟨x1, x2, zs, rs, rfl, bt2.below (bt1.below (unhide HB2) (by omega) (unhide HB2).size) (by omega) (by have := bt1.size; have := (unhide HB2).size; omega), (((a1.join a2' (by omega) (by omega)).but bt1 (.inr (by omega))).but bt2 (.inr (by omega))).wide (by omega) (by have := bt1.size; have := bt2.size; omega), unhide N2, unhide N3⟩

end Go.Proofs.YtdgonpbponnnaaaGreatDoor
