/- Sums of numbers with signs: the program's addSigned and the specification's l1Add. No condition beyond those typed. -/
import Derived.Test.YtdgonpbponnnaaaGreatDoorOrd
import Derived.Test.YtdgonpbponnnaaaGreatDoorTwo
import Derived.Deep.RegionHeld3
namespace Go.Proofs.YtdgonpbponnnaaaGreatDoor
open Go.RowKit
set_option linter.unusedVariables false
set_option maxRecDepth 100000
set_option linter.unusedSimpArgs false

theorem Own.set {base : Nat} {w : World} {a : Option Addr} {zs : List Int} (h : Own base w a zs) {p : Addr} (hp : p.block < base) (v : Value) : Own base (w.setCell p v) a zs := by
  rcases h with h | ⟨b, cur, rfl, h1, hg, hc⟩
  · exact .inl h
  · exact .inr ⟨b, cur, rfl, h1, by rw [Below.heap_setCell _ _ _ _ (by omega)]; exact hg, hc⟩
theorem fin_set {w w2 : World} {a : Option Addr} {n c : Nat} {zs : List Int} {s : Nat} (hs : w.heap.size ≤ s) (hb : Below w.heap.size w w2) (ho : Own (s + 1) w2 a zs) (ha : Arg w2 a n c zs) (v v' : Value) :
    Below w.heap.size w ((w2.setCell ⟨s, 0, none⟩ v).setCell ⟨s, 1, none⟩ v') ∧ Own w.heap.size ((w2.setCell ⟨s, 0, none⟩ v).setCell ⟨s, 1, none⟩ v') a zs ∧ Arg ((w2.setCell ⟨s, 0, none⟩ v).setCell ⟨s, 1, none⟩ v') a n c zs := by
  have h2 := (ho.set (p := ⟨s, 0, none⟩) (by show s < s + 1; omega) v).set (p := ⟨s, 1, none⟩) (by show s < s + 1; omega) v'
  exact ⟨(hb.setCell hs _).setCell hs _, h2.mono (by omega), ⟨h2.sl, ha.len, ha.cap, ha.top, ha.addr⟩⟩
theorem Arg.drew {w : World} {a : Option Addr} {n c : Nat} {xs : List Int} (h : Arg w a n c xs) : Arg w.drew a n c xs := h.later (Below.refl _ _).drew
theorem frozen_later {w wx : World} {b o : Nat} (hb : Below w.heap.size w wx) (hlt : b < w.heap.size) (h : w.frozen? ⟨b, o, none⟩ = false) : wx.frozen? ⟨b, o, none⟩ = false := by
  rw [hb.frozen (p := ⟨b, o, none⟩) hlt]; exact h
theorem below_three (w : World) (o o' o'' : Obj) : Below w.heap.size w (((w.alloc o).alloc o').alloc o'') := (((Below.refl _ _).alloc (Nat.le_refl _) _).alloc (by simp) _).alloc (by simp; omega) _

/-- A number as an argument: its limbs in memory, none too great, no nought at the end. -/
structure Num (w : World) (a : Option Addr) (n c : Nat) (xs : List Int) : Prop where
  arg : Arg w a n c xs
  ok : okL xs
  tr : trim xs = xs
  sh : n ≤ 1000000
theorem Num.later {w w' : World} {a : Option Addr} {n c : Nat} {xs : List Int} (h : Num w a n c xs) (hb : Below w.heap.size w w') : Num w' a n c xs := ⟨h.arg.later hb, h.ok, h.tr, h.sh⟩

/-- The sign of U, or of what is as far below 0. -/
def sd (g : Bool) (U : Int) : Bool := decide ((if g then -U else U) < 0)

theorem signI_out (g : Bool) (a : Option Addr) (n c : Nat) (zs : List Int) (w : World) (base : Nat) (U : Int) (ha : Arg w a n c zs) (ho : Own base w a zs) (hk : okL zs) (hv : val zs = U) (hb : base ≤ w.heap.size) (h1 : n ≤ 1048576) :
    Calls Tryz.prog 83 #[.bool g, .slice a n c] w fun e w' => ∃ a2 n2 c2 ts, e = .returned (.agg #[.bool (sd g U), .slice a2 n2 c2]) ∧ Below w.heap.size w w' ∧ Own base w' a2 ts ∧ Arg w' a2 n2 c2 ts ∧ Nm ts U := by
  refine (sign_any g a n c zs w ha).mono ?_
  rintro e w' ⟨a2, n2, c2, rfl, hb2, ha2, ho2⟩
  have hn : Nm (trim zs) U := hv ▸ Nm.trimmed hk
  exact ⟨a2, n2, c2, _, by rw [sgn_val hn]; rfl, hb2, ho2 base ho, ha2, hn⟩
theorem signS_out (g : Bool) (a : Option Addr) (n c : Nat) (zs : List Int) (w : World) (base : Nat) (U : Int) (ha : Arg w a n c zs) (ho : Own base w a zs) (hk : okL zs) (hv : val zs = U) (hb : base ≤ w.heap.size) (h1 : n ≤ 1048576) :
    Calls Tryz.prog 67 #[.bool g, .slice a n c] w fun e w' => ∃ a2 n2 c2 ts, e = .returned (.agg #[.bool (sd g U), .slice a2 n2 c2]) ∧ Below w.heap.size w w' ∧ Own base w' a2 ts ∧ Arg w' a2 n2 c2 ts ∧ Nm ts U := by
  refine (make_any g a n c zs w ha h1).mono ?_
  rintro e w' ⟨a2, n2, c2, rfl, hb2, ho2, ha2⟩
  have hn : Nm (trim zs) U := hv ▸ Nm.trimmed hk
  exact ⟨a2, n2, c2, _, by rw [sgn_val hn]; rfl, hb2, ho2.mono hb, ha2, hn⟩

/-- The last step of a sum: what the sign's call has left is the answer. -/
theorem outB_of {w w2 : World} {a : Option Addr} {n c : Nat} {ts : List Int} {s : Nat} {U V : Int} {g : Bool} (hs : w.heap.size ≤ s) (hb : Below w.heap.size w w2) (ho : Own (s + 1) w2 a ts) (ha : Arg w2 a n c ts) (hn : Nm ts U) (hV : V = if g then -U else U) (v v' : Value) :
    OutB w V (.returned (.agg #[.bool (sd g U), .slice a n c])) ((w2.setCell ⟨s, 0, none⟩ v).setCell ⟨s, 1, none⟩ v') := by
  obtain ⟨f1, f2, f3⟩ := fin_set hs hb ho ha v v'
  refine ⟨a, n, c, ts, by rw [hV]; rfl, f1, f2, f3, ?_⟩
  rw [natAbs_sign hn.nonneg hV]
  exact hn
theorem sub_len {zs xs ys : List Int} (h : Nm zs (val xs - val ys)) (ox : okL xs) (oy : okL ys) : zs.length ≤ xs.length := by
  refine len_of_val ox h.ok h.tr ?_
  rw [h.v]
  have := val_nonneg oy
  omega

theorem add_len {w : World} {zs xs ys : List Int} {a a' : Option Addr} {n m c c' : Nat} (h : Nm zs (val xs + val ys)) (hx : Num w a n c xs) (hy : Num w a' m c' ys) : zs.length ≤ 1048576 := by
  by_cases h0 : zs.length = 0
  · omega
  have h1 := top_le h.ok h.tr (by omega)
  have h2 := val_lt hx.ok
  have h3 := val_lt hy.ok
  rw [h.v] at h1
  have h4 := pow_mono (show xs.length ≤ 1000000 by rw [hx.arg.len]; exact hx.sh)
  have h5 := pow_mono (show ys.length ≤ 1000000 by rw [hy.arg.len]; exact hy.sh)
  by_cases hl : zs.length ≤ 1048576
  · exact hl
  · have h6 := pow_mono (show 1000001 ≤ zs.length - 1 by omega)
    rw [Int.pow_succ] at h6
    have h7 : (0 : Int) < 65536 ^ 1000000 := Int.pow_pos (by omega)
    generalize (65536 : Int) ^ 1000000 = P at *
    omega

theorem three_size (w : World) (o o' o'' : Obj) : w.heap.size + 1 + 1 + 1 ≤ (((w.alloc o).alloc o').alloc o'').drew.heap.size := by simp

set_option maxHeartbeats 4000000 in
theorem addSgI_eq (g : Bool) (a a' : Option Addr) (n m c c' : Nat) (xs ys : List Int) (w : World) (hx : Num w a n c xs) (hy : Num w a' m c' ys) :
    Calls Tryz.prog 64 #[.agg #[.bool g, .slice a n c], .agg #[.bool g, .slice a' m c']] w (OutB w (sv g xs + sv g ys)) := by
  have HX := hide hx
  have HY := hide hy
  clear hx hy
  have B3 := hide (below_three w (.cells #[.bool g, .slice a n c] 25) (.cells #[.bool g, .slice a' m c'] 25) (.cells #[.bool false, .slice none 0 0] 25))
  have hbb : (g == g) = true := by simp
  go_enter Tryz.func64, Tryz.ntmps64
  go_upto_region 2 with fail
  go_region_held3 (fun w' => w'.cell? ⟨w.heap.size, 0, none⟩ = some (.bool g) ∧ w'.cell? ⟨w.heap.size, 1, none⟩ = some (.slice a n c) ∧ w'.cell? ⟨w.heap.size + 1, 1, none⟩ = some (.slice a' m c')) (first | assumption | (simp [go_sem, *]; done))
    (first
    | (go_at_call 90; refine (addI_any a a' n m c c' xs ys _ ?_ ?_ (unhide HX).ok (unhide HY).ok ?_ ?_).mono ?_; exact ((unhide HX).arg.later (unhide B3)).drew; exact ((unhide HY).arg.later (unhide B3)).drew; exact Nat.le_trans (unhide HX).sh (by omega); exact Nat.le_trans (unhide HY).sh (by omega); rintro e w1 ⟨a1, n1, c1, zs, rfl, hb1, ho1, ha1, hn1⟩; have hk1 := hn1.ok; have hv1 := hn1.v; have hl1 : n1 ≤ 1048576 := (by rw [← ha1.len]; exact add_len hn1 (unhide HX) (unhide HY)); have K1 : w1.cell? ⟨w.heap.size, 0, none⟩ = some (.bool g) ∧ w1.cell? ⟨w.heap.size, 1, none⟩ = some (.slice a n c) ∧ w1.cell? ⟨w.heap.size + 1, 1, none⟩ = some (.slice a' m c') := ⟨cell_later hb1 (by simp [go_sem]), cell_later hb1 (by simp [go_sem]), cell_later hb1 (by simp [go_sem])⟩)
    | (go_at_call 83; refine (signI_out g a1 n1 c1 zs _ (w.heap.size + 1 + 1 + 1) (val xs + val ys) ha1 ?_ hk1 hv1 ?_ ?_).mono ?_; (exact ho1.mono (three_size w _ _ _)); (exact Nat.le_trans (three_size w _ _ _) hb1.size); (exact hl1); rintro e w2 ⟨a2, n2, c2, ts, rfl, hb2, ho2, ha2, hn2⟩; have K2 : w2.cell? ⟨w.heap.size, 0, none⟩ = some (.bool g) ∧ w2.cell? ⟨w.heap.size, 1, none⟩ = some (.slice a n c) ∧ w2.cell? ⟨w.heap.size + 1, 1, none⟩ = some (.slice a' m c') := ⟨cell_later hb2 K1.1, cell_later hb2 K1.2.1, cell_later hb2 K1.2.2⟩; have r0 : w2.cell? ⟨w.heap.size + 1 + 1, 0, none⟩ = some (.bool false) := cell_later hb2 (cell_later hb1 (by simp [go_sem])); have r1 : w2.cell? ⟨w.heap.size + 1 + 1, 1, none⟩ = some (.slice none 0 0) := cell_later hb2 (cell_later hb1 (by simp [go_sem])); have f0 : ∀ o, w2.frozen? ⟨w.heap.size + 1 + 1, o, none⟩ = false := fun o => frozen_later hb2 (Nat.lt_of_lt_of_le (Nat.lt_of_lt_of_le (by omega) (three_size w _ _ _)) hb1.size) (frozen_later hb1 (Nat.lt_of_lt_of_le (by omega) (three_size w _ _ _)) (by simp [go_sem])); have B5 := hide (((unhide B3).drew.trans (hb1.mono (Nat.le_trans (by omega) (three_size w _ _ _)))).trans (hb2.mono (Nat.le_trans (Nat.le_trans (by omega) (three_size w _ _ _)) hb1.size))); have HO2 := hide ho2; have HA2 := hide ha2; have HN2 := hide hn2; clear ho2 ha2 hn2))
  go_wp2
  refine bodyPost_ret (v := .agg #[.bool (sd g (val xs + val ys)), .slice a2 n2 c2]) (by simp [results, Tryz.results64, go_sem, r0, r1]) rfl ?_
  exact outB_of (s := w.heap.size + 1 + 1) (g := g) (by omega) (unhide B5) (unhide HO2) (unhide HA2) (unhide HN2) (by cases g <;> simp [sv] <;> omega) _ _

set_option maxHeartbeats 4000000 in
theorem addSgI_lt (g g' : Bool) (a a' : Option Addr) (n m c c' : Nat) (xs ys : List Int) (w : World) (hx : Num w a n c xs) (hy : Num w a' m c' ys) (hgg : (g == g') = false) (hcm : cmpL xs ys < 0) :
    Calls Tryz.prog 64 #[.agg #[.bool g, .slice a n c], .agg #[.bool g', .slice a' m c']] w (OutB w (sv g xs + sv g' ys)) := by
  have HX := hide hx
  have HY := hide hy
  clear hx hy
  have HLE : Hid (val xs ≤ val ys) := hide (by have := cmpL_val (unhide HX).ok (unhide HY).ok (unhide HX).tr (unhide HY).tr; omega)
  go_enter Tryz.func64, Tryz.ntmps64
  go_wp2_with fail
  refine (cmpI_any a a' n m c c' xs ys _ ((unhide HX).arg.later (below_three _ _ _ _)).sl ((unhide HY).arg.later (below_three _ _ _ _)).sl (unhide HX).arg.len (unhide HY).arg.len (Nat.le_trans (unhide HX).arg.cap (unhide HX).arg.top) (Nat.le_trans (unhide HY).arg.cap (unhide HY).arg.top)).mono ?_
  rintro e w0 ⟨rfl, hb0⟩
  have B3 := hide ((below_three _ _ _ _).trans (hb0.mono (by simp <;> omega)))
  have p0 : w0.cell? ⟨w.heap.size, 0, none⟩ = some (.bool g) := cell_later hb0 (by simp [go_sem])
  have p1 : w0.cell? ⟨w.heap.size, 1, none⟩ = some (.slice a n c) := cell_later hb0 (by simp [go_sem])
  have p2 : w0.cell? ⟨w.heap.size + 1, 0, none⟩ = some (.bool g') := cell_later hb0 (by simp [go_sem])
  have p3 : w0.cell? ⟨w.heap.size + 1, 1, none⟩ = some (.slice a' m c') := cell_later hb0 (by simp [go_sem])
  have p4 : w0.cell? ⟨w.heap.size + 1 + 1, 0, none⟩ = some (.bool false) := cell_later hb0 (by simp [go_sem])
  have p5 : w0.cell? ⟨w.heap.size + 1 + 1, 1, none⟩ = some (.slice none 0 0) := cell_later hb0 (by simp [go_sem])
  have p6 : ∀ o, w0.frozen? ⟨w.heap.size + 1 + 1, o, none⟩ = false := fun o => frozen_later hb0 (by simp) (by simp [go_sem])
  have p7 : w.heap.size + 1 + 1 + 1 ≤ w0.heap.size := by have := hb0.size; simp at this; omega
  clear hb0
  go_upto_region 4 with fail
  go_region_held3 (fun w' => w'.cell? ⟨w.heap.size + 1, 0, none⟩ = some (.bool g') ∧ w'.cell? ⟨w.heap.size + 1, 1, none⟩ = some (.slice a' m c') ∧ w'.cell? ⟨w.heap.size, 1, none⟩ = some (.slice a n c)) (first | assumption | (simp [go_sem, *]; done))
    (first
    | (go_at_call 92; refine (subI_any a' a m n c' c ys xs _ ?_ ?_ (unhide HY).ok (unhide HX).ok ?_ ?_ ?_).mono ?_; exact ((unhide HY).arg.later (unhide B3)).drew; exact ((unhide HX).arg.later (unhide B3)).drew; exact Nat.le_trans (unhide HY).sh (by omega); exact (by rw [← (unhide HX).arg.len, ← (unhide HY).arg.len]; exact len_of_val (unhide HY).ok (unhide HX).ok (unhide HX).tr (unhide HLE)); exact unhide HLE; rintro e w1 ⟨a1, n1, c1, zs, rfl, hb1, ho1, ha1, hn1⟩; have hk1 := hn1.ok; have hv1 := hn1.v; have hl1 : n1 ≤ 1048576 := (by rw [← ha1.len]; have h7 := sub_len hn1 (unhide HY).ok (unhide HX).ok; have h8 := (unhide HY).arg.len; have h9 := (unhide HY).sh; omega); have K1 : w1.cell? ⟨w.heap.size + 1, 0, none⟩ = some (.bool g') ∧ w1.cell? ⟨w.heap.size + 1, 1, none⟩ = some (.slice a' m c') ∧ w1.cell? ⟨w.heap.size, 1, none⟩ = some (.slice a n c) := ⟨cell_later hb1 p2, cell_later hb1 p3, cell_later hb1 p1⟩)
    | (go_at_call 83; refine (signI_out g' a1 n1 c1 zs _ (w.heap.size + 1 + 1 + 1) (val ys - val xs) ha1 ?_ hk1 hv1 ?_ ?_).mono ?_; (exact ho1.mono p7); (exact Nat.le_trans p7 hb1.size); (exact hl1); rintro e w2 ⟨a2, n2, c2, ts, rfl, hb2, ho2, ha2, hn2⟩; have K2 : w2.cell? ⟨w.heap.size + 1, 0, none⟩ = some (.bool g') ∧ w2.cell? ⟨w.heap.size + 1, 1, none⟩ = some (.slice a' m c') ∧ w2.cell? ⟨w.heap.size, 1, none⟩ = some (.slice a n c) := ⟨cell_later hb2 K1.1, cell_later hb2 K1.2.1, cell_later hb2 K1.2.2⟩; have r0 : w2.cell? ⟨w.heap.size + 1 + 1, 0, none⟩ = some (.bool false) := cell_later hb2 (cell_later hb1 p4); have r1 : w2.cell? ⟨w.heap.size + 1 + 1, 1, none⟩ = some (.slice none 0 0) := cell_later hb2 (cell_later hb1 p5); have f0 : ∀ o, w2.frozen? ⟨w.heap.size + 1 + 1, o, none⟩ = false := fun o => frozen_later hb2 (Nat.lt_of_lt_of_le (Nat.lt_of_lt_of_le (by omega) p7) hb1.size) (frozen_later hb1 (Nat.lt_of_lt_of_le (by omega) p7) (p6 o)); have B5 := hide (((unhide B3).drew.trans (hb1.mono (Nat.le_trans (by omega) p7))).trans (hb2.mono (Nat.le_trans (Nat.le_trans (by omega) p7) hb1.size))); have HO2 := hide ho2; have HA2 := hide ha2; have HN2 := hide hn2; clear ho2 ha2 hn2))
  go_wp2
  refine bodyPost_ret (v := .agg #[.bool (sd g' (val ys - val xs)), .slice a2 n2 c2]) (by simp [results, Tryz.results64, go_sem, r0, r1]) rfl ?_
  exact outB_of (s := w.heap.size + 1 + 1) (g := g') (by omega) (unhide B5) (unhide HO2) (unhide HA2) (unhide HN2) (by cases g <;> cases g' <;> simp at hgg <;> simp [sv] <;> omega) _ _

set_option maxHeartbeats 4000000 in
theorem addSgI_ge (g g' : Bool) (a a' : Option Addr) (n m c c' : Nat) (xs ys : List Int) (w : World) (hx : Num w a n c xs) (hy : Num w a' m c' ys) (hgg : (g == g') = false) (hcm : ¬ cmpL xs ys < 0) :
    Calls Tryz.prog 64 #[.agg #[.bool g, .slice a n c], .agg #[.bool g', .slice a' m c']] w (OutB w (sv g xs + sv g' ys)) := by
  have HX := hide hx
  have HY := hide hy
  clear hx hy
  have HLE : Hid (val ys ≤ val xs) := hide (by have := cmpL_val (unhide HX).ok (unhide HY).ok (unhide HX).tr (unhide HY).tr; omega)
  go_enter Tryz.func64, Tryz.ntmps64
  go_wp2_with fail
  refine (cmpI_any a a' n m c c' xs ys _ ((unhide HX).arg.later (below_three _ _ _ _)).sl ((unhide HY).arg.later (below_three _ _ _ _)).sl (unhide HX).arg.len (unhide HY).arg.len (Nat.le_trans (unhide HX).arg.cap (unhide HX).arg.top) (Nat.le_trans (unhide HY).arg.cap (unhide HY).arg.top)).mono ?_
  rintro e w0 ⟨rfl, hb0⟩
  have B3 := hide ((below_three _ _ _ _).trans (hb0.mono (by simp <;> omega)))
  have p0 : w0.cell? ⟨w.heap.size, 0, none⟩ = some (.bool g) := cell_later hb0 (by simp [go_sem])
  have p1 : w0.cell? ⟨w.heap.size, 1, none⟩ = some (.slice a n c) := cell_later hb0 (by simp [go_sem])
  have p2 : w0.cell? ⟨w.heap.size + 1, 0, none⟩ = some (.bool g') := cell_later hb0 (by simp [go_sem])
  have p3 : w0.cell? ⟨w.heap.size + 1, 1, none⟩ = some (.slice a' m c') := cell_later hb0 (by simp [go_sem])
  have p4 : w0.cell? ⟨w.heap.size + 1 + 1, 0, none⟩ = some (.bool false) := cell_later hb0 (by simp [go_sem])
  have p5 : w0.cell? ⟨w.heap.size + 1 + 1, 1, none⟩ = some (.slice none 0 0) := cell_later hb0 (by simp [go_sem])
  have p6 : ∀ o, w0.frozen? ⟨w.heap.size + 1 + 1, o, none⟩ = false := fun o => frozen_later hb0 (by simp) (by simp [go_sem])
  have p7 : w.heap.size + 1 + 1 + 1 ≤ w0.heap.size := by have := hb0.size; simp at this; omega
  clear hb0
  go_upto_region 5 with fail
  go_region_held3 (fun w' => w'.cell? ⟨w.heap.size, 0, none⟩ = some (.bool g) ∧ w'.cell? ⟨w.heap.size, 1, none⟩ = some (.slice a n c) ∧ w'.cell? ⟨w.heap.size + 1, 1, none⟩ = some (.slice a' m c')) (first | assumption | (simp [go_sem, *]; done))
    (first
    | (go_at_call 92; refine (subI_any a a' n m c c' xs ys _ ?_ ?_ (unhide HX).ok (unhide HY).ok ?_ ?_ ?_).mono ?_; exact ((unhide HX).arg.later (unhide B3)).drew; exact ((unhide HY).arg.later (unhide B3)).drew; exact Nat.le_trans (unhide HX).sh (by omega); exact (by rw [← (unhide HY).arg.len, ← (unhide HX).arg.len]; exact len_of_val (unhide HX).ok (unhide HY).ok (unhide HY).tr (unhide HLE)); exact unhide HLE; rintro e w1 ⟨a1, n1, c1, zs, rfl, hb1, ho1, ha1, hn1⟩; have hk1 := hn1.ok; have hv1 := hn1.v; have hl1 : n1 ≤ 1048576 := (by rw [← ha1.len]; have h7 := sub_len hn1 (unhide HX).ok (unhide HY).ok; have h8 := (unhide HX).arg.len; have h9 := (unhide HX).sh; omega); have K1 : w1.cell? ⟨w.heap.size, 0, none⟩ = some (.bool g) ∧ w1.cell? ⟨w.heap.size, 1, none⟩ = some (.slice a n c) ∧ w1.cell? ⟨w.heap.size + 1, 1, none⟩ = some (.slice a' m c') := ⟨cell_later hb1 p0, cell_later hb1 p1, cell_later hb1 p3⟩)
    | (go_at_call 83; refine (signI_out g a1 n1 c1 zs _ (w.heap.size + 1 + 1 + 1) (val xs - val ys) ha1 ?_ hk1 hv1 ?_ ?_).mono ?_; (exact ho1.mono p7); (exact Nat.le_trans p7 hb1.size); (exact hl1); rintro e w2 ⟨a2, n2, c2, ts, rfl, hb2, ho2, ha2, hn2⟩; have K2 : w2.cell? ⟨w.heap.size, 0, none⟩ = some (.bool g) ∧ w2.cell? ⟨w.heap.size, 1, none⟩ = some (.slice a n c) ∧ w2.cell? ⟨w.heap.size + 1, 1, none⟩ = some (.slice a' m c') := ⟨cell_later hb2 K1.1, cell_later hb2 K1.2.1, cell_later hb2 K1.2.2⟩; have r0 : w2.cell? ⟨w.heap.size + 1 + 1, 0, none⟩ = some (.bool false) := cell_later hb2 (cell_later hb1 p4); have r1 : w2.cell? ⟨w.heap.size + 1 + 1, 1, none⟩ = some (.slice none 0 0) := cell_later hb2 (cell_later hb1 p5); have f0 : ∀ o, w2.frozen? ⟨w.heap.size + 1 + 1, o, none⟩ = false := fun o => frozen_later hb2 (Nat.lt_of_lt_of_le (Nat.lt_of_lt_of_le (by omega) p7) hb1.size) (frozen_later hb1 (Nat.lt_of_lt_of_le (by omega) p7) (p6 o)); have B5 := hide (((unhide B3).drew.trans (hb1.mono (Nat.le_trans (by omega) p7))).trans (hb2.mono (Nat.le_trans (Nat.le_trans (by omega) p7) hb1.size))); have HO2 := hide ho2; have HA2 := hide ha2; have HN2 := hide hn2; clear ho2 ha2 hn2))
  go_wp2
  refine bodyPost_ret (v := .agg #[.bool (sd g (val xs - val ys)), .slice a2 n2 c2]) (by simp [results, Tryz.results64, go_sem, r0, r1]) rfl ?_
  exact outB_of (s := w.heap.size + 1 + 1) (g := g) (by omega) (unhide B5) (unhide HO2) (unhide HA2) (unhide HN2) (by cases g <;> cases g' <;> simp at hgg <;> simp [sv] <;> omega) _ _

theorem addSgI_any (g g' : Bool) (a a' : Option Addr) (n m c c' : Nat) (xs ys : List Int) (w : World) (hx : Num w a n c xs) (hy : Num w a' m c' ys) :
    Calls Tryz.prog 64 #[.agg #[.bool g, .slice a n c], .agg #[.bool g', .slice a' m c']] w (OutB w (sv g xs + sv g' ys)) := by
  by_cases h : g = g'
  · subst h; exact addSgI_eq g a a' n m c c' xs ys w hx hy
  · have hgg : (g == g') = false := by simpa using h
    by_cases h2 : cmpL xs ys < 0
    · exact addSgI_lt g g' a a' n m c c' xs ys w hx hy hgg h2
    · exact addSgI_ge g g' a a' n m c c' xs ys w hx hy hgg h2

set_option maxHeartbeats 4000000 in
theorem addSgS_eq (g : Bool) (a a' : Option Addr) (n m c c' : Nat) (xs ys : List Int) (w : World) (hx : Num w a n c xs) (hy : Num w a' m c' ys) :
    Calls Tryz.prog 68 #[.agg #[.bool g, .slice a n c], .agg #[.bool g, .slice a' m c']] w (OutB w (sv g xs + sv g ys)) := by
  have HX := hide hx
  have HY := hide hy
  clear hx hy
  have B3 := hide (below_three w (.cells #[.bool g, .slice a n c] 25) (.cells #[.bool g, .slice a' m c'] 25) (.cells #[.bool false, .slice none 0 0] 25))
  have hbb : (g == g) = true := by simp
  go_enter Tryz.func68, Tryz.ntmps68
  go_upto_region 2 with fail
  go_region_held3 (fun w' => w'.cell? ⟨w.heap.size, 0, none⟩ = some (.bool g) ∧ w'.cell? ⟨w.heap.size, 1, none⟩ = some (.slice a n c) ∧ w'.cell? ⟨w.heap.size + 1, 1, none⟩ = some (.slice a' m c')) (first | assumption | (simp [go_sem, *]; done))
    (first
    | (go_at_call 94; refine (addS_any a a' n m c c' xs ys _ ?_ ?_ (unhide HX).ok (unhide HY).ok ?_ ?_).mono ?_; exact ((unhide HX).arg.later (unhide B3)).drew; exact ((unhide HY).arg.later (unhide B3)).drew; exact Nat.le_trans (unhide HX).sh (by omega); exact Nat.le_trans (unhide HY).sh (by omega); rintro e w1 ⟨a1, n1, c1, zs, rfl, hb1, ho1, ha1, hk1, hv1, hlz⟩; have hl1 : n1 ≤ 1048576 := (by rw [← ha1.len]; have := (unhide HX).sh; have := (unhide HY).sh; omega); have K1 : w1.cell? ⟨w.heap.size, 0, none⟩ = some (.bool g) ∧ w1.cell? ⟨w.heap.size, 1, none⟩ = some (.slice a n c) ∧ w1.cell? ⟨w.heap.size + 1, 1, none⟩ = some (.slice a' m c') := ⟨cell_later hb1 (by simp [go_sem]), cell_later hb1 (by simp [go_sem]), cell_later hb1 (by simp [go_sem])⟩)
    | (go_at_call 67; refine (signS_out g a1 n1 c1 zs _ (w.heap.size + 1 + 1 + 1) (val xs + val ys) ha1 ?_ hk1 hv1 ?_ ?_).mono ?_; (exact ho1.mono (three_size w _ _ _)); (exact Nat.le_trans (three_size w _ _ _) hb1.size); (exact hl1); rintro e w2 ⟨a2, n2, c2, ts, rfl, hb2, ho2, ha2, hn2⟩; have K2 : w2.cell? ⟨w.heap.size, 0, none⟩ = some (.bool g) ∧ w2.cell? ⟨w.heap.size, 1, none⟩ = some (.slice a n c) ∧ w2.cell? ⟨w.heap.size + 1, 1, none⟩ = some (.slice a' m c') := ⟨cell_later hb2 K1.1, cell_later hb2 K1.2.1, cell_later hb2 K1.2.2⟩; have r0 : w2.cell? ⟨w.heap.size + 1 + 1, 0, none⟩ = some (.bool false) := cell_later hb2 (cell_later hb1 (by simp [go_sem])); have r1 : w2.cell? ⟨w.heap.size + 1 + 1, 1, none⟩ = some (.slice none 0 0) := cell_later hb2 (cell_later hb1 (by simp [go_sem])); have f0 : ∀ o, w2.frozen? ⟨w.heap.size + 1 + 1, o, none⟩ = false := fun o => frozen_later hb2 (Nat.lt_of_lt_of_le (Nat.lt_of_lt_of_le (by omega) (three_size w _ _ _)) hb1.size) (frozen_later hb1 (Nat.lt_of_lt_of_le (by omega) (three_size w _ _ _)) (by simp [go_sem])); have B5 := hide (((unhide B3).drew.trans (hb1.mono (Nat.le_trans (by omega) (three_size w _ _ _)))).trans (hb2.mono (Nat.le_trans (Nat.le_trans (by omega) (three_size w _ _ _)) hb1.size))); have HO2 := hide ho2; have HA2 := hide ha2; have HN2 := hide hn2; clear ho2 ha2 hn2))
  go_wp2
  refine bodyPost_ret (v := .agg #[.bool (sd g (val xs + val ys)), .slice a2 n2 c2]) (by simp [results, Tryz.results68, go_sem, r0, r1]) rfl ?_
  exact outB_of (s := w.heap.size + 1 + 1) (g := g) (by omega) (unhide B5) (unhide HO2) (unhide HA2) (unhide HN2) (by cases g <;> simp [sv] <;> omega) _ _

set_option maxHeartbeats 4000000 in
theorem addSgS_ge (g g' : Bool) (a a' : Option Addr) (n m c c' : Nat) (xs ys : List Int) (w : World) (hx : Num w a n c xs) (hy : Num w a' m c' ys) (hgg : (g == g') = false) (hcm : 0 ≤ cmpL xs ys) :
    Calls Tryz.prog 68 #[.agg #[.bool g, .slice a n c], .agg #[.bool g', .slice a' m c']] w (OutB w (sv g xs + sv g' ys)) := by
  have HX := hide hx
  have HY := hide hy
  clear hx hy
  have HLE : Hid (val ys ≤ val xs) := hide (by have := cmpL_val (unhide HX).ok (unhide HY).ok (unhide HX).tr (unhide HY).tr; omega)
  go_enter Tryz.func68, Tryz.ntmps68
  go_wp2_with fail
  refine (cmpS_any a a' n m c c' xs ys _ ((unhide HX).arg.later (below_three _ _ _ _)).sl ((unhide HY).arg.later (below_three _ _ _ _)).sl (unhide HX).arg.len (unhide HY).arg.len (Nat.le_trans (unhide HX).arg.cap (unhide HX).arg.top) (Nat.le_trans (unhide HY).arg.cap (unhide HY).arg.top)).mono ?_
  rintro e w0 ⟨rfl, hb0⟩
  have B3 := hide ((below_three _ _ _ _).trans (hb0.mono (by simp <;> omega)))
  have p0 : w0.cell? ⟨w.heap.size, 0, none⟩ = some (.bool g) := cell_later hb0 (by simp [go_sem])
  have p1 : w0.cell? ⟨w.heap.size, 1, none⟩ = some (.slice a n c) := cell_later hb0 (by simp [go_sem])
  have p2 : w0.cell? ⟨w.heap.size + 1, 0, none⟩ = some (.bool g') := cell_later hb0 (by simp [go_sem])
  have p3 : w0.cell? ⟨w.heap.size + 1, 1, none⟩ = some (.slice a' m c') := cell_later hb0 (by simp [go_sem])
  have p4 : w0.cell? ⟨w.heap.size + 1 + 1, 0, none⟩ = some (.bool false) := cell_later hb0 (by simp [go_sem])
  have p5 : w0.cell? ⟨w.heap.size + 1 + 1, 1, none⟩ = some (.slice none 0 0) := cell_later hb0 (by simp [go_sem])
  have p6 : ∀ o, w0.frozen? ⟨w.heap.size + 1 + 1, o, none⟩ = false := fun o => frozen_later hb0 (by simp) (by simp [go_sem])
  have p7 : w.heap.size + 1 + 1 + 1 ≤ w0.heap.size := by have := hb0.size; simp at this; omega
  clear hb0
  go_upto_region 4 with fail
  go_region_held3 (fun w' => w'.cell? ⟨w.heap.size, 0, none⟩ = some (.bool g) ∧ w'.cell? ⟨w.heap.size, 1, none⟩ = some (.slice a n c) ∧ w'.cell? ⟨w.heap.size + 1, 1, none⟩ = some (.slice a' m c')) (first | assumption | (simp [go_sem, *]; done))
    (first
    | (go_at_call 95; refine (subS_any a a' n m c c' xs ys _ ?_ ?_ (unhide HX).ok (unhide HY).ok ?_ ?_ ?_).mono ?_; exact ((unhide HX).arg.later (unhide B3)).drew; exact ((unhide HY).arg.later (unhide B3)).drew; exact Nat.le_trans (unhide HX).sh (by omega); exact (by rw [← (unhide HY).arg.len, ← (unhide HX).arg.len]; exact len_of_val (unhide HX).ok (unhide HY).ok (unhide HY).tr (unhide HLE)); exact unhide HLE; rintro e w1 ⟨a1, n1, c1, zs, rfl, hb1, ho1, ha1, hn1⟩; have hk1 := hn1.ok; have hv1 := hn1.v; have hl1 : n1 ≤ 1048576 := (by rw [← ha1.len]; have h7 := sub_len hn1 (unhide HX).ok (unhide HY).ok; have h8 := (unhide HX).arg.len; have h9 := (unhide HX).sh; omega); have K1 : w1.cell? ⟨w.heap.size, 0, none⟩ = some (.bool g) ∧ w1.cell? ⟨w.heap.size, 1, none⟩ = some (.slice a n c) ∧ w1.cell? ⟨w.heap.size + 1, 1, none⟩ = some (.slice a' m c') := ⟨cell_later hb1 p0, cell_later hb1 p1, cell_later hb1 p3⟩)
    | (go_at_call 67; refine (signS_out g a1 n1 c1 zs _ (w.heap.size + 1 + 1 + 1) (val xs - val ys) ha1 ?_ hk1 hv1 ?_ ?_).mono ?_; (exact ho1.mono p7); (exact Nat.le_trans p7 hb1.size); (exact hl1); rintro e w2 ⟨a2, n2, c2, ts, rfl, hb2, ho2, ha2, hn2⟩; have K2 : w2.cell? ⟨w.heap.size, 0, none⟩ = some (.bool g) ∧ w2.cell? ⟨w.heap.size, 1, none⟩ = some (.slice a n c) ∧ w2.cell? ⟨w.heap.size + 1, 1, none⟩ = some (.slice a' m c') := ⟨cell_later hb2 K1.1, cell_later hb2 K1.2.1, cell_later hb2 K1.2.2⟩; have r0 : w2.cell? ⟨w.heap.size + 1 + 1, 0, none⟩ = some (.bool false) := cell_later hb2 (cell_later hb1 p4); have r1 : w2.cell? ⟨w.heap.size + 1 + 1, 1, none⟩ = some (.slice none 0 0) := cell_later hb2 (cell_later hb1 p5); have f0 : ∀ o, w2.frozen? ⟨w.heap.size + 1 + 1, o, none⟩ = false := fun o => frozen_later hb2 (Nat.lt_of_lt_of_le (Nat.lt_of_lt_of_le (by omega) p7) hb1.size) (frozen_later hb1 (Nat.lt_of_lt_of_le (by omega) p7) (p6 o)); have B5 := hide (((unhide B3).drew.trans (hb1.mono (Nat.le_trans (by omega) p7))).trans (hb2.mono (Nat.le_trans (Nat.le_trans (by omega) p7) hb1.size))); have HO2 := hide ho2; have HA2 := hide ha2; have HN2 := hide hn2; clear ho2 ha2 hn2))
  go_wp2
  refine bodyPost_ret (v := .agg #[.bool (sd g (val xs - val ys)), .slice a2 n2 c2]) (by simp [results, Tryz.results68, go_sem, r0, r1]) rfl ?_
  exact outB_of (s := w.heap.size + 1 + 1) (g := g) (by omega) (unhide B5) (unhide HO2) (unhide HA2) (unhide HN2) (by cases g <;> cases g' <;> simp at hgg <;> simp [sv] <;> omega) _ _

set_option maxHeartbeats 4000000 in
theorem addSgS_lt (g g' : Bool) (a a' : Option Addr) (n m c c' : Nat) (xs ys : List Int) (w : World) (hx : Num w a n c xs) (hy : Num w a' m c' ys) (hgg : (g == g') = false) (hcm : ¬ 0 ≤ cmpL xs ys) :
    Calls Tryz.prog 68 #[.agg #[.bool g, .slice a n c], .agg #[.bool g', .slice a' m c']] w (OutB w (sv g xs + sv g' ys)) := by
  have HX := hide hx
  have HY := hide hy
  clear hx hy
  have HLE : Hid (val xs ≤ val ys) := hide (by have := cmpL_val (unhide HX).ok (unhide HY).ok (unhide HX).tr (unhide HY).tr; omega)
  go_enter Tryz.func68, Tryz.ntmps68
  go_wp2_with fail
  refine (cmpS_any a a' n m c c' xs ys _ ((unhide HX).arg.later (below_three _ _ _ _)).sl ((unhide HY).arg.later (below_three _ _ _ _)).sl (unhide HX).arg.len (unhide HY).arg.len (Nat.le_trans (unhide HX).arg.cap (unhide HX).arg.top) (Nat.le_trans (unhide HY).arg.cap (unhide HY).arg.top)).mono ?_
  rintro e w0 ⟨rfl, hb0⟩
  have B3 := hide ((below_three _ _ _ _).trans (hb0.mono (by simp <;> omega)))
  have p0 : w0.cell? ⟨w.heap.size, 0, none⟩ = some (.bool g) := cell_later hb0 (by simp [go_sem])
  have p1 : w0.cell? ⟨w.heap.size, 1, none⟩ = some (.slice a n c) := cell_later hb0 (by simp [go_sem])
  have p2 : w0.cell? ⟨w.heap.size + 1, 0, none⟩ = some (.bool g') := cell_later hb0 (by simp [go_sem])
  have p3 : w0.cell? ⟨w.heap.size + 1, 1, none⟩ = some (.slice a' m c') := cell_later hb0 (by simp [go_sem])
  have p4 : w0.cell? ⟨w.heap.size + 1 + 1, 0, none⟩ = some (.bool false) := cell_later hb0 (by simp [go_sem])
  have p5 : w0.cell? ⟨w.heap.size + 1 + 1, 1, none⟩ = some (.slice none 0 0) := cell_later hb0 (by simp [go_sem])
  have p6 : ∀ o, w0.frozen? ⟨w.heap.size + 1 + 1, o, none⟩ = false := fun o => frozen_later hb0 (by simp) (by simp [go_sem])
  have p7 : w.heap.size + 1 + 1 + 1 ≤ w0.heap.size := by have := hb0.size; simp at this; omega
  clear hb0
  go_upto_region 5 with fail
  go_region_held3 (fun w' => w'.cell? ⟨w.heap.size + 1, 0, none⟩ = some (.bool g') ∧ w'.cell? ⟨w.heap.size + 1, 1, none⟩ = some (.slice a' m c') ∧ w'.cell? ⟨w.heap.size, 1, none⟩ = some (.slice a n c)) (first | assumption | (simp [go_sem, *]; done))
    (first
    | (go_at_call 95; refine (subS_any a' a m n c' c ys xs _ ?_ ?_ (unhide HY).ok (unhide HX).ok ?_ ?_ ?_).mono ?_; exact ((unhide HY).arg.later (unhide B3)).drew; exact ((unhide HX).arg.later (unhide B3)).drew; exact Nat.le_trans (unhide HY).sh (by omega); exact (by rw [← (unhide HX).arg.len, ← (unhide HY).arg.len]; exact len_of_val (unhide HY).ok (unhide HX).ok (unhide HX).tr (unhide HLE)); exact unhide HLE; rintro e w1 ⟨a1, n1, c1, zs, rfl, hb1, ho1, ha1, hn1⟩; have hk1 := hn1.ok; have hv1 := hn1.v; have hl1 : n1 ≤ 1048576 := (by rw [← ha1.len]; have h7 := sub_len hn1 (unhide HY).ok (unhide HX).ok; have h8 := (unhide HY).arg.len; have h9 := (unhide HY).sh; omega); have K1 : w1.cell? ⟨w.heap.size + 1, 0, none⟩ = some (.bool g') ∧ w1.cell? ⟨w.heap.size + 1, 1, none⟩ = some (.slice a' m c') ∧ w1.cell? ⟨w.heap.size, 1, none⟩ = some (.slice a n c) := ⟨cell_later hb1 p2, cell_later hb1 p3, cell_later hb1 p1⟩)
    | (go_at_call 67; refine (signS_out g' a1 n1 c1 zs _ (w.heap.size + 1 + 1 + 1) (val ys - val xs) ha1 ?_ hk1 hv1 ?_ ?_).mono ?_; (exact ho1.mono p7); (exact Nat.le_trans p7 hb1.size); (exact hl1); rintro e w2 ⟨a2, n2, c2, ts, rfl, hb2, ho2, ha2, hn2⟩; have K2 : w2.cell? ⟨w.heap.size + 1, 0, none⟩ = some (.bool g') ∧ w2.cell? ⟨w.heap.size + 1, 1, none⟩ = some (.slice a' m c') ∧ w2.cell? ⟨w.heap.size, 1, none⟩ = some (.slice a n c) := ⟨cell_later hb2 K1.1, cell_later hb2 K1.2.1, cell_later hb2 K1.2.2⟩; have r0 : w2.cell? ⟨w.heap.size + 1 + 1, 0, none⟩ = some (.bool false) := cell_later hb2 (cell_later hb1 p4); have r1 : w2.cell? ⟨w.heap.size + 1 + 1, 1, none⟩ = some (.slice none 0 0) := cell_later hb2 (cell_later hb1 p5); have f0 : ∀ o, w2.frozen? ⟨w.heap.size + 1 + 1, o, none⟩ = false := fun o => frozen_later hb2 (Nat.lt_of_lt_of_le (Nat.lt_of_lt_of_le (by omega) p7) hb1.size) (frozen_later hb1 (Nat.lt_of_lt_of_le (by omega) p7) (p6 o)); have B5 := hide (((unhide B3).drew.trans (hb1.mono (Nat.le_trans (by omega) p7))).trans (hb2.mono (Nat.le_trans (Nat.le_trans (by omega) p7) hb1.size))); have HO2 := hide ho2; have HA2 := hide ha2; have HN2 := hide hn2; clear ho2 ha2 hn2))
  go_wp2
  refine bodyPost_ret (v := .agg #[.bool (sd g' (val ys - val xs)), .slice a2 n2 c2]) (by simp [results, Tryz.results68, go_sem, r0, r1]) rfl ?_
  exact outB_of (s := w.heap.size + 1 + 1) (g := g') (by omega) (unhide B5) (unhide HO2) (unhide HA2) (unhide HN2) (by cases g <;> cases g' <;> simp at hgg <;> simp [sv] <;> omega) _ _

theorem addSgS_any (g g' : Bool) (a a' : Option Addr) (n m c c' : Nat) (xs ys : List Int) (w : World) (hx : Num w a n c xs) (hy : Num w a' m c' ys) :
    Calls Tryz.prog 68 #[.agg #[.bool g, .slice a n c], .agg #[.bool g', .slice a' m c']] w (OutB w (sv g xs + sv g' ys)) := by
  by_cases h : g = g'
  · subst h; exact addSgS_eq g a a' n m c c' xs ys w hx hy
  · have hgg : (g == g') = false := by simpa using h
    by_cases h2 : 0 ≤ cmpL xs ys
    · exact addSgS_ge g g' a a' n m c c' xs ys w hx hy hgg h2
    · exact addSgS_lt g g' a a' n m c c' xs ys w hx hy hgg h2
end Go.Proofs.YtdgonpbponnnaaaGreatDoor
