/- RootSpan: the specification's, at every fraction and every number of bits. No condition beyond those typed. Written by mkroots.py. -/
import Derived.Test.YtcbmecnipldcfaaPackS6
namespace Go.Proofs.Ytcbmecnipldcfaa
open Go.RowKit
set_option linter.unusedVariables false
set_option maxRecDepth 100000
set_option linter.unusedSimpArgs false

theorem shf_owns (w : World) (b n : Nat) (hm : b + n ≤ maxLen) : (w.alloc (.cells (madeCells #[.int .i64 0] (b + n)) 3)).ownsRow w.heap.size 3 1 (.slice (some ⟨w.heap.size, 0, none⟩) b (b + n)) b ((List.replicate b 0).map (Value.int .i64)) := by
  refine ⟨by simp, .inr ⟨w.heap.size, b + n, madeCells #[.int .i64 0] (b + n), rfl, Nat.le_refl _, ?_, by omega, hm, by simp [size_madeCells], ?_⟩⟩
  · show (w.heap.push _)[w.heap.size]? = _
    simp
  · rw [made_ints]
    rw [← List.map_take, List.take_replicate]
    congr 2
    omega
theorem shf_val (n : Nat) (xs : List Int) : val (List.replicate n 0 ++ xs) = 65536 ^ n * val xs := by
  induction n with
  | zero => simp
  | succ n ih => simp only [List.replicate_succ, List.cons_append, val, ih, Int.pow_succ, Int.mul_comm (65536 ^ n) 65536, Int.mul_assoc]; omega
theorem shf_ok (n : Nat) {xs : List Int} (h : okL xs) : okL (List.replicate n 0 ++ xs) := okL_append (fun x hx => by rw [List.eq_of_mem_replicate hx]; omega) h

set_option maxHeartbeats 2000000 in
theorem shfI (a : Option Addr) (n c b : Nat) (xs : List Int) (w : World) (hx : Arg w a n c xs) (ox : okL xs) (h1 : n ≤ 500000) (hb : b ≤ 500000) :
    Calls Try.prog 110 #[.slice a n c, .int .i64 b] w fun e w' => ∃ a' c', e = .returned (.slice a' (b + n) c') ∧ Below w.heap.size w w' ∧ Own w.heap.size w' a' (List.replicate b 0 ++ xs) ∧ Arg w' a' (b + n) c' (List.replicate b 0 ++ xs) := by
  obtain ⟨i0, hi, hz0, hz1, hz2⟩ := info_parts Try.info3
  have hmk : ∀ w, (Instr.makeSlice 22 (.int .i64 (b : Int)) (.int .i64 ((b : Int) + (n : Int)))).run Try.prog w = .ok (.slice (some ⟨w.heap.size, 0, none⟩) b (b + n)) (w.alloc (.cells (madeCells #[.int .i64 0] (b + n)) 3)) := by
    intro w
    have := run_make (P := Try.prog) w 22 3 i0 (.int .i64 0) Try.underlying22 hi hz0 .i64 .i64 (b : Int) ((b : Int) + (n : Int)) (by omega) (by omega) (by rw [hz2]; omega) (by omega)
    rw [this, hz1]
    simp [show ((b : Int) + (n : Int)).toNat = b + n by omega, Value.cells]
  have hown := hide (shf_owns w b n (by unfold maxLen; omega))
  have hnone : Hid (a = none → n = 0 ∧ c = 0) := hide (fun e => by
    rcases hx.addr with ⟨_, hc⟩ | ⟨_, _, h'⟩
    · exact ⟨by have := hx.cap; omega, hc⟩
    · rw [e] at h'; cases h')
  have hcells : Hid (∀ ad, a = some ad → ∀ j u, (xs.map (Value.int .i64))[j]? = some u → (w.alloc (.cells (madeCells #[.int .i64 0] (b + n)) 3)).cell? (ad.add j) = some u) := hide (by
    intro ad e j u hj
    rcases hx.sl with rfl | ⟨b', off', e', hb', hc⟩
    · simp at hj
    · rw [e] at e'
      cases e'
      have := cells_at (w := w.alloc (.cells (madeCells #[.int .i64 0] (b + n)) 3)) (b := b') (off := off') (k := xs.length) (xs := xs) (fun i hi => by
        rw [← hc i hi]; exact ((Below.refl _ _).alloc (Nat.le_refl _) _).cell (by exact hb')) (Nat.le_refl _)
      rw [List.take_length] at this
      exact this j u hj)
  have hlen := hide (show (xs.map (Value.int .i64)).length = n * 1 by simp; exact hx.len)
  have HL := hide hx.len
  clear hx
  go_enter Try.func110, Try.ntmps110
  go_wp2_with (at_builtin; refine wpList_append_fits_any _ rfl (.tmp 10) (.tmp 11) 22 rfl w.heap.size 3 i0 1 Try.underlying22 hi hz1 w.heap.size b (b + n) _ rfl (unhide hown) a n c (xs.map (Value.int .i64)) rfl (unhide hlen) (unhide hnone) (unhide hcells) (one_cells _) (Nat.le_refl _) ?_)
  intro w1 hown1 hg
  have HR : Hid (w1.ownsRow w.heap.size 3 1 (.slice (some ⟨w.heap.size, 0, none⟩) (b + n) (b + n)) (b + n) ((List.replicate b 0 ++ xs).map (Value.int .i64))) := hide (by simpa using hown1)
  have HB := hide (below_alloc_grown hg (fun k e => by simp at e; omega))
  clear hown1 hg hmk
  go_wp2
  go_ret
  have hl : (List.replicate b 0 ++ xs).length = b + n := by simp; exact unhide HL
  have ho := Own.of_owns (unhide HR) hl
  exact ⟨_, _, rfl, unhide HB, ho, ⟨ho.sl, hl, Nat.le_refl _, by unfold maxLen; omega, .inr ⟨_, _, rfl⟩⟩⟩

theorem shfI' (a : Option Addr) (n c : Nat) (B : Int) (b : Nat) (hB : B = b) (xs : List Int) (w : World) (hx : Arg w a n c xs) (ox : okL xs) (h1 : n ≤ 500000) (hb : b ≤ 500000) :
    Calls Try.prog 110 #[.slice a n c, .int .i64 B] w fun e w' => ∃ a' c', e = .returned (.slice a' (b + n) c') ∧ Below w.heap.size w w' ∧ Own w.heap.size w' a' (List.replicate b 0 ++ xs) ∧ Arg w' a' (b + n) c' (List.replicate b 0 ++ xs) := by subst hB; exact shfI a n c b xs w hx ox h1 hb
/-- Noughts and one limb above them. -/
theorem shf_nm (b : Nat) {x : Int} (h0 : 0 < x) (h1 : x ≤ 65535) : Nm (List.replicate b 0 ++ [x]) (65536 ^ b * x) :=
  ⟨shf_ok b (fun y hy => by rw [List.mem_singleton.1 hy]; omega), trim_snoc_ne _ (by omega), by rw [shf_val]; simp [val]⟩
end Go.Proofs.Ytcbmecnipldcfaa
namespace Go.Proofs.Ytcbmecnipldcfaa
open Go.RowKit
set_option linter.unusedVariables false
set_option maxRecDepth 100000
set_option linter.unusedSimpArgs false

theorem floor_cross {a b c d : Int} (hb : 0 < b) (hd : 0 < d) (e : a * d = c * b) : a / b = c / d := by
  have h1 : ∀ {a b c d : Int}, 0 < b → 0 < d → a * d = c * b → a / b ≤ c / d := by
    intro a b c d hb hd e
    refine Int.le_ediv_of_mul_le hd ?_
    have h := Int.mul_le_mul_of_nonneg_right (Int.ediv_mul_le a (Int.ne_of_gt hb)) (Int.le_of_lt hd)
    rw [e] at h
    have h2 : (a / b * d) * b ≤ c * b := by rw [Int.mul_right_comm]; exact h
    exact Int.le_of_mul_le_mul_right h2 hb
  exact Int.le_antisymm (h1 hb hd e) (h1 hd hb e.symm)
/-- The whole root. -/
structure Rt (n r : Int) : Prop where
  nn : 0 ≤ r
  lo : r * r ≤ n
  hi : n < (r + 1) * (r + 1)
theorem sq_lt {a b : Int} (ha : 0 ≤ a) (h : a * a < b * b) (hb : 0 ≤ b) : a < b := by
  refine Int.not_le.1 fun hc => ?_
  have := Int.mul_le_mul hc hc hb ha
  omega
theorem Rt.same {n r s : Int} (h : Rt n r) (k : Rt n s) : r = s := by
  have h1 := sq_lt h.nn (show r * r < (s + 1) * (s + 1) by have := h.lo; have := k.hi; omega) (by have := k.nn; omega)
  have h2 := sq_lt k.nn (show s * s < (r + 1) * (r + 1) by have := k.lo; have := h.hi; omega) (by have := h.nn; omega)
  omega
theorem newton_hi {n g : Int} (hn : 0 ≤ n) (hg : 0 < g) : n < ((g + n / g) / 2 + 1) * ((g + n / g) / 2 + 1) := by
  have h1 := Int.lt_mul_ediv_self_add (x := n) hg
  have h1 : n < g * (n / g + 1) := by rw [Int.mul_add, Int.mul_one]; exact h1
  have hq : 0 ≤ n / g := Int.ediv_nonneg hn (Int.le_of_lt hg)
  generalize n / g = q at *
  have h2 : g + q + 1 ≤ 2 * ((g + q) / 2 + 1) := by omega
  generalize (g + q) / 2 + 1 = m at *
  have h3 : (g + q + 1) * (g + q + 1) ≤ (2 * m) * (2 * m) := Int.mul_le_mul h2 h2 (by omega) (by omega)
  have h4 : 0 ≤ (g - (q + 1)) * (g - (q + 1)) := by
    rcases Int.le_total 0 (g - (q + 1)) with h | h
    · exact Int.mul_nonneg h h
    · exact Int.mul_nonneg_of_nonpos_of_nonpos h h
  grind
theorem newton_lo {n g : Int} (hg : 0 < g) (h : g ≤ (g + n / g) / 2) : g * g ≤ n := by
  have h1 : g ≤ n / g := by omega
  have h2 := Int.mul_le_mul_of_nonneg_left h1 (Int.le_of_lt hg)
  have h3 := Int.mul_ediv_self_le (x := n) (k := g) (Int.ne_of_gt hg)
  omega
theorem two_bd (n : Nat) : Bd (2 ^ n) (n / 16 + 1) := ⟨by
  rw [Int.natAbs_pow]
  show 2 ^ n < 65536 ^ (n / 16 + 1)
  rw [show (65536 : Nat) = 2 ^ 16 from rfl, ← Nat.pow_mul]
  exact Nat.pow_lt_pow_right (by omega) (by omega)⟩
theorem two_pos (n : Nat) : (0 : Int) < 2 ^ n := Int.pow_pos (by omega)
/-- The box of the power so far. -/
structure Pw (w wr : World) (G : Nat) (x : BV) (V : Int) : Prop where
  c0 : wr.cell? ⟨G, 0, none⟩ = some (.bool x.g)
  c1 : wr.cell? ⟨G, 1, none⟩ = some (.slice x.a x.n x.c)
  f1 : ∀ o, wr.frozen? ⟨G, o, none⟩ = false
  r0 : wr.cell? ⟨w.heap.size, 0, none⟩ = some (.bool false)
  r1 : wr.cell? ⟨w.heap.size, 1, none⟩ = some (.slice none 0 0)
  fr : ∀ o, wr.frozen? ⟨w.heap.size, o, none⟩ = false
  ow : Ow (w.heap.size + 1) wr.heap.size wr x V
  bel : Below w.heap.size w wr
  gt : w.heap.size < G
theorem Pw.later {w wr wy : World} {G : Nat} {x : BV} {V : Int} (h : Pw w wr G x V) (hb : Below wr.heap.size wr wy) : Pw w wy G x V :=
  ⟨cell_later hb h.c0, cell_later hb h.c1, fun o => frozen_later hb (World.block_lt_of_cell? _ _ h.c0) (h.f1 o), cell_later hb h.r0, cell_later hb h.r1, fun o => frozen_later hb (World.block_lt_of_cell? _ _ h.r0) (h.fr o), (h.ow.later hb).wide (Nat.le_refl _) hb.size, below_on h.bel hb, h.gt⟩
/-- Limbs lie in no box whose first cell is a bool. -/
theorem Ow.bx {lo hi F : Nat} {w w' : World} {b : BV} {V : Int} {g : Bool} (h : Ow lo hi w b V) (hb : But F (F + 1) w w') (hc : w.cell? ⟨F, 0, none⟩ = some (.bool g)) : Ow lo hi w' b V := by
  obtain ⟨xs, k1, k2, k3⟩ := h
  have o : AllOwn lo hi w' [(b, ⟨decide (V < 0), xs⟩)] := ⟨fun p hp => by
    have hp := List.mem_singleton.1 hp
    subst hp
    have q := k1.own _ (List.mem_singleton.2 rfl)
    refine ⟨q.sg, ?_, q.len⟩
    rcases q.own with e | ⟨bb, cur, ea, h1, h2, hg, hx⟩
    · exact .inl e
    · by_cases hx0 : xs = []
      · exact .inl hx0
      refine .inr ⟨bb, cur, ea, h1, h2, (hb.block bb (Array.getElem?_eq_some_iff.1 hg).1 ?_).trans hg, hx⟩
      have hne : bb ≠ F := fun e => by
        subst e
        have h0 := hx 0 (by have := List.length_pos_iff.2 hx0; exact this)
        have h3 : w.cell? ⟨bb, 0, none⟩ = some (.int .i64 (xs.getD 0 0)) := by
          simp only [World.cell?, hg]
          simpa using h0
        rw [h3] at hc
        cases hc
      omega, List.pairwise_singleton _ _⟩
  exact ⟨xs, o, fun p hp => ⟨(k2 p hp).sg, ⟨(o.sl p hp).sl, (k2 p hp).ar.len, (k2 p hp).ar.cap, (k2 p hp).ar.top, (k2 p hp).ar.addr⟩⟩, k3⟩
theorem Pw.set {w wr : World} {G : Nat} {x y : BV} {V V' : Int} (h : Pw w wr G x V) (k : Ow (w.heap.size + 1) wr.heap.size wr y V') : Pw w ((wr.setCell ⟨G, 0, none⟩ (.bool y.g)).setCell ⟨G, 1, none⟩ (.slice y.a y.n y.c)) G y V' := by
  have hb := metB_but (w5 := wr) (v := y) (G := G)
  have hg := h.gt
  refine ⟨by simp [go_sem, h.c0, h.c1], by simp [go_sem, h.c0, h.c1], fun o => by simp [go_sem, h.f1 o], cs_other (cs_other h.r0 (by omega)) (by omega), cs_other (cs_other h.r1 (by omega)) (by omega), fun o => by simp [go_sem, h.fr o], (k.bx hb h.c0).wide (Nat.le_refl _) hb.size, hb.below h.bel (by omega) h.bel.size, h.gt⟩

set_option maxHeartbeats 4000000 in
theorem powS (n : Nat) (w : World) (hn : n ≤ 100000) : Calls Try.prog 62 #[.int .i64 n] w (OutN w (2 ^ n)) := by
  have B0 := hide (show Below w.heap.size w (w.alloc (.cells #[.bool false, .slice none 0 0] 24)) from ((Below.refl _ _).alloc (by simp) _))
  go_enter Try.func62, Try.ntmps62
  go_wp2_with fail
  refine (ofS_v 1 _ (by omega) (by omega)).mono ?_
  rintro e w1 ⟨x1, l1, rfl, hb, o1, a1, n1⟩
  have s1 : w.heap.size + 1 ≤ w1.heap.size := by have := hb.size; simp at this; omega
  replace o1 := o1.wide (lo' := w.heap.size + 1) (by simp) (Nat.le_refl _)
  have k0_0 : w1.cell? ⟨w.heap.size, 0, none⟩ = some (.bool false) := cell_later hb (by simp [go_sem])
  have k0_1 : w1.cell? ⟨w.heap.size, 1, none⟩ = some (.slice none 0 0) := cell_later hb (by simp [go_sem])
  have z0 : ∀ o, w1.frozen? ⟨w.heap.size, o, none⟩ = false := fun o => frozen_later hb (by simp) (by simp [go_sem])
  have P1 := hide (outN_ow o1 a1 n1)
  have HB := hide (below_on (unhide B0) hb)
  clear hb
  clear o1 a1 n1
  go_upto_region 2 with fail
  have hb : Below w1.heap.size w1 (w1.alloc (.cells #[.bool x1.g, .slice x1.a x1.n x1.c] 24)) := ((Below.refl _ _).alloc (by simp) _)
  replace k0_0 : (w1.alloc (.cells #[.bool x1.g, .slice x1.a x1.n x1.c] 24)).cell? ⟨w.heap.size, 0, none⟩ = some (.bool false) := (ca_other k0_0)
  replace k0_1 : (w1.alloc (.cells #[.bool x1.g, .slice x1.a x1.n x1.c] 24)).cell? ⟨w.heap.size, 1, none⟩ = some (.slice none 0 0) := (ca_other k0_1)
  have k1_0 : (w1.alloc (.cells #[.bool x1.g, .slice x1.a x1.n x1.c] 24)).cell? ⟨w1.heap.size, 0, none⟩ = some (.bool x1.g) := by simp [go_sem]
  have k1_1 : (w1.alloc (.cells #[.bool x1.g, .slice x1.a x1.n x1.c] 24)).cell? ⟨w1.heap.size, 1, none⟩ = some (.slice x1.a x1.n x1.c) := by simp [go_sem]
  replace z0 : ∀ o, (w1.alloc (.cells #[.bool x1.g, .slice x1.a x1.n x1.c] 24)).frozen? ⟨w.heap.size, o, none⟩ = false := fun o => frozen_later hb (by omega) (z0 o)
  have z1 : ∀ o, (w1.alloc (.cells #[.bool x1.g, .slice x1.a x1.n x1.c] 24)).frozen? ⟨w1.heap.size, o, none⟩ = false := fun o => by simp [go_sem]
  replace P1 := hide ((unhide P1).later hb)
  replace HB := hide (below_on (unhide HB) hb)
  have szw2 := hb.size
  clear hb
  generalize (w1.alloc (.cells #[.bool x1.g, .slice x1.a x1.n x1.c] 24)) = w2 at *
  have P0 : Hid (Pw w w2 w1.heap.size x1 1) := hide ⟨k1_0, k1_1, z1, k0_0, k0_1, z0, (unhide P1).wide (by omega) (by omega), unhide HB, by omega⟩
  clear k1_0 k1_1 z1 k0_0 k0_1 z0 P1 HB
  obtain ⟨G, hG⟩ : ∃ G, G = w1.heap.size := ⟨_, rfl⟩
  rw [← hG] at P0
  rw [← hG]
  clear hG szw2 s1
  go_wp2
  go_loopw [0] (fun iv wr => ∃ (i : Nat) (x : BV), i ≤ n ∧ iv = .int .i64 ((n : Int) - (i : Int)) ∧ Hid (Pw w wr G x (2 ^ i))) (fun iv _ => (intOf iv).toNat)
  case atStart => exact ⟨0, x1, Nat.zero_le _, by simp, P0⟩
  case round =>
    obtain ⟨i, x, hi, rfl, PW⟩ := hrel
    clear P0
    by_cases hlt : i < n
    · have hlt' : 0 < (n : Int) - (i : Int) := by omega
      have p0 := (unhide PW).c0
      have p1 := (unhide PW).c1
      go_wp2_with fail
      refine (addS_v x x _ _ _ (unhide PW).ow.is (unhide PW).ow.is ((two_bd i).mono (by omega)) ((two_bd i).mono (by omega))).mono ?_
      rintro e w3 ⟨y, ys, rfl, hb, oy, ay, ny⟩
      have PY := hide ((unhide PW).later hb)
      have OY := hide ((outN_ow oy ay ny).wide (lo' := w.heap.size + 1) (by have hGl : G < wr.heap.size := World.block_lt_of_cell? _ _ (unhide PW).c0; have := (unhide PW).gt; omega) (Nat.le_refl _))
      clear p0 p1 oy ay ny hb PW
      have p0 := (unhide PY).c0
      have p1 := (unhide PY).c1
      have pf := (unhide PY).f1
      have PS := hide ((unhide PY).set (unhide OY))
      go_wp2
      go_roundw
      case rel => exact ⟨i + 1, y, hlt, by go_num, hide (by have h := unhide PS; rw [show (2 : Int) ^ i + 2 ^ i = 2 ^ (i + 1) by rw [Int.pow_succ]; omega] at h; exact h)⟩
      case measure => simp [intOf]; omega
    · obtain rfl : i = n := by omega
      have hlt' : ¬ 0 < (i : Int) - (i : Int) := by omega
      have p0 := (unhide PW).c0
      have p1 := (unhide PW).c1
      have k0_0 := (unhide PW).r0
      have k0_1 := (unhide PW).r1
      have z0 := (unhide PW).fr
      go_wp2
      refine bodyPost_ret (v := .agg #[.bool x.g, .slice x.a x.n x.c]) (by simp [results, Try.results62, go_sem, k0_0, k0_1]) rfl ?_
      obtain ⟨xs, o1, o2, o3⟩ := (unhide PW).ow
      exact outN_fin (b := x) (R := w.heap.size) (Nat.le_refl _) (unhide PW).bel (metB_but (w5 := wr) (v := x) (G := w.heap.size)) o1 o2 o3
theorem pow_small (n : Nat) : 0 < wrap64 (2 ^ (n % 16)) ∧ wrap64 (2 ^ (n % 16)) ≤ 65535 ∧ 65536 ^ (n / 16) * wrap64 (2 ^ (n % 16)) = 2 ^ n := by
  have h1 : n % 16 < 16 := Nat.mod_lt _ (by omega)
  have h3 : (2 : Int) ^ (n % 16) ≤ 2 ^ 15 := by exact_mod_cast Nat.pow_le_pow_right (show 0 < 2 by omega) (show n % 16 ≤ 15 by omega)
  have h4 := two_pos (n % 16)
  have h2 : wrap64 (2 ^ (n % 16)) = 2 ^ (n % 16) := by unfold wrap64; omega
  rw [h2]
  refine ⟨h4, by omega, ?_⟩
  rw [show (65536 : Int) = 2 ^ 16 from rfl, ← Int.pow_mul, ← Int.pow_add]
  congr 1
  omega
theorem bitsI (n : Int) (w : World) : Calls Try.prog 68 #[.int .i64 n] w fun e w' => e = .returned (.bool (decide (0 ≤ n) && decide (n ≤ 64))) ∧ w' = w := by
  by_cases h : 0 ≤ n
  · have h1 : decide (0 ≤ n) = true := decide_eq_true h
    go_enter Try.func68, Try.ntmps68
    go_wp2
    go_ret
    exact ⟨by simp [h1], rfl⟩
  · have h1 : decide (0 ≤ n) = false := decide_eq_false h
    go_enter Try.func68, Try.ntmps68
    go_wp2
    go_ret
    exact ⟨by simp [h1], rfl⟩

set_option maxHeartbeats 4000000 in
theorem powI (n : Nat) (w : World) (hn : n ≤ 64) : Calls Try.prog 71 #[.int .i64 n] w (OutN w (2 ^ n)) := by
  have B0 := hide (show Below w.heap.size w (w.alloc (.cells #[.bool false, .slice none 0 0] 24)) from ((Below.refl _ _).alloc (by simp) _))
  go_enter Try.func71, Try.ntmps71
  have hk := hide (pow_small n)
  obtain ⟨x, hxe⟩ : ∃ x, x = wrap64 (2 ^ (n % 16)) := ⟨_, rfl⟩
  rw [← hxe] at hk
  have HA : Hid (Arg ((w.alloc (.cells #[.bool false, .slice none 0 0] 24)).alloc (.cells #[.int .i64 x] 3)) (some ⟨w.heap.size + 1, 0, none⟩) 1 1 [x]) := hide (by have h := (one_arg (w.alloc (.cells #[.bool false, .slice none 0 0] 24)) x).1; simpa using h)
  go_wp2_with fail
  rw [← hxe]
  refine (shfI' (some ⟨w.heap.size + 1, 0, none⟩) 1 1 _ (n / 16) (by omega) [x] _ (unhide HA) (fun y hy => by rw [List.mem_singleton.1 hy]; have := unhide hk; omega) (by omega) (by omega)).mono ?_
  rintro e w1 ⟨a1, c1, rfl, hb, ho, ha⟩
  have s1 : w.heap.size + 1 + 1 ≤ w1.heap.size := by have := hb.size; simp at this; omega
  have k0_0 : w1.cell? ⟨w.heap.size, 0, none⟩ = some (.bool false) := cell_later hb (by simp [go_sem])
  have k0_1 : w1.cell? ⟨w.heap.size, 1, none⟩ = some (.slice none 0 0) := cell_later hb (by simp [go_sem])
  have z0 : ∀ o, w1.frozen? ⟨w.heap.size, o, none⟩ = false := fun o => frozen_later hb (by simp; omega) (by simp [go_sem])
  have NM : Hid (Nm (List.replicate (n / 16) 0 ++ [x]) (2 ^ n)) := hide (by have h := shf_nm (n / 16) (x := x) (unhide hk).1 (unhide hk).2.1; rw [(unhide hk).2.2] at h; exact h)
  have HO := hide (And.intro (ho.two) ha)
  have HB := hide (below_on (unhide B0) (ba hb))
  obtain ⟨zs, hzs⟩ : ∃ zs, zs = List.replicate (n / 16) 0 ++ [x] := ⟨_, rfl⟩
  rw [← hzs] at NM HO
  clear hb ho ha HA B0 hk hxe hzs
  go_wp2_with fail
  refine (signI_v false a1 (n / 16 + 1) c1 zs w1 _ _ (2 ^ n) (unhide HO).2 (unhide HO).1 (unhide NM)).mono ?_
  rintro e w2 ⟨b, rfl, hb, ob, ab⟩
  replace z0 := fun o => frozen_later hb (World.block_lt_of_cell? _ _ k0_0) (z0 o)
  replace k0_0 := cell_later hb k0_0
  replace k0_1 := cell_later hb k0_1
  have s2 := hb.size
  have HF := hide (And.intro (below_on (unhide HB) hb) (And.intro ob ab))
  clear hb ob ab HO HB
  go_wp2
  refine bodyPost_ret (v := .agg #[.bool b.g, .slice b.a b.n b.c]) (by simp [results, Try.results71, go_sem, k0_0, k0_1]) rfl ?_
  exact outN_fin (b := b) (R := w.heap.size) (xs := zs) (Nat.le_refl _) (unhide HF).1 (metB_but (w5 := w2) (v := b) (G := w.heap.size)) ((unhide HF).2.1.wide (by simp) (by omega)) (unhide HF).2.2 (by rw [Int.natAbs_of_nonneg (Int.le_of_lt (two_pos n))]; exact unhide NM)
end Go.Proofs.Ytcbmecnipldcfaa
namespace Go.Proofs.Ytcbmecnipldcfaa
open Go.RowKit
set_option linter.unusedVariables false
set_option maxRecDepth 100000
set_option linter.unusedSimpArgs false

theorem nm_nonneg {zs : List Int} {V : Int} (h : Nm zs V) : Nm zs V.natAbs := by rw [Int.natAbs_of_nonneg h.nonneg]; exact h
theorem nm_bd {zs : List Int} {V : Int} (h : Nm zs V) : Bd V zs.length := (nm_nonneg h).bd (Nat.le_refl _)
theorem start_hi {xs : List Int} {V : Int} (h : Nm xs V) : V < (65536 ^ ((xs.length + 1) / 2) * 1 + 1) * (65536 ^ ((xs.length + 1) / 2) * 1 + 1) := by
  have h1 := val_lt h.ok
  rw [h.v] at h1
  have h2 : (65536 : Int) ^ xs.length ≤ 65536 ^ ((xs.length + 1) / 2) * 65536 ^ ((xs.length + 1) / 2) := by
    rw [← Int.pow_add]
    have h := Int.ofNat_le.2 (Nat.pow_le_pow_right (show 0 < 65536 by omega) (show xs.length ≤ (xs.length + 1) / 2 + (xs.length + 1) / 2 by omega))
    rw [Int.natCast_pow, Int.natCast_pow] at h
    exact h
  have h3 : (0 : Int) < 65536 ^ ((xs.length + 1) / 2) := Int.pow_pos (by omega)
  generalize (65536 : Int) ^ ((xs.length + 1) / 2) = g at *
  generalize (65536 : Int) ^ xs.length = t at *
  rw [Int.mul_one]
  have : (g + 1) * (g + 1) = g * g + (2 * g + 1) := by grind
  omega
set_option maxHeartbeats 4000000 in
theorem rootL (a : Option Addr) (n c : Nat) (xs : List Int) (V : Int) (w : World) (hx : Arg w a n c xs) (hv : Nm xs V) (h1 : n ≤ 100000) :
    Calls Try.prog 105 #[.slice a n c] w fun e w' => ∃ r, Rt V r ∧ Out w r e w' := by
  have HN := hide hx.len
  have HX := hide hx
  have HV := hide hv
  clear hx hv
  by_cases h0 : n = 0
  · subst h0
    have ex : xs = [] := List.length_eq_zero_iff.1 (unhide HN)
    have eV : V = 0 := (unhide HV).nil_iff.1 ex
    subst eV
    go_enter Try.func105, Try.ntmps105
    go_wp2
    go_ret
    exact ⟨0, ⟨Int.le_refl _, by decide, by decide⟩, none, 0, 0, [], rfl, Below.refl _ _, Own.nil _ _ _, Arg.none _, Nm.zero⟩
  · have hV : Hid (0 < V) := hide (by
      have h2 := (unhide HV).nonneg
      have h3 : V ≠ 0 := fun e => h0 (by have := (unhide HV).nil_iff.2 e; rw [← unhide HN, this]; rfl)
      omega)
    have hd0 : ((n : Int) == 0) = false := by simp; omega
    go_enter Try.func105, Try.ntmps105
    go_wp2_with fail
    refine (shfI' (some ⟨w.heap.size, 0, none⟩) 1 1 _ ((n + 1) / 2) (by omega) [1] _ (one_arg w 1).1 (fun y hy => by rw [List.mem_singleton.1 hy]; omega) (by omega) (by omega)).mono ?_
    rintro e w1 ⟨a1, c1, rfl, hb1, ho1, ha1⟩
    have HB1 := hide (ba hb1)
    have HG := hide (And.intro (ho1.mono (base' := w.heap.size) (by simp)) (And.intro ha1 (shf_nm ((n + 1) / 2) (x := 1) (by omega) (by omega))))
    have HX1 := hide ((unhide HX).later (unhide HB1))
    clear hb1 ho1 ha1 HX
    go_wp2
    go_loopw [3] (fun gv wr => ∃ (a1 : Option Addr) (n1 c1 : Nat) (gs : List Int) (g : Int), gv = .slice a1 n1 c1 ∧ n1 ≤ 100001 ∧ 1 ≤ n1 ∧ Hid (Own w.heap.size wr a1 gs ∧ Arg wr a1 n1 c1 gs ∧ Nm gs g) ∧ Hid (0 < g ∧ V < (g + 1) * (g + 1)) ∧ Hid (Arg wr a n c xs) ∧ Hid (Below w.heap.size w wr)) (fun gv wr => (val (rd wr gv)).toNat)
    case atStart => exact ⟨a1, _, c1, _, _, rfl, by omega, by omega, HG, hide ⟨by rw [Int.mul_one]; exact Int.pow_pos (by omega), by have h := start_hi (unhide HV); rw [unhide HN] at h; exact h⟩, HX1, HB1⟩
    case round =>
      clear HG HX1 HB1
      obtain ⟨a1, n1, c1, gs, g, rfl, hn1, hp1, HG, HL, HX, HB⟩ := hrel
      go_wp2_with fail
      refine (divI_any a a1 n n1 c c1 xs gs wr (unhide HX) (unhide HG).2.1 (unhide HV).ok (unhide HV).tr (unhide HG).2.2.ok (unhide HG).2.2.tr hp1 (by omega) (by omega)).mono ?_
      rintro e w2 ⟨a3, n3, c3, qs, a4, n4, c4, rs, rfl, hb2, oq, aq, mq, o4, ar4, m4, _⟩
      rw [(unhide HV).v, (unhide HG).2.2.v] at mq
      have hn3 : n3 ≤ n := by
        rw [← aq.len, ← unhide HN]
        exact (nm_nonneg mq).len_le ((nm_bd (unhide HV)).le (by
          have h1 := mq.nonneg
          have h2 := Int.ediv_le_self g (unhide HV).nonneg
          omega))
      have HQ := hide (And.intro aq mq)
      have HG2 : Hid (Own w.heap.size w2 a1 gs ∧ Arg w2 a1 n1 c1 gs ∧ Nm gs g) := hide ⟨(unhide HG).1.later hb2, (unhide HG).2.1.later hb2, (unhide HG).2.2⟩
      have HX2 := hide ((unhide HX).later hb2)
      have HB2 := hide (below_on (unhide HB) hb2)
      have HM := hide (rd_arg (unhide HG).2.1)
      clear hb2 oq aq mq o4 ar4 m4 HG HX HB
      go_wp2_with fail
      refine (addI_any a1 a3 n1 n3 c1 c3 gs qs w2 (unhide HG2).2.1 (unhide HQ).1 (unhide HG2).2.2.ok (unhide HQ).2.ok (by omega) (by omega)).mono ?_
      rintro e w3 ⟨a5, n5, c5, ss, rfl, hb3, o5, ar5, m5⟩
      rw [(unhide HG2).2.2.v, (unhide HQ).2.v] at m5
      have hn5 : n5 ≤ n1 + n + 1 := by
        rw [← ar5.len]
        have b1 : Bd g (n1 + n) := (nm_bd (unhide HG2).2.2).mono (by rw [(unhide HG2).2.1.len]; omega)
        have b2 : Bd (V / g) (n1 + n) := (nm_bd (unhide HQ).2).mono (by rw [(unhide HQ).1.len]; omega)
        exact (nm_nonneg m5).len_le (b1.add b2)
      have HS := hide (And.intro ar5 m5)
      have HG3 : Hid (Own w.heap.size w3 a1 gs ∧ Arg w3 a1 n1 c1 gs ∧ Nm gs g) := hide ⟨(unhide HG2).1.later hb3, (unhide HG2).2.1.later hb3, (unhide HG2).2.2⟩
      have HX3 := hide ((unhide HX2).later hb3)
      have HB3 := hide (below_on (unhide HB2) hb3)
      clear hb3 o5 ar5 m5 HG2 HX2 HB2 HQ
      go_wp2_with fail
      refine (divInt_any a5 n5 c5 ss 2 w3 (unhide HS).1 (unhide HS).2.ok (by omega) (by omega) (by omega)).mono ?_
      rintro e w4 ⟨a6, n6, c6, ns, rfl, hb4, o6, ar6, m6⟩
      rw [(unhide HS).2.v] at m6
      obtain ⟨z, hz⟩ : ∃ z, z = val ss % 2 := ⟨_, rfl⟩
      rw [← hz]
      clear hz
      have HT : Hid (Own w.heap.size w4 a6 ns ∧ Arg w4 a6 n6 c6 ns ∧ Nm ns ((g + V / g) / 2)) := hide ⟨o6.mono (unhide HB3).size, ar6, m6⟩
      have HG4 : Hid (Own w.heap.size w4 a1 gs ∧ Arg w4 a1 n1 c1 gs ∧ Nm gs g) := hide ⟨(unhide HG3).1.later hb4, (unhide HG3).2.1.later hb4, (unhide HG3).2.2⟩
      have HX4 := hide ((unhide HX3).later hb4)
      have HB4 := hide (below_on (unhide HB3) hb4)
      clear hb4 o6 ar6 m6 HG3 HX3 HB3 HS
      have HC := hide (cmpL_val (unhide HT).2.2.ok (unhide HG4).2.2.ok (unhide HT).2.2.tr (unhide HG4).2.2.tr)
      rw [(unhide HT).2.2.v, (unhide HG4).2.2.v] at HC
      by_cases hc : (g + V / g) / 2 < g
      · have hd : decide (0 ≤ cmpL ns gs) = false := by have := (unhide HC).1.2 hc; rw [decide_eq_false_iff_not]; omega
        go_wp2_with fail
        refine (cmpI_any a6 a1 n6 n1 c6 c1 ns gs w4 (unhide HT).2.1.sl (unhide HG4).2.1.sl (unhide HT).2.1.len (unhide HG4).2.1.len (Nat.le_trans (unhide HT).2.1.cap (unhide HT).2.1.top) (Nat.le_trans (unhide HG4).2.1.cap (unhide HG4).2.1.top)).mono ?_
        rintro e w5 ⟨rfl, hb5⟩
        have HP : Hid (0 < (g + V / g) / 2 ∧ V < ((g + V / g) / 2 + 1) * ((g + V / g) / 2 + 1)) := hide (by
          have k := newton_hi (n := V) (Int.le_of_lt (unhide hV)) (unhide HL).1
          have k0 := (unhide HT).2.2.nonneg
          refine ⟨?_, k⟩
          rcases Int.lt_or_eq_of_le k0 with h | h
          · exact h
          · rw [← h] at k; have := unhide hV; omega)
        have hn6 : n6 ≤ n1 := by
          rw [← (unhide HT).2.1.len, ← (unhide HG4).2.1.len]
          exact (nm_nonneg (unhide HT).2.2).len_le ((nm_bd (unhide HG4).2.2).le (by have := (unhide HT).2.2.nonneg; omega))
        have hp6 : 1 ≤ n6 := by
          have h1 := (unhide HT).2.1.len
          have h2 := (unhide HT).2.2.nil_iff
          have h3 := (unhide HP).1
          rcases Nat.eq_zero_or_pos n6 with h | h
          · rw [h] at h1; have := h2.1 (List.length_eq_zero_iff.1 h1); omega
          · omega
        have HT5 : Hid (Own w.heap.size w5 a6 ns ∧ Arg w5 a6 n6 c6 ns ∧ Nm ns ((g + V / g) / 2)) := hide ⟨(unhide HT).1.later hb5, (unhide HT).2.1.later hb5, (unhide HT).2.2⟩
        have HX5 := hide ((unhide HX4).later hb5)
        have HB5 := hide (below_on (unhide HB4) hb5)
        have HM2 : Hid ((val (rd w5 (.slice a6 n6 c6))).toNat < (val (rd wr (.slice a1 n1 c1))).toNat) := hide (by
          rw [rd_arg (unhide HT5).2.1, unhide HM, (unhide HT5).2.2.v, (unhide HG4).2.2.v]
          have := (unhide HT5).2.2.nonneg
          omega)
        clear hb5 HT HG4 HX4 HB4 HM HC
        go_wp2
        go_roundw
        case rel => exact ⟨a6, n6, c6, ns, _, rfl, by omega, hp6, HT5, HP, HX5, HB5⟩
        case measure => exact unhide HM2
      · have hd : decide (0 ≤ cmpL ns gs) = true := by have := (unhide HC).1; rw [decide_eq_true_eq]; omega
        go_wp2_with fail
        refine (cmpI_any a6 a1 n6 n1 c6 c1 ns gs w4 (unhide HT).2.1.sl (unhide HG4).2.1.sl (unhide HT).2.1.len (unhide HG4).2.1.len (Nat.le_trans (unhide HT).2.1.cap (unhide HT).2.1.top) (Nat.le_trans (unhide HG4).2.1.cap (unhide HG4).2.1.top)).mono ?_
        rintro e w5 ⟨rfl, hb5⟩
        have HF : Hid (Below w.heap.size w w5 ∧ Own w.heap.size w5 a1 gs ∧ Arg w5 a1 n1 c1 gs ∧ Nm gs g) := hide ⟨below_on (unhide HB4) hb5, (unhide HG4).1.later hb5, (unhide HG4).2.1.later hb5, (unhide HG4).2.2⟩
        clear hb5 HT HG4 HX4 HB4 HM HC
        go_wp2
        go_ret
        exact ⟨g, ⟨Int.le_of_lt (unhide HL).1, newton_lo (unhide HL).1 (by omega), (unhide HL).2⟩, a1, n1, c1, gs, rfl, (unhide HF).1, (unhide HF).2.1, (unhide HF).2.2.1, (unhide HF).2.2.2⟩
end Go.Proofs.Ytcbmecnipldcfaa
namespace Go.Proofs.Ytcbmecnipldcfaa
open Go.RowKit
set_option linter.unusedVariables false
set_option maxRecDepth 100000
set_option linter.unusedSimpArgs false

theorem low_cross2 {N D : Int} (h : D ≠ 0) : lowN N D * D = N * lowD N D := by
  by_cases hD : 0 < D
  · exact low_cross hD
  · have hD : D < 0 := by omega
    have hg := gcd_pos_right (N := N) h
    have d1 : ((Nat.gcd N.natAbs D.natAbs : Nat) : Int) ∣ (N.natAbs : Int) := by exact_mod_cast Nat.gcd_dvd_left _ _
    have d2 : ((Nat.gcd N.natAbs D.natAbs : Nat) : Int) ∣ (D.natAbs : Int) := by exact_mod_cast Nat.gcd_dvd_right _ _
    have m1 := Int.ediv_mul_cancel d1
    have m2 := Int.ediv_mul_cancel d2
    unfold lowN lowD lowU sU
    generalize (N.natAbs : Int) / ((Nat.gcd N.natAbs D.natAbs : Nat) : Int) = a at *
    generalize (D.natAbs : Int) / ((Nat.gcd N.natAbs D.natAbs : Nat) : Int) = b at *
    generalize ((Nat.gcd N.natAbs D.natAbs : Nat) : Int) = g at *
    rw [decide_eq_true hD]
    have hD : D = -(b * g) := by omega
    by_cases c : N < 0
    · have hN : N = -(a * g) := by omega
      rw [decide_eq_true c, if_neg (by simp), hN, hD]
      simp only [Int.neg_mul, Int.mul_neg, Int.mul_comm, Int.mul_left_comm]
    · have hN : N = a * g := by omega
      rw [decide_eq_false c, if_pos (by rfl), hN, hD]
      simp only [Int.neg_mul, Int.mul_neg, Int.neg_neg, Int.mul_comm, Int.mul_left_comm]
theorem least_two' {x y : RQ} (hx : Low x.N x.D) (hy : Low y.N y.D) (h : y.N * x.D ≤ x.N * y.D) : ((stLo x y).N = y.N ∧ (stLo x y).D = y.D) ∧ ((stHi x y).N = x.N ∧ (stHi x y).D = x.D) := by
  unfold stLo stHi
  rw [if_neg (show ¬ x.N * y.D < y.N * x.D by omega)]
  refine ⟨?_, ⟨rfl, rfl⟩⟩
  by_cases c : y.N * x.D < x.N * y.D
  · rw [if_pos c]; exact ⟨rfl, rfl⟩
  · rw [if_neg c]; exact hx.same hy (by omega)
/-- 1 divided by the ends, in their order. -/
theorem inv_le {n m a b : Int} (ha : 0 < a) (hb : 0 < b) (h : n * b ≤ m * a) (hs : 0 < n * m) : lowN (1 * b) (1 * m) * lowD (1 * a) (1 * n) ≤ lowN (1 * a) (1 * n) * lowD (1 * b) (1 * m) := by
  rw [Int.one_mul, Int.one_mul, Int.one_mul, Int.one_mul]
  have hn : n ≠ 0 := fun e => by rw [e, Int.zero_mul] at hs; omega
  have hm : m ≠ 0 := fun e => by rw [e, Int.mul_zero] at hs; omega
  have c1 := low_cross2 (N := a) hn
  have c2 := low_cross2 (N := b) hm
  have p1 := lowD_pos (N := a) hn
  have p2 := lowD_pos (N := b) hm
  generalize lowN a n = n1 at *
  generalize lowN b m = n2 at *
  generalize lowD a n = d1 at *
  generalize lowD b m = d2 at *
  refine Int.le_of_mul_le_mul_right (a := n * m) ?_ hs
  have e1 : n2 * d1 * (n * m) = (n * b) * (d1 * d2) := by
    have : n2 * d1 * (n * m) = (n2 * m) * (d1 * n) := by simp only [Int.mul_comm, Int.mul_left_comm, Int.mul_assoc]
    rw [this, c2]; simp only [Int.mul_comm, Int.mul_left_comm, Int.mul_assoc]
  have e2 : n1 * d2 * (n * m) = (m * a) * (d1 * d2) := by
    have : n1 * d2 * (n * m) = (n1 * n) * (d2 * m) := by simp only [Int.mul_comm, Int.mul_left_comm, Int.mul_assoc]
    rw [this, c1]; simp only [Int.mul_comm, Int.mul_left_comm, Int.mul_assoc]
  rw [e1, e2]
  exact Int.mul_le_mul_of_nonneg_right h (Int.le_of_lt (Int.mul_pos p1 p2))
theorem inv_signs {n m a b : Int} (ha : 0 < a) (hb : 0 < b) (h : n * b ≤ m * a) (hs : ¬ (n ≤ 0 ∧ 0 ≤ m)) : 0 < n * m := by
  by_cases c : 0 < n
  · have h1 := Int.mul_pos c hb
    have h2 : 0 < m := by
      rcases Int.lt_or_le 0 m with h3 | h3
      · exact h3
      · have := Int.mul_le_mul_of_nonneg_right h3 (Int.le_of_lt ha); omega
    exact Int.mul_pos c h2
  · have h2 : m < 0 := by omega
    have h3 := Int.mul_neg_of_neg_of_pos h2 ha
    have h4 : n < 0 := by
      rcases Int.lt_or_le n 0 with h3 | h3
      · exact h3
      · have := Int.mul_le_mul_of_nonneg_right h3 (Int.le_of_lt hb); omega
    exact Int.mul_pos_of_neg_of_neg h4 h2
theorem invBd {w : World} {q : QV} {d : QD} (h : IsGood w q d) : Bd (lowN (1 * dQ d) (1 * nQ d)) 200000 ∧ Bd (lowD (1 * dQ d) (1 * nQ d)) 200000 := by
  rw [Int.one_mul, Int.one_mul]
  exact ⟨lowN_bd (h.kd.mono (by omega)), lowD_bd (h.kn.mono (by omega))⟩
theorem one_bd : Bd 1 100000 := (show Bd 1 1 from ⟨by decide⟩).mono (by omega)

end Go.Proofs.Ytcbmecnipldcfaa
namespace Go.Proofs.Ytcbmecnipldcfaa
open Go.RowKit
set_option linter.unusedVariables false
set_option maxRecDepth 100000
set_option linter.unusedSimpArgs false

/-- The upper end of a root's bounds. -/
def rHi (N D S r : Int) : Int × Int := if lowN (lowN r S * lowN r S) (lowD r S * lowD r S) * D = N * lowD (lowN r S * lowN r S) (lowD r S * lowD r S) then (lowN r S, lowD r S) else (lowN (r + 1) S, lowD (r + 1) S)
theorem rHi_eq {N D S r : Int} (h : lowN (lowN r S * lowN r S) (lowD r S * lowD r S) * D = N * lowD (lowN r S * lowN r S) (lowD r S * lowD r S)) : rHi N D S r = (lowN r S, lowD r S) := if_pos h
theorem rHi_ne {N D S r : Int} (h : ¬ lowN (lowN r S * lowN r S) (lowD r S * lowD r S) * D = N * lowD (lowN r S * lowN r S) (lowD r S * lowD r S)) : rHi N D S r = (lowN (r + 1) S, lowD (r + 1) S) := if_neg h
theorem cmpZ_e1 {A B : Int} (h : A = B) : (cmpZ A B == 0) = true := by unfold cmpZ; rw [if_neg (by omega), if_neg (by omega)]; rfl
theorem cmpZ_e0 {A B : Int} (h : ¬ A = B) : (cmpZ A B == 0) = false := by
  unfold cmpZ
  split
  · rfl
  · rw [if_pos (by omega)]; rfl
theorem root_bd {N D S r : Int} (hN : 0 ≤ N) (hD : 0 < D) (kN : Bd N 40) (kS : Bd S 5) (h : Rt (N * (S * S) / D) r) : Bd r 25 := by
  have h1 : N * (S * S) / D ≤ N * (S * S) := Int.ediv_le_self _ (Int.mul_nonneg hN (by rcases Int.le_total 0 S with h | h; exact Int.mul_nonneg h h; exact Int.mul_nonneg_of_nonpos_of_nonpos h h))
  have h2 := h.lo
  have h3 : (r * r).natAbs ≤ (N * (S * S)).natAbs := by
    have : 0 ≤ r * r := Int.mul_nonneg h.nn h.nn
    omega
  have h4 := ((kN.mul (kS.mul kS)).le h3).lt
  refine ⟨?_⟩
  rw [Int.natAbs_mul] at h4
  refine Nat.not_le.1 fun hc => ?_
  have h5 := Nat.mul_le_mul hc hc
  rw [← Nat.pow_add] at h5
  omega
theorem sq_bd {N D S : Int} (hD : 0 < D) (kN : Bd N 40) (kS : Bd S 5) : Bd (N * (S * S) / D) 50 := (kN.mul (kS.mul kS)).le (floor_abs hD).1

set_option maxHeartbeats 8000000 in
theorem rootB (q : QV) (b : BV) (N D S : Int) (w : World) (h : IsQ w q N D) (h' : IsB w b S) (hN : 0 ≤ N) (hD : 0 < D) (hS : 0 < S) (k1 : Bd N 40) (k2 : Bd D 40) (k3 : Bd S 5) :
    Calls Try.prog 70 #[.agg #[.bool q.num.g, .slice q.num.a q.num.n q.num.c, .bool q.den.g, .slice q.den.a q.den.n q.den.c], .agg #[.bool b.g, .slice b.a b.n b.c]] w fun e w' => ∃ r, Rt (N * (S * S) / D) r ∧ OutS w (lowN r S) (lowD r S) (rHi N D S r).1 (rHi N D S r).2 e w' := by
  have H1 := hide h
  have H2 := hide h'
  have HD := hide hD
  have HN := hide hN
  have HS := hide hS
  have KN := hide k1
  have KS := hide k3
  have K1 := hide (k1.mono (show 40 ≤ 400000 by omega))
  have K2 := hide (k2.mono (show 40 ≤ 400000 by omega))
  have K3 := hide (k3.mono (show 5 ≤ 400000 by omega))
  have K4 := hide ((k3.mul k3).mono (show 5 + 5 ≤ 400000 by omega))
  have K5 := hide ((k1.mul (k3.mul k3)).mono (show 40 + (5 + 5) ≤ 400000 by omega))
  have BQ := hide (sq_bd (S := S) hD k1 k3)
  have PQ : Hid (0 ≤ N * (S * S) / D) := hide (Int.ediv_nonneg (Int.mul_nonneg hN (Int.mul_nonneg (Int.le_of_lt hS) (Int.le_of_lt hS))) (Int.le_of_lt hD))
  have KD := hide k2
  clear h h' hD hN hS k1 k2 k3
  go_enter Try.func70, Try.ntmps70
  go_upto_region 1 with fail
  have hb : Below w.heap.size w (((w.alloc (.cells #[.bool q.num.g, .slice q.num.a q.num.n q.num.c, .bool q.den.g, .slice q.den.a q.den.n q.den.c] 38)).alloc (.cells #[.bool b.g, .slice b.a b.n b.c] 24)).alloc (.cells #[.bool false, .slice none 0 0, .bool false, .slice none 0 0, .bool false, .slice none 0 0, .bool false, .slice none 0 0] 49)) := ((((Below.refl _ _).alloc (by simp) _).alloc (by simp) _).alloc (by simp <;> omega) _)
  have k0_0 : (((w.alloc (.cells #[.bool q.num.g, .slice q.num.a q.num.n q.num.c, .bool q.den.g, .slice q.den.a q.den.n q.den.c] 38)).alloc (.cells #[.bool b.g, .slice b.a b.n b.c] 24)).alloc (.cells #[.bool false, .slice none 0 0, .bool false, .slice none 0 0, .bool false, .slice none 0 0, .bool false, .slice none 0 0] 49)).cell? ⟨w.heap.size, 0, none⟩ = some (.bool q.num.g) := by simp [go_sem]
  have k0_1 : (((w.alloc (.cells #[.bool q.num.g, .slice q.num.a q.num.n q.num.c, .bool q.den.g, .slice q.den.a q.den.n q.den.c] 38)).alloc (.cells #[.bool b.g, .slice b.a b.n b.c] 24)).alloc (.cells #[.bool false, .slice none 0 0, .bool false, .slice none 0 0, .bool false, .slice none 0 0, .bool false, .slice none 0 0] 49)).cell? ⟨w.heap.size, 1, none⟩ = some (.slice q.num.a q.num.n q.num.c) := by simp [go_sem]
  have k0_2 : (((w.alloc (.cells #[.bool q.num.g, .slice q.num.a q.num.n q.num.c, .bool q.den.g, .slice q.den.a q.den.n q.den.c] 38)).alloc (.cells #[.bool b.g, .slice b.a b.n b.c] 24)).alloc (.cells #[.bool false, .slice none 0 0, .bool false, .slice none 0 0, .bool false, .slice none 0 0, .bool false, .slice none 0 0] 49)).cell? ⟨w.heap.size, 2, none⟩ = some (.bool q.den.g) := by simp [go_sem]
  have k0_3 : (((w.alloc (.cells #[.bool q.num.g, .slice q.num.a q.num.n q.num.c, .bool q.den.g, .slice q.den.a q.den.n q.den.c] 38)).alloc (.cells #[.bool b.g, .slice b.a b.n b.c] 24)).alloc (.cells #[.bool false, .slice none 0 0, .bool false, .slice none 0 0, .bool false, .slice none 0 0, .bool false, .slice none 0 0] 49)).cell? ⟨w.heap.size, 3, none⟩ = some (.slice q.den.a q.den.n q.den.c) := by simp [go_sem]
  have k1_0 : (((w.alloc (.cells #[.bool q.num.g, .slice q.num.a q.num.n q.num.c, .bool q.den.g, .slice q.den.a q.den.n q.den.c] 38)).alloc (.cells #[.bool b.g, .slice b.a b.n b.c] 24)).alloc (.cells #[.bool false, .slice none 0 0, .bool false, .slice none 0 0, .bool false, .slice none 0 0, .bool false, .slice none 0 0] 49)).cell? ⟨w.heap.size + 1, 0, none⟩ = some (.bool b.g) := by simp [go_sem]
  have k1_1 : (((w.alloc (.cells #[.bool q.num.g, .slice q.num.a q.num.n q.num.c, .bool q.den.g, .slice q.den.a q.den.n q.den.c] 38)).alloc (.cells #[.bool b.g, .slice b.a b.n b.c] 24)).alloc (.cells #[.bool false, .slice none 0 0, .bool false, .slice none 0 0, .bool false, .slice none 0 0, .bool false, .slice none 0 0] 49)).cell? ⟨w.heap.size + 1, 1, none⟩ = some (.slice b.a b.n b.c) := by simp [go_sem]
  have k2_0 : (((w.alloc (.cells #[.bool q.num.g, .slice q.num.a q.num.n q.num.c, .bool q.den.g, .slice q.den.a q.den.n q.den.c] 38)).alloc (.cells #[.bool b.g, .slice b.a b.n b.c] 24)).alloc (.cells #[.bool false, .slice none 0 0, .bool false, .slice none 0 0, .bool false, .slice none 0 0, .bool false, .slice none 0 0] 49)).cell? ⟨w.heap.size + 1 + 1, 0, none⟩ = some (.bool false) := by simp [go_sem]
  have k2_1 : (((w.alloc (.cells #[.bool q.num.g, .slice q.num.a q.num.n q.num.c, .bool q.den.g, .slice q.den.a q.den.n q.den.c] 38)).alloc (.cells #[.bool b.g, .slice b.a b.n b.c] 24)).alloc (.cells #[.bool false, .slice none 0 0, .bool false, .slice none 0 0, .bool false, .slice none 0 0, .bool false, .slice none 0 0] 49)).cell? ⟨w.heap.size + 1 + 1, 1, none⟩ = some (.slice none 0 0) := by simp [go_sem]
  have k2_2 : (((w.alloc (.cells #[.bool q.num.g, .slice q.num.a q.num.n q.num.c, .bool q.den.g, .slice q.den.a q.den.n q.den.c] 38)).alloc (.cells #[.bool b.g, .slice b.a b.n b.c] 24)).alloc (.cells #[.bool false, .slice none 0 0, .bool false, .slice none 0 0, .bool false, .slice none 0 0, .bool false, .slice none 0 0] 49)).cell? ⟨w.heap.size + 1 + 1, 2, none⟩ = some (.bool false) := by simp [go_sem]
  have k2_3 : (((w.alloc (.cells #[.bool q.num.g, .slice q.num.a q.num.n q.num.c, .bool q.den.g, .slice q.den.a q.den.n q.den.c] 38)).alloc (.cells #[.bool b.g, .slice b.a b.n b.c] 24)).alloc (.cells #[.bool false, .slice none 0 0, .bool false, .slice none 0 0, .bool false, .slice none 0 0, .bool false, .slice none 0 0] 49)).cell? ⟨w.heap.size + 1 + 1, 3, none⟩ = some (.slice none 0 0) := by simp [go_sem]
  have k2_4 : (((w.alloc (.cells #[.bool q.num.g, .slice q.num.a q.num.n q.num.c, .bool q.den.g, .slice q.den.a q.den.n q.den.c] 38)).alloc (.cells #[.bool b.g, .slice b.a b.n b.c] 24)).alloc (.cells #[.bool false, .slice none 0 0, .bool false, .slice none 0 0, .bool false, .slice none 0 0, .bool false, .slice none 0 0] 49)).cell? ⟨w.heap.size + 1 + 1, 4, none⟩ = some (.bool false) := by simp [go_sem]
  have k2_5 : (((w.alloc (.cells #[.bool q.num.g, .slice q.num.a q.num.n q.num.c, .bool q.den.g, .slice q.den.a q.den.n q.den.c] 38)).alloc (.cells #[.bool b.g, .slice b.a b.n b.c] 24)).alloc (.cells #[.bool false, .slice none 0 0, .bool false, .slice none 0 0, .bool false, .slice none 0 0, .bool false, .slice none 0 0] 49)).cell? ⟨w.heap.size + 1 + 1, 5, none⟩ = some (.slice none 0 0) := by simp [go_sem]
  have k2_6 : (((w.alloc (.cells #[.bool q.num.g, .slice q.num.a q.num.n q.num.c, .bool q.den.g, .slice q.den.a q.den.n q.den.c] 38)).alloc (.cells #[.bool b.g, .slice b.a b.n b.c] 24)).alloc (.cells #[.bool false, .slice none 0 0, .bool false, .slice none 0 0, .bool false, .slice none 0 0, .bool false, .slice none 0 0] 49)).cell? ⟨w.heap.size + 1 + 1, 6, none⟩ = some (.bool false) := by simp [go_sem]
  have k2_7 : (((w.alloc (.cells #[.bool q.num.g, .slice q.num.a q.num.n q.num.c, .bool q.den.g, .slice q.den.a q.den.n q.den.c] 38)).alloc (.cells #[.bool b.g, .slice b.a b.n b.c] 24)).alloc (.cells #[.bool false, .slice none 0 0, .bool false, .slice none 0 0, .bool false, .slice none 0 0, .bool false, .slice none 0 0] 49)).cell? ⟨w.heap.size + 1 + 1, 7, none⟩ = some (.slice none 0 0) := by simp [go_sem]
  have z2 : ∀ o, (((w.alloc (.cells #[.bool q.num.g, .slice q.num.a q.num.n q.num.c, .bool q.den.g, .slice q.den.a q.den.n q.den.c] 38)).alloc (.cells #[.bool b.g, .slice b.a b.n b.c] 24)).alloc (.cells #[.bool false, .slice none 0 0, .bool false, .slice none 0 0, .bool false, .slice none 0 0, .bool false, .slice none 0 0] 49)).frozen? ⟨w.heap.size + 1 + 1, o, none⟩ = false := fun o => by simp [go_sem]
  have Q1 := hide ((unhide H1).later hb)
  have Q2 := hide ((unhide H2).later hb)
  have szw0 : w.heap.size + 3 ≤ (((w.alloc (.cells #[.bool q.num.g, .slice q.num.a q.num.n q.num.c, .bool q.den.g, .slice q.den.a q.den.n q.den.c] 38)).alloc (.cells #[.bool b.g, .slice b.a b.n b.c] 24)).alloc (.cells #[.bool false, .slice none 0 0, .bool false, .slice none 0 0, .bool false, .slice none 0 0, .bool false, .slice none 0 0] 49)).heap.size := by simp
  have HB := hide hb
  clear hb
  generalize (((w.alloc (.cells #[.bool q.num.g, .slice q.num.a q.num.n q.num.c, .bool q.den.g, .slice q.den.a q.den.n q.den.c] 38)).alloc (.cells #[.bool b.g, .slice b.a b.n b.c] 24)).alloc (.cells #[.bool false, .slice none 0 0, .bool false, .slice none 0 0, .bool false, .slice none 0 0, .bool false, .slice none 0 0] 49)) = w0 at *
  go_upto_region 1 with fail
  go_cut [5] (fun p wx => ∃ (G : Nat) (x : BV), p = .pointer (some ⟨G, 0, none⟩) ∧ Hid (BxB w0 wx G x (N * (S * S) / D)))
  case first =>
    go_region_held3 (fun w' => w'.cell? ⟨w.heap.size, 0, none⟩ = some (.bool q.num.g) ∧ w'.cell? ⟨w.heap.size, 1, none⟩ = some (.slice q.num.a q.num.n q.num.c) ∧ w'.cell? ⟨w.heap.size, 2, none⟩ = some (.bool q.den.g) ∧ w'.cell? ⟨w.heap.size, 3, none⟩ = some (.slice q.den.a q.den.n q.den.c) ∧ w'.cell? ⟨w.heap.size + 1, 0, none⟩ = some (.bool b.g) ∧ w'.cell? ⟨w.heap.size + 1, 1, none⟩ = some (.slice b.a b.n b.c)) (with_reducible (first | exact ⟨k0_0, k0_1, k0_2, k0_3, k1_0, k1_1⟩ | exact ⟨cd_other k0_0, cd_other k0_1, cd_other k0_2, cd_other k0_3, cd_other k1_0, cd_other k1_1⟩ | exact ⟨ca_other k0_0, ca_other k0_1, ca_other k0_2, ca_other k0_3, ca_other k1_0, ca_other k1_1⟩ | exact ⟨cd_other (ca_other k0_0), cd_other (ca_other k0_1), cd_other (ca_other k0_2), cd_other (ca_other k0_3), cd_other (ca_other k1_0), cd_other (ca_other k1_1)⟩ | exact ⟨cs_other (cs_other (k0_0) (by omega)) (by omega), cs_other (cs_other (k0_1) (by omega)) (by omega), cs_other (cs_other (k0_2) (by omega)) (by omega), cs_other (cs_other (k0_3) (by omega)) (by omega), cs_other (cs_other (k1_0) (by omega)) (by omega), cs_other (cs_other (k1_1) (by omega)) (by omega)⟩ | fail))
      (first
      | (go_at_call_of 104 (Value.agg #[Value.bool b.g, Value.slice b.a b.n b.c]); refine (mulI_v b b S S _ ?_ ?_ (unhide K3) (unhide K3)).mono ?_; (first | exact (unhide Q2).later (Below.refl _ _).drew | exact (unhide Q2).later ((Below.refl _ _).alloc (Nat.le_refl _) _).drew); (first | exact (unhide Q2).later (Below.refl _ _).drew | exact (unhide Q2).later ((Below.refl _ _).alloc (Nat.le_refl _) _).drew); rintro e w1 ⟨x1, l1, rfl, hb, o1, a1, n1⟩; have hbx : Below w0.heap.size w0 w1 := (by first | exact below_of_drew hb | exact bad hb); have szw1 := hbx.size; replace z2 := fun o => frozen_later hbx (World.block_lt_of_cell? _ _ k2_0) (z2 o); replace k0_0 := cell_later hbx k0_0; replace k0_1 := cell_later hbx k0_1; replace k0_2 := cell_later hbx k0_2; replace k0_3 := cell_later hbx k0_3; replace k1_0 := cell_later hbx k1_0; replace k1_1 := cell_later hbx k1_1; replace k2_0 := cell_later hbx k2_0; replace k2_1 := cell_later hbx k2_1; replace k2_2 := cell_later hbx k2_2; replace k2_3 := cell_later hbx k2_3; replace k2_4 := cell_later hbx k2_4; replace k2_5 := cell_later hbx k2_5; replace k2_6 := cell_later hbx k2_6; replace k2_7 := cell_later hbx k2_7; replace Q1 := hide ((unhide Q1).later hbx); replace Q2 := hide ((unhide Q2).later hbx); have Px1 := hide (outN_ow o1 a1 n1); (try (replace gf := fun o => frozen_later hbx (World.block_lt_of_cell? _ _ g0) (gf o); replace g0 := cell_later hbx g0; replace g1 := cell_later hbx g1)); (try (refine cutP (p := w1.cell? ⟨w0.heap.size, 0, none⟩ = some (.bool false) ∧ w1.cell? ⟨w0.heap.size, 1, none⟩ = some (.slice none 0 0) ∧ ∀ o, w1.frozen? ⟨w0.heap.size, o, none⟩ = false) ?_ (fun dd => ?_); (focus (refine ⟨cell_later hb ?_, cell_later hb ?_, fun o => frozen_later hb ?_ ?_⟩ <;> (simp [go_sem]; done))); obtain ⟨g0, g1, gf⟩ := dd)); have zz := hb.size; (try simp at zz); have HBr := hide hbx; clear hbx hb o1 a1 n1)
      | (go_at_call_of 104 (Value.agg #[Value.bool q.num.g, Value.slice q.num.a q.num.n q.num.c]); refine (mulI_v q.num x1 N (S * S) _ ?_ ?_ (unhide K1) (unhide K4)).mono ?_; (first | exact (unhide Q1).1.later (Below.refl _ _) | exact (unhide Q1).1.later ((Below.refl _ _).alloc (Nat.le_refl _) _)); (first | exact (unhide Px1).is.later (Below.refl _ _) | exact (unhide Px1).is.later ((Below.refl _ _).alloc (Nat.le_refl _) _)); rintro e w2 ⟨x2, l2, rfl, hb, o2, a2, n2⟩; have hbx : Below w1.heap.size w1 w2 := (by first | exact hb | exact ba hb); have szw2 := hbx.size; replace z2 := fun o => frozen_later hbx (World.block_lt_of_cell? _ _ k2_0) (z2 o); replace k0_0 := cell_later hbx k0_0; replace k0_1 := cell_later hbx k0_1; replace k0_2 := cell_later hbx k0_2; replace k0_3 := cell_later hbx k0_3; replace k1_0 := cell_later hbx k1_0; replace k1_1 := cell_later hbx k1_1; replace k2_0 := cell_later hbx k2_0; replace k2_1 := cell_later hbx k2_1; replace k2_2 := cell_later hbx k2_2; replace k2_3 := cell_later hbx k2_3; replace k2_4 := cell_later hbx k2_4; replace k2_5 := cell_later hbx k2_5; replace k2_6 := cell_later hbx k2_6; replace k2_7 := cell_later hbx k2_7; replace Q1 := hide ((unhide Q1).later hbx); replace Q2 := hide ((unhide Q2).later hbx); replace Px1 := hide ((unhide Px1).later hbx); have Px2 := hide (outN_ow o2 a2 n2); (try (replace gf := fun o => frozen_later hbx (World.block_lt_of_cell? _ _ g0) (gf o); replace g0 := cell_later hbx g0; replace g1 := cell_later hbx g1)); (try (refine cutP (p := w2.cell? ⟨w1.heap.size, 0, none⟩ = some (.bool false) ∧ w2.cell? ⟨w1.heap.size, 1, none⟩ = some (.slice none 0 0) ∧ ∀ o, w2.frozen? ⟨w1.heap.size, o, none⟩ = false) ?_ (fun dd => ?_); (focus (refine ⟨cell_later hb ?_, cell_later hb ?_, fun o => frozen_later hb ?_ ?_⟩ <;> (simp [go_sem]; done))); obtain ⟨g0, g1, gf⟩ := dd)); have zz := hb.size; (try simp at zz); have HBr := hide (below_on (unhide HBr) hbx); clear hbx hb o2 a2 n2)
      | (go_at_call 103; refine (floorO ⟨x2, q.den⟩ (N * (S * S)) D _ ?_ (unhide HD) (unhide K5) (unhide K2)).mono ?_; (first | exact (show IsQ _ ⟨x2, q.den⟩ (N * (S * S)) D from ⟨(unhide Px2).is, (unhide Q1).2⟩).later (Below.refl _ _) | exact (show IsQ _ ⟨x2, q.den⟩ (N * (S * S)) D from ⟨(unhide Px2).is, (unhide Q1).2⟩).later ((Below.refl _ _).alloc (Nat.le_refl _) _)); rintro e w3 ⟨x3, l3, rfl, hb, o3, a3, n3⟩; have hbx : Below w2.heap.size w2 w3 := (by first | exact hb | exact ba hb); have szw3 := hbx.size; replace z2 := fun o => frozen_later hbx (World.block_lt_of_cell? _ _ k2_0) (z2 o); replace k0_0 := cell_later hbx k0_0; replace k0_1 := cell_later hbx k0_1; replace k0_2 := cell_later hbx k0_2; replace k0_3 := cell_later hbx k0_3; replace k1_0 := cell_later hbx k1_0; replace k1_1 := cell_later hbx k1_1; replace k2_0 := cell_later hbx k2_0; replace k2_1 := cell_later hbx k2_1; replace k2_2 := cell_later hbx k2_2; replace k2_3 := cell_later hbx k2_3; replace k2_4 := cell_later hbx k2_4; replace k2_5 := cell_later hbx k2_5; replace k2_6 := cell_later hbx k2_6; replace k2_7 := cell_later hbx k2_7; replace Q1 := hide ((unhide Q1).later hbx); replace Q2 := hide ((unhide Q2).later hbx); replace Px1 := hide ((unhide Px1).later hbx); replace Px2 := hide ((unhide Px2).later hbx); have Px3 := hide (outN_ow o3 a3 n3); (try (replace gf := fun o => frozen_later hbx (World.block_lt_of_cell? _ _ g0) (gf o); replace g0 := cell_later hbx g0; replace g1 := cell_later hbx g1)); (try (refine cutP (p := w3.cell? ⟨w2.heap.size, 0, none⟩ = some (.bool false) ∧ w3.cell? ⟨w2.heap.size, 1, none⟩ = some (.slice none 0 0) ∧ ∀ o, w3.frozen? ⟨w2.heap.size, o, none⟩ = false) ?_ (fun dd => ?_); (focus (refine ⟨cell_later hb ?_, cell_later hb ?_, fun o => frozen_later hb ?_ ?_⟩ <;> (simp [go_sem]; done))); obtain ⟨g0, g1, gf⟩ := dd)); have zz := hb.size; (try simp at zz); have HBr := hide (below_on (unhide HBr) hbx); clear hbx hb o3 a3 n3))
    all_goals go_wp2_with fail
    all_goals go_meet
    all_goals first
      | (refine ⟨_, x3, rfl, hide (bxB_alloc 24 (unhide HBr) (unhide Px3) ?_)⟩; omega)
      | (refine ⟨_, x3, rfl, hide (bxB_set (unhide HBr) (unhide Px3) ?_ ?_ g0 g1)⟩ <;> first | omega | (simp; done) | (simp; omega))
  case rest =>
    obtain ⟨G, xG, rfl, HG⟩ := hcut
    have hb := (unhide HG).bel
    have loG := (unhide HG).lo
    have hiG := (unhide HG).hi
    replace z2 := fun o => frozen_later hb (World.block_lt_of_cell? _ _ k2_0) (z2 o)
    replace k0_0 := cell_later hb k0_0
    replace k0_1 := cell_later hb k0_1
    replace k0_2 := cell_later hb k0_2
    replace k0_3 := cell_later hb k0_3
    replace k1_0 := cell_later hb k1_0
    replace k1_1 := cell_later hb k1_1
    replace k2_0 := cell_later hb k2_0
    replace k2_1 := cell_later hb k2_1
    replace k2_2 := cell_later hb k2_2
    replace k2_3 := cell_later hb k2_3
    replace k2_4 := cell_later hb k2_4
    replace k2_5 := cell_later hb k2_5
    replace k2_6 := cell_later hb k2_6
    replace k2_7 := cell_later hb k2_7
    replace Q1 := hide ((unhide Q1).later hb)
    replace Q2 := hide ((unhide Q2).later hb)
    have OG := hide ((unhide HG).ow)
    replace HB := hide (below_on (unhide HB) hb)
    clear hb
    have k3_0 := (unhide HG).c0
    have k3_1 := (unhide HG).c1
    clear HG
    obtain ⟨xs, oxs, axs, nxs⟩ := unhide OG
    have AX := hide axs.head.ar
    have NX : Hid (Nm xs (N * (S * S) / D)) := hide (by have h := nxs; rw [Int.natAbs_of_nonneg (unhide PQ)] at h; exact h)
    have LX : xG.n ≤ 100000 := by rw [← axs.head.ar.len]; exact Nat.le_trans (nxs.len_le (unhide BQ)) (by omega)
    clear oxs axs nxs OG
    go_wp2_with fail
    refine (rootL xG.a xG.n xG.c xs (N * (S * S) / D) _ (unhide AX) (unhide NX) LX).mono ?_
    rintro e w5 ⟨r, hr, a5, n5, c5, zs, rfl, hb, o5, ar5, m5⟩
    have HR := hide hr
    have OZ := hide (And.intro o5.two (And.intro ar5 m5))
    have s5 := hb.size
    replace z2 := fun o => frozen_later hb (World.block_lt_of_cell? _ _ k2_0) (z2 o)
    replace k0_0 := cell_later hb k0_0
    replace k0_1 := cell_later hb k0_1
    replace k0_2 := cell_later hb k0_2
    replace k0_3 := cell_later hb k0_3
    replace k1_0 := cell_later hb k1_0
    replace k1_1 := cell_later hb k1_1
    replace k2_0 := cell_later hb k2_0
    replace k2_1 := cell_later hb k2_1
    replace k2_2 := cell_later hb k2_2
    replace k2_3 := cell_later hb k2_3
    replace k2_4 := cell_later hb k2_4
    replace k2_5 := cell_later hb k2_5
    replace k2_6 := cell_later hb k2_6
    replace k2_7 := cell_later hb k2_7
    clear k3_0 k3_1
    replace Q1 := hide ((unhide Q1).later hb)
    replace Q2 := hide ((unhide Q2).later hb)
    replace HB := hide (below_on (unhide HB) hb)
    clear hb
    clear hr o5 ar5 m5 AX NX LX
    go_wp2_with fail
    refine (signI_v false a5 n5 c5 zs w5 _ _ r (unhide OZ).2.1 (unhide OZ).1 (unhide OZ).2.2).mono ?_
    rintro e w6 ⟨rb, rfl, hb, ob, ab⟩
    have ORB : Hid (IsB w6 rb r) := hide ⟨zs, ab.head, by rw [Int.natAbs_of_nonneg (unhide HR).nn]; exact (unhide OZ).2.2⟩
    have s6 := hb.size
    replace z2 := fun o => frozen_later hb (World.block_lt_of_cell? _ _ k2_0) (z2 o)
    replace k0_0 := cell_later hb k0_0
    replace k0_1 := cell_later hb k0_1
    replace k0_2 := cell_later hb k0_2
    replace k0_3 := cell_later hb k0_3
    replace k1_0 := cell_later hb k1_0
    replace k1_1 := cell_later hb k1_1
    replace k2_0 := cell_later hb k2_0
    replace k2_1 := cell_later hb k2_1
    replace k2_2 := cell_later hb k2_2
    replace k2_3 := cell_later hb k2_3
    replace k2_4 := cell_later hb k2_4
    replace k2_5 := cell_later hb k2_5
    replace k2_6 := cell_later hb k2_6
    replace k2_7 := cell_later hb k2_7
    replace Q1 := hide ((unhide Q1).later hb)
    replace Q2 := hide ((unhide Q2).later hb)
    replace HB := hide (below_on (unhide HB) hb)
    clear hb
    clear ob ab OZ
    have BR := hide (root_bd (unhide HN) (unhide HD) (unhide KN) (unhide KS) (unhide HR))
    have k0_0u : (w6.alloc (.cells #[.bool rb.g, .slice rb.a rb.n rb.c] 24)).cell? ⟨w.heap.size, 0, none⟩ = some (.bool q.num.g) := (ca_other k0_0)
    have k0_1u : (w6.alloc (.cells #[.bool rb.g, .slice rb.a rb.n rb.c] 24)).cell? ⟨w.heap.size, 1, none⟩ = some (.slice q.num.a q.num.n q.num.c) := (ca_other k0_1)
    have k0_2u : (w6.alloc (.cells #[.bool rb.g, .slice rb.a rb.n rb.c] 24)).cell? ⟨w.heap.size, 2, none⟩ = some (.bool q.den.g) := (ca_other k0_2)
    have k0_3u : (w6.alloc (.cells #[.bool rb.g, .slice rb.a rb.n rb.c] 24)).cell? ⟨w.heap.size, 3, none⟩ = some (.slice q.den.a q.den.n q.den.c) := (ca_other k0_3)
    have k1_0u : (w6.alloc (.cells #[.bool rb.g, .slice rb.a rb.n rb.c] 24)).cell? ⟨w.heap.size + 1, 0, none⟩ = some (.bool b.g) := (ca_other k1_0)
    have k1_1u : (w6.alloc (.cells #[.bool rb.g, .slice rb.a rb.n rb.c] 24)).cell? ⟨w.heap.size + 1, 1, none⟩ = some (.slice b.a b.n b.c) := (ca_other k1_1)
    have k2_0u : (w6.alloc (.cells #[.bool rb.g, .slice rb.a rb.n rb.c] 24)).cell? ⟨w.heap.size + 1 + 1, 0, none⟩ = some (.bool false) := (ca_other k2_0)
    have k2_1u : (w6.alloc (.cells #[.bool rb.g, .slice rb.a rb.n rb.c] 24)).cell? ⟨w.heap.size + 1 + 1, 1, none⟩ = some (.slice none 0 0) := (ca_other k2_1)
    have k2_2u : (w6.alloc (.cells #[.bool rb.g, .slice rb.a rb.n rb.c] 24)).cell? ⟨w.heap.size + 1 + 1, 2, none⟩ = some (.bool false) := (ca_other k2_2)
    have k2_3u : (w6.alloc (.cells #[.bool rb.g, .slice rb.a rb.n rb.c] 24)).cell? ⟨w.heap.size + 1 + 1, 3, none⟩ = some (.slice none 0 0) := (ca_other k2_3)
    have k2_4u : (w6.alloc (.cells #[.bool rb.g, .slice rb.a rb.n rb.c] 24)).cell? ⟨w.heap.size + 1 + 1, 4, none⟩ = some (.bool false) := (ca_other k2_4)
    have k2_5u : (w6.alloc (.cells #[.bool rb.g, .slice rb.a rb.n rb.c] 24)).cell? ⟨w.heap.size + 1 + 1, 5, none⟩ = some (.slice none 0 0) := (ca_other k2_5)
    have k2_6u : (w6.alloc (.cells #[.bool rb.g, .slice rb.a rb.n rb.c] 24)).cell? ⟨w.heap.size + 1 + 1, 6, none⟩ = some (.bool false) := (ca_other k2_6)
    have k2_7u : (w6.alloc (.cells #[.bool rb.g, .slice rb.a rb.n rb.c] 24)).cell? ⟨w.heap.size + 1 + 1, 7, none⟩ = some (.slice none 0 0) := (ca_other k2_7)
    go_wp2_with fail
    refine (lowI rb b r S _ ((unhide ORB).later ((Below.refl _ _).alloc (by simp) _)) ((unhide Q2).later ((Below.refl _ _).alloc (by simp) _)) (Int.ne_of_gt (unhide HS)) ((unhide BR).mono (by omega)) (unhide K3)).mono ?_
    rintro e w7 ⟨lq, zl, ul, rfl, hb, ol, al, nl, ml⟩
    clear k0_0u k0_1u k0_2u k0_3u k1_0u k1_1u k2_0u k2_1u k2_2u k2_3u k2_4u k2_5u k2_6u k2_7u
    have s7 := hb.size; (try simp at s7)
    have hbx := ba (hb)
    replace z2 := fun o => frozen_later hbx (World.block_lt_of_cell? _ _ k2_0) (z2 o)
    replace k0_0 := cell_later hbx k0_0
    replace k0_1 := cell_later hbx k0_1
    replace k0_2 := cell_later hbx k0_2
    replace k0_3 := cell_later hbx k0_3
    replace k1_0 := cell_later hbx k1_0
    replace k1_1 := cell_later hbx k1_1
    replace k2_0 := cell_later hbx k2_0
    replace k2_1 := cell_later hbx k2_1
    replace k2_2 := cell_later hbx k2_2
    replace k2_3 := cell_later hbx k2_3
    replace k2_4 := cell_later hbx k2_4
    replace k2_5 := cell_later hbx k2_5
    replace k2_6 := cell_later hbx k2_6
    replace k2_7 := cell_later hbx k2_7
    have k4_0 : w7.cell? ⟨w6.heap.size, 0, none⟩ = some (.bool rb.g) := cell_later hb (by simp [go_sem])
    have k4_1 : w7.cell? ⟨w6.heap.size, 1, none⟩ = some (.slice rb.a rb.n rb.c) := cell_later hb (by simp [go_sem])
    replace Q1 := hide ((unhide Q1).later hbx)
    replace Q2 := hide ((unhide Q2).later hbx)
    replace ORB := hide ((unhide ORB).later hbx)
    have OL := hide (isQ_of al nl ml)
    replace HB := hide (below_on (unhide HB) hbx)
    clear hbx hb
    clear ol al nl ml
    go_upto_region 4 with fail
    have hb : Below w7.heap.size w7 (w7.alloc (.cells #[.bool lq.num.g, .slice lq.num.a lq.num.n lq.num.c, .bool lq.den.g, .slice lq.den.a lq.den.n lq.den.c] 38)) := ((Below.refl _ _).alloc (by simp) _)
    replace k0_0 : (w7.alloc (.cells #[.bool lq.num.g, .slice lq.num.a lq.num.n lq.num.c, .bool lq.den.g, .slice lq.den.a lq.den.n lq.den.c] 38)).cell? ⟨w.heap.size, 0, none⟩ = some (.bool q.num.g) := (ca_other k0_0)
    replace k0_1 : (w7.alloc (.cells #[.bool lq.num.g, .slice lq.num.a lq.num.n lq.num.c, .bool lq.den.g, .slice lq.den.a lq.den.n lq.den.c] 38)).cell? ⟨w.heap.size, 1, none⟩ = some (.slice q.num.a q.num.n q.num.c) := (ca_other k0_1)
    replace k0_2 : (w7.alloc (.cells #[.bool lq.num.g, .slice lq.num.a lq.num.n lq.num.c, .bool lq.den.g, .slice lq.den.a lq.den.n lq.den.c] 38)).cell? ⟨w.heap.size, 2, none⟩ = some (.bool q.den.g) := (ca_other k0_2)
    replace k0_3 : (w7.alloc (.cells #[.bool lq.num.g, .slice lq.num.a lq.num.n lq.num.c, .bool lq.den.g, .slice lq.den.a lq.den.n lq.den.c] 38)).cell? ⟨w.heap.size, 3, none⟩ = some (.slice q.den.a q.den.n q.den.c) := (ca_other k0_3)
    replace k1_0 : (w7.alloc (.cells #[.bool lq.num.g, .slice lq.num.a lq.num.n lq.num.c, .bool lq.den.g, .slice lq.den.a lq.den.n lq.den.c] 38)).cell? ⟨w.heap.size + 1, 0, none⟩ = some (.bool b.g) := (ca_other k1_0)
    replace k1_1 : (w7.alloc (.cells #[.bool lq.num.g, .slice lq.num.a lq.num.n lq.num.c, .bool lq.den.g, .slice lq.den.a lq.den.n lq.den.c] 38)).cell? ⟨w.heap.size + 1, 1, none⟩ = some (.slice b.a b.n b.c) := (ca_other k1_1)
    replace k2_0 : (w7.alloc (.cells #[.bool lq.num.g, .slice lq.num.a lq.num.n lq.num.c, .bool lq.den.g, .slice lq.den.a lq.den.n lq.den.c] 38)).cell? ⟨w.heap.size + 1 + 1, 0, none⟩ = some (.bool false) := (ca_other k2_0)
    replace k2_1 : (w7.alloc (.cells #[.bool lq.num.g, .slice lq.num.a lq.num.n lq.num.c, .bool lq.den.g, .slice lq.den.a lq.den.n lq.den.c] 38)).cell? ⟨w.heap.size + 1 + 1, 1, none⟩ = some (.slice none 0 0) := (ca_other k2_1)
    replace k2_2 : (w7.alloc (.cells #[.bool lq.num.g, .slice lq.num.a lq.num.n lq.num.c, .bool lq.den.g, .slice lq.den.a lq.den.n lq.den.c] 38)).cell? ⟨w.heap.size + 1 + 1, 2, none⟩ = some (.bool false) := (ca_other k2_2)
    replace k2_3 : (w7.alloc (.cells #[.bool lq.num.g, .slice lq.num.a lq.num.n lq.num.c, .bool lq.den.g, .slice lq.den.a lq.den.n lq.den.c] 38)).cell? ⟨w.heap.size + 1 + 1, 3, none⟩ = some (.slice none 0 0) := (ca_other k2_3)
    replace k2_4 : (w7.alloc (.cells #[.bool lq.num.g, .slice lq.num.a lq.num.n lq.num.c, .bool lq.den.g, .slice lq.den.a lq.den.n lq.den.c] 38)).cell? ⟨w.heap.size + 1 + 1, 4, none⟩ = some (.bool false) := (ca_other k2_4)
    replace k2_5 : (w7.alloc (.cells #[.bool lq.num.g, .slice lq.num.a lq.num.n lq.num.c, .bool lq.den.g, .slice lq.den.a lq.den.n lq.den.c] 38)).cell? ⟨w.heap.size + 1 + 1, 5, none⟩ = some (.slice none 0 0) := (ca_other k2_5)
    replace k2_6 : (w7.alloc (.cells #[.bool lq.num.g, .slice lq.num.a lq.num.n lq.num.c, .bool lq.den.g, .slice lq.den.a lq.den.n lq.den.c] 38)).cell? ⟨w.heap.size + 1 + 1, 6, none⟩ = some (.bool false) := (ca_other k2_6)
    replace k2_7 : (w7.alloc (.cells #[.bool lq.num.g, .slice lq.num.a lq.num.n lq.num.c, .bool lq.den.g, .slice lq.den.a lq.den.n lq.den.c] 38)).cell? ⟨w.heap.size + 1 + 1, 7, none⟩ = some (.slice none 0 0) := (ca_other k2_7)
    replace k4_0 : (w7.alloc (.cells #[.bool lq.num.g, .slice lq.num.a lq.num.n lq.num.c, .bool lq.den.g, .slice lq.den.a lq.den.n lq.den.c] 38)).cell? ⟨w6.heap.size, 0, none⟩ = some (.bool rb.g) := (ca_other k4_0)
    replace k4_1 : (w7.alloc (.cells #[.bool lq.num.g, .slice lq.num.a lq.num.n lq.num.c, .bool lq.den.g, .slice lq.den.a lq.den.n lq.den.c] 38)).cell? ⟨w6.heap.size, 1, none⟩ = some (.slice rb.a rb.n rb.c) := (ca_other k4_1)
    have k5_0 : (w7.alloc (.cells #[.bool lq.num.g, .slice lq.num.a lq.num.n lq.num.c, .bool lq.den.g, .slice lq.den.a lq.den.n lq.den.c] 38)).cell? ⟨w7.heap.size, 0, none⟩ = some (.bool lq.num.g) := by simp [go_sem]
    have k5_1 : (w7.alloc (.cells #[.bool lq.num.g, .slice lq.num.a lq.num.n lq.num.c, .bool lq.den.g, .slice lq.den.a lq.den.n lq.den.c] 38)).cell? ⟨w7.heap.size, 1, none⟩ = some (.slice lq.num.a lq.num.n lq.num.c) := by simp [go_sem]
    have k5_2 : (w7.alloc (.cells #[.bool lq.num.g, .slice lq.num.a lq.num.n lq.num.c, .bool lq.den.g, .slice lq.den.a lq.den.n lq.den.c] 38)).cell? ⟨w7.heap.size, 2, none⟩ = some (.bool lq.den.g) := by simp [go_sem]
    have k5_3 : (w7.alloc (.cells #[.bool lq.num.g, .slice lq.num.a lq.num.n lq.num.c, .bool lq.den.g, .slice lq.den.a lq.den.n lq.den.c] 38)).cell? ⟨w7.heap.size, 3, none⟩ = some (.slice lq.den.a lq.den.n lq.den.c) := by simp [go_sem]
    replace z2 : ∀ o, (w7.alloc (.cells #[.bool lq.num.g, .slice lq.num.a lq.num.n lq.num.c, .bool lq.den.g, .slice lq.den.a lq.den.n lq.den.c] 38)).frozen? ⟨w.heap.size + 1 + 1, o, none⟩ = false := fun o => frozen_later hb (by omega) (z2 o)
    replace Q1 := hide ((unhide Q1).later hb)
    replace Q2 := hide ((unhide Q2).later hb)
    replace ORB := hide ((unhide ORB).later hb)
    replace OL := hide ((unhide OL).later hb)
    replace HB := hide (below_on (unhide HB) hb)
    have szw8 := hb.size
    clear hb
    generalize (w7.alloc (.cells #[.bool lq.num.g, .slice lq.num.a lq.num.n lq.num.c, .bool lq.den.g, .slice lq.den.a lq.den.n lq.den.c] 38)) = w8 at *
    have BL : Hid (Bd (lowN r S) 25 ∧ Bd (lowD r S) 5) := hide ⟨lowN_bd (unhide BR), lowD_bd (unhide KS)⟩
    have PL : Hid (0 < lowD r S) := hide (lowD_pos (Int.ne_of_gt (unhide HS)))
    have PM : Hid (lowD r S * lowD r S ≠ 0) := hide (Int.ne_of_gt (Int.mul_pos (unhide PL) (unhide PL)))
    have BM : Hid (Bd (lowN (lowN r S * lowN r S) (lowD r S * lowD r S)) 200000 ∧ Bd (lowD (lowN r S * lowN r S) (lowD r S * lowD r S)) 200000) := hide ⟨(lowN_bd ((unhide BL).1.mul (unhide BL).1)).mono (by omega), (lowD_bd ((unhide BL).2.mul (unhide BL).2)).mono (by omega)⟩
    by_cases hE : lowN (lowN r S * lowN r S) (lowD r S * lowD r S) * D = N * lowD (lowN r S * lowN r S) (lowD r S * lowD r S)
    · have t1 := cmpZ_e1 hE
      have HE := hide hE
      clear hE
      go_region_held3 (fun w' => w'.cell? ⟨w7.heap.size, 0, none⟩ = some (.bool lq.num.g) ∧ w'.cell? ⟨w7.heap.size, 1, none⟩ = some (.slice lq.num.a lq.num.n lq.num.c) ∧ w'.cell? ⟨w7.heap.size, 2, none⟩ = some (.bool lq.den.g) ∧ w'.cell? ⟨w7.heap.size, 3, none⟩ = some (.slice lq.den.a lq.den.n lq.den.c) ∧ w'.cell? ⟨w.heap.size, 0, none⟩ = some (.bool q.num.g) ∧ w'.cell? ⟨w.heap.size, 1, none⟩ = some (.slice q.num.a q.num.n q.num.c) ∧ w'.cell? ⟨w.heap.size, 2, none⟩ = some (.bool q.den.g) ∧ w'.cell? ⟨w.heap.size, 3, none⟩ = some (.slice q.den.a q.den.n q.den.c)) (with_reducible (first | exact ⟨k5_0, k5_1, k5_2, k5_3, k0_0, k0_1, k0_2, k0_3⟩ | exact ⟨cd_other k5_0, cd_other k5_1, cd_other k5_2, cd_other k5_3, cd_other k0_0, cd_other k0_1, cd_other k0_2, cd_other k0_3⟩ | fail))
        (first
        | (go_at_call 93; refine (mulQI lq lq _ _ _ _ _ ?_ ?_ (unhide PM) ((unhide BL).1.mono (by omega)) ((unhide BL).2.mono (by omega)) ((unhide BL).1.mono (by omega)) ((unhide BL).2.mono (by omega))).mono ?_; exact (unhide OL).later (Below.refl _ _).drew; exact (unhide OL).later (Below.refl _ _).drew; rintro e w9 ⟨mq, zm, um, rfl, hb, om, am, nm, mm⟩; have hbx : Below w8.heap.size w8 w9 := below_of_drew hb; have szw9 := hbx.size; replace z2 := fun o => frozen_later hbx (World.block_lt_of_cell? _ _ k2_0) (z2 o); replace k0_0 := cell_later hbx k0_0; replace k0_1 := cell_later hbx k0_1; replace k0_2 := cell_later hbx k0_2; replace k0_3 := cell_later hbx k0_3; replace k1_0 := cell_later hbx k1_0; replace k1_1 := cell_later hbx k1_1; replace k2_0 := cell_later hbx k2_0; replace k2_1 := cell_later hbx k2_1; replace k2_2 := cell_later hbx k2_2; replace k2_3 := cell_later hbx k2_3; replace k2_4 := cell_later hbx k2_4; replace k2_5 := cell_later hbx k2_5; replace k2_6 := cell_later hbx k2_6; replace k2_7 := cell_later hbx k2_7; replace k4_0 := cell_later hbx k4_0; replace k4_1 := cell_later hbx k4_1; replace k5_0 := cell_later hbx k5_0; replace k5_1 := cell_later hbx k5_1; replace k5_2 := cell_later hbx k5_2; replace k5_3 := cell_later hbx k5_3; replace Q1 := hide ((unhide Q1).later hbx); replace Q2 := hide ((unhide Q2).later hbx); replace ORB := hide ((unhide ORB).later hbx); replace OL := hide ((unhide OL).later hbx); have OM := hide (isQ_of am nm mm); have HBr := hide hbx; clear hbx hb om am nm mm)
        | (go_at_call 107; refine (cmpQI mq q _ _ _ _ _ ?_ ?_ (unhide BM).1 (unhide BM).2 ((unhide KN).mono (by omega)) ((unhide KD).mono (by omega))).mono ?_; exact (unhide OM).later (Below.refl _ _); exact (unhide Q1).later (Below.refl _ _); rintro e w10 ⟨rfl, hb⟩; have hbx : Below w9.heap.size w9 w10 := hb; have szw10 := hbx.size; replace z2 := fun o => frozen_later hbx (World.block_lt_of_cell? _ _ k2_0) (z2 o); replace k0_0 := cell_later hbx k0_0; replace k0_1 := cell_later hbx k0_1; replace k0_2 := cell_later hbx k0_2; replace k0_3 := cell_later hbx k0_3; replace k1_0 := cell_later hbx k1_0; replace k1_1 := cell_later hbx k1_1; replace k2_0 := cell_later hbx k2_0; replace k2_1 := cell_later hbx k2_1; replace k2_2 := cell_later hbx k2_2; replace k2_3 := cell_later hbx k2_3; replace k2_4 := cell_later hbx k2_4; replace k2_5 := cell_later hbx k2_5; replace k2_6 := cell_later hbx k2_6; replace k2_7 := cell_later hbx k2_7; replace k4_0 := cell_later hbx k4_0; replace k4_1 := cell_later hbx k4_1; replace k5_0 := cell_later hbx k5_0; replace k5_1 := cell_later hbx k5_1; replace k5_2 := cell_later hbx k5_2; replace k5_3 := cell_later hbx k5_3; replace Q1 := hide ((unhide Q1).later hbx); replace Q2 := hide ((unhide Q2).later hbx); replace ORB := hide ((unhide ORB).later hbx); replace OL := hide ((unhide OL).later hbx); replace OM := hide ((unhide OM).later hbx); have HBr := hide (below_on (unhide HBr) hbx); clear hbx hb))
      replace HB := hide (below_on (unhide HB) (unhide HBr))
      clear HBr
      go_wp2_with fail
      refine (least0 lq _ _ none 0 _ (unhide OL) ((unhide BL).1.mono (by omega)) ((unhide BL).2.mono (by omega))).mono ?_
      rintro e w11 ⟨rs, xs1, us1, ys1, vs1, rfl, hb, or, ar, n1, n2, n3, n4⟩
      have OR := hide (And.intro or (And.intro ar (And.intro n1 (And.intro n2 (And.intro n3 n4)))))
      have s11 := hb.size
      replace z2 := fun o => frozen_later hb (World.block_lt_of_cell? _ _ k2_0) (z2 o)
      replace k2_0 := cell_later hb k2_0
      replace k2_1 := cell_later hb k2_1
      replace k2_2 := cell_later hb k2_2
      replace k2_3 := cell_later hb k2_3
      replace k2_4 := cell_later hb k2_4
      replace k2_5 := cell_later hb k2_5
      replace k2_6 := cell_later hb k2_6
      replace k2_7 := cell_later hb k2_7
      clear k0_0 k0_1 k0_2 k0_3 k1_0 k1_1 k4_0 k4_1 k5_0 k5_1 k5_2 k5_3
      replace Q1 := hide ((unhide Q1).later hb)
      replace Q2 := hide ((unhide Q2).later hb)
      replace ORB := hide ((unhide ORB).later hb)
      replace OL := hide ((unhide OL).later hb)
      replace OM := hide ((unhide OM).later hb)
      replace HB := hide (below_on (unhide HB) hb)
      clear hb
      clear or ar n1 n2 n3 n4
      go_wp2
      refine bodyPost_ret (v := .agg #[.bool rs.lo.num.g, .slice rs.lo.num.a rs.lo.num.n rs.lo.num.c, .bool rs.lo.den.g, .slice rs.lo.den.a rs.lo.den.n rs.lo.den.c, .bool rs.hi.num.g, .slice rs.hi.num.a rs.hi.num.n rs.hi.num.c, .bool rs.hi.den.g, .slice rs.hi.den.a rs.hi.den.n rs.hi.den.c]) (by simp [results, Try.results70, go_sem, k2_0, k2_1, k2_2, k2_3, k2_4, k2_5, k2_6, k2_7]) rfl ?_
      refine ⟨r, unhide HR, ?_⟩
      rw [rHi_eq (unhide HE)]
      exact outS_fin (v := rs) (R := w.heap.size + 1 + 1) (by omega) (unhide HB) (metS_but (w5 := w11) (v := rs) (G := w.heap.size + 1 + 1)) ((unhide OR).1.wide (by omega) (Nat.le_refl _)) (unhide OR).2.1 (unhide OR).2.2.1 (unhide OR).2.2.2.1 (unhide OR).2.2.2.2.1 (unhide OR).2.2.2.2.2
    · have t1 := cmpZ_e0 hE
      have HE := hide hE
      have BR1 : Hid (Bd (r + 1) 26) := hide (((unhide BR).mono (show 25 ≤ 25 by omega)).add ((show Bd 1 1 from ⟨by decide⟩).mono (by omega)))
      have BH : Hid (Bd (lowN (r + 1) S) 200000 ∧ Bd (lowD (r + 1) S) 200000) := hide ⟨(lowN_bd (unhide BR1)).mono (by omega), (lowD_bd (unhide KS)).mono (by omega)⟩
      have LE : Hid (lowN r S * lowD (r + 1) S ≤ lowN (r + 1) S * lowD r S) := hide (low_le (unhide HS) (unhide HS) (Int.mul_le_mul_of_nonneg_right (by omega) (Int.le_of_lt (unhide HS))))
      clear hE
      go_region_held3 (fun w' => w'.cell? ⟨w7.heap.size, 0, none⟩ = some (.bool lq.num.g) ∧ w'.cell? ⟨w7.heap.size, 1, none⟩ = some (.slice lq.num.a lq.num.n lq.num.c) ∧ w'.cell? ⟨w7.heap.size, 2, none⟩ = some (.bool lq.den.g) ∧ w'.cell? ⟨w7.heap.size, 3, none⟩ = some (.slice lq.den.a lq.den.n lq.den.c) ∧ w'.cell? ⟨w.heap.size, 0, none⟩ = some (.bool q.num.g) ∧ w'.cell? ⟨w.heap.size, 1, none⟩ = some (.slice q.num.a q.num.n q.num.c) ∧ w'.cell? ⟨w.heap.size, 2, none⟩ = some (.bool q.den.g) ∧ w'.cell? ⟨w.heap.size, 3, none⟩ = some (.slice q.den.a q.den.n q.den.c)) (with_reducible (first | exact ⟨k5_0, k5_1, k5_2, k5_3, k0_0, k0_1, k0_2, k0_3⟩ | exact ⟨cd_other k5_0, cd_other k5_1, cd_other k5_2, cd_other k5_3, cd_other k0_0, cd_other k0_1, cd_other k0_2, cd_other k0_3⟩ | fail))
        (first
        | (go_at_call 93; refine (mulQI lq lq _ _ _ _ _ ?_ ?_ (unhide PM) ((unhide BL).1.mono (by omega)) ((unhide BL).2.mono (by omega)) ((unhide BL).1.mono (by omega)) ((unhide BL).2.mono (by omega))).mono ?_; exact (unhide OL).later (Below.refl _ _).drew; exact (unhide OL).later (Below.refl _ _).drew; rintro e w9 ⟨mq, zm, um, rfl, hb, om, am, nm, mm⟩; have hbx : Below w8.heap.size w8 w9 := below_of_drew hb; have szw9 := hbx.size; replace z2 := fun o => frozen_later hbx (World.block_lt_of_cell? _ _ k2_0) (z2 o); replace k0_0 := cell_later hbx k0_0; replace k0_1 := cell_later hbx k0_1; replace k0_2 := cell_later hbx k0_2; replace k0_3 := cell_later hbx k0_3; replace k1_0 := cell_later hbx k1_0; replace k1_1 := cell_later hbx k1_1; replace k2_0 := cell_later hbx k2_0; replace k2_1 := cell_later hbx k2_1; replace k2_2 := cell_later hbx k2_2; replace k2_3 := cell_later hbx k2_3; replace k2_4 := cell_later hbx k2_4; replace k2_5 := cell_later hbx k2_5; replace k2_6 := cell_later hbx k2_6; replace k2_7 := cell_later hbx k2_7; replace k4_0 := cell_later hbx k4_0; replace k4_1 := cell_later hbx k4_1; replace k5_0 := cell_later hbx k5_0; replace k5_1 := cell_later hbx k5_1; replace k5_2 := cell_later hbx k5_2; replace k5_3 := cell_later hbx k5_3; replace Q1 := hide ((unhide Q1).later hbx); replace Q2 := hide ((unhide Q2).later hbx); replace ORB := hide ((unhide ORB).later hbx); replace OL := hide ((unhide OL).later hbx); have OM := hide (isQ_of am nm mm); have HBr := hide hbx; clear hbx hb om am nm mm)
        | (go_at_call 107; refine (cmpQI mq q _ _ _ _ _ ?_ ?_ (unhide BM).1 (unhide BM).2 ((unhide KN).mono (by omega)) ((unhide KD).mono (by omega))).mono ?_; exact (unhide OM).later (Below.refl _ _); exact (unhide Q1).later (Below.refl _ _); rintro e w10 ⟨rfl, hb⟩; have hbx : Below w9.heap.size w9 w10 := hb; have szw10 := hbx.size; replace z2 := fun o => frozen_later hbx (World.block_lt_of_cell? _ _ k2_0) (z2 o); replace k0_0 := cell_later hbx k0_0; replace k0_1 := cell_later hbx k0_1; replace k0_2 := cell_later hbx k0_2; replace k0_3 := cell_later hbx k0_3; replace k1_0 := cell_later hbx k1_0; replace k1_1 := cell_later hbx k1_1; replace k2_0 := cell_later hbx k2_0; replace k2_1 := cell_later hbx k2_1; replace k2_2 := cell_later hbx k2_2; replace k2_3 := cell_later hbx k2_3; replace k2_4 := cell_later hbx k2_4; replace k2_5 := cell_later hbx k2_5; replace k2_6 := cell_later hbx k2_6; replace k2_7 := cell_later hbx k2_7; replace k4_0 := cell_later hbx k4_0; replace k4_1 := cell_later hbx k4_1; replace k5_0 := cell_later hbx k5_0; replace k5_1 := cell_later hbx k5_1; replace k5_2 := cell_later hbx k5_2; replace k5_3 := cell_later hbx k5_3; replace Q1 := hide ((unhide Q1).later hbx); replace Q2 := hide ((unhide Q2).later hbx); replace ORB := hide ((unhide ORB).later hbx); replace OL := hide ((unhide OL).later hbx); replace OM := hide ((unhide OM).later hbx); have HBr := hide (below_on (unhide HBr) hbx); clear hbx hb))
      replace HB := hide (below_on (unhide HB) (unhide HBr))
      clear HBr
      go_upto_region 6 with fail
      have ne1_2 : w.heap.size + 1 ≠ w.heap.size + 1 + 1 := by omega
      have ne4_2 : w6.heap.size ≠ w.heap.size + 1 + 1 := by omega
      have ne5_2 : w7.heap.size ≠ w.heap.size + 1 + 1 := by omega
      go_region_held3 (fun w' => w'.cell? ⟨w7.heap.size, 0, none⟩ = some (.bool lq.num.g) ∧ w'.cell? ⟨w7.heap.size, 1, none⟩ = some (.slice lq.num.a lq.num.n lq.num.c) ∧ w'.cell? ⟨w7.heap.size, 2, none⟩ = some (.bool lq.den.g) ∧ w'.cell? ⟨w7.heap.size, 3, none⟩ = some (.slice lq.den.a lq.den.n lq.den.c) ∧ w'.cell? ⟨w6.heap.size, 0, none⟩ = some (.bool rb.g) ∧ w'.cell? ⟨w6.heap.size, 1, none⟩ = some (.slice rb.a rb.n rb.c) ∧ w'.cell? ⟨w.heap.size + 1, 0, none⟩ = some (.bool b.g) ∧ w'.cell? ⟨w.heap.size + 1, 1, none⟩ = some (.slice b.a b.n b.c)) (with_reducible (first | exact ⟨k5_0, k5_1, k5_2, k5_3, k4_0, k4_1, k1_0, k1_1⟩ | exact ⟨cd_other k5_0, cd_other k5_1, cd_other k5_2, cd_other k5_3, cd_other k4_0, cd_other k4_1, cd_other k1_0, cd_other k1_1⟩ | exact ⟨ca_other k5_0, ca_other k5_1, ca_other k5_2, ca_other k5_3, ca_other k4_0, ca_other k4_1, ca_other k1_0, ca_other k1_1⟩ | exact ⟨cs_other (cs_other (cs_other (cs_other (cs_other (cs_other (cs_other (cs_other (k5_0) ne5_2) ne5_2) ne5_2) ne5_2) ne5_2) ne5_2) ne5_2) ne5_2, cs_other (cs_other (cs_other (cs_other (cs_other (cs_other (cs_other (cs_other (k5_1) ne5_2) ne5_2) ne5_2) ne5_2) ne5_2) ne5_2) ne5_2) ne5_2, cs_other (cs_other (cs_other (cs_other (cs_other (cs_other (cs_other (cs_other (k5_2) ne5_2) ne5_2) ne5_2) ne5_2) ne5_2) ne5_2) ne5_2) ne5_2, cs_other (cs_other (cs_other (cs_other (cs_other (cs_other (cs_other (cs_other (k5_3) ne5_2) ne5_2) ne5_2) ne5_2) ne5_2) ne5_2) ne5_2) ne5_2, cs_other (cs_other (cs_other (cs_other (cs_other (cs_other (cs_other (cs_other (k4_0) ne4_2) ne4_2) ne4_2) ne4_2) ne4_2) ne4_2) ne4_2) ne4_2, cs_other (cs_other (cs_other (cs_other (cs_other (cs_other (cs_other (cs_other (k4_1) ne4_2) ne4_2) ne4_2) ne4_2) ne4_2) ne4_2) ne4_2) ne4_2, cs_other (cs_other (cs_other (cs_other (cs_other (cs_other (cs_other (cs_other (k1_0) ne1_2) ne1_2) ne1_2) ne1_2) ne1_2) ne1_2) ne1_2) ne1_2, cs_other (cs_other (cs_other (cs_other (cs_other (cs_other (cs_other (cs_other (k1_1) ne1_2) ne1_2) ne1_2) ne1_2) ne1_2) ne1_2) ne1_2) ne1_2⟩ | fail))
        (first
        | (go_at_call 109; refine (ofI_v 1 _ (by omega) (by omega)).mono ?_; rintro e w11 ⟨u1, lu, rfl, hb, ou, au, nu⟩; have hbx : Below w10.heap.size w10 w11 := below_of_drew hb; have szw11 := hbx.size; replace z2 := fun o => frozen_later hbx (World.block_lt_of_cell? _ _ k2_0) (z2 o); replace k0_0 := cell_later hbx k0_0; replace k0_1 := cell_later hbx k0_1; replace k0_2 := cell_later hbx k0_2; replace k0_3 := cell_later hbx k0_3; replace k1_0 := cell_later hbx k1_0; replace k1_1 := cell_later hbx k1_1; replace k2_0 := cell_later hbx k2_0; replace k2_1 := cell_later hbx k2_1; replace k2_2 := cell_later hbx k2_2; replace k2_3 := cell_later hbx k2_3; replace k2_4 := cell_later hbx k2_4; replace k2_5 := cell_later hbx k2_5; replace k2_6 := cell_later hbx k2_6; replace k2_7 := cell_later hbx k2_7; replace k4_0 := cell_later hbx k4_0; replace k4_1 := cell_later hbx k4_1; replace k5_0 := cell_later hbx k5_0; replace k5_1 := cell_later hbx k5_1; replace k5_2 := cell_later hbx k5_2; replace k5_3 := cell_later hbx k5_3; replace Q1 := hide ((unhide Q1).later hbx); replace Q2 := hide ((unhide Q2).later hbx); replace ORB := hide ((unhide ORB).later hbx); replace OL := hide ((unhide OL).later hbx); replace OM := hide ((unhide OM).later hbx); have OU := hide (outN_ow ou au nu); have HBr := hide hbx; clear hbx hb ou au nu)
        | (go_at_call 108; refine (addI_v rb u1 r 1 _ ?_ ?_ ((unhide BR).mono (by omega)) ((show Bd 1 1 from ⟨by decide⟩).mono (by omega))).mono ?_; exact (unhide ORB).later (Below.refl _ _); exact (unhide OU).is.later (Below.refl _ _); rintro e w12 ⟨u2, lv, rfl, hb, ov, av, nv⟩; have hbx : Below w11.heap.size w11 w12 := hb; have szw12 := hbx.size; replace z2 := fun o => frozen_later hbx (World.block_lt_of_cell? _ _ k2_0) (z2 o); replace k0_0 := cell_later hbx k0_0; replace k0_1 := cell_later hbx k0_1; replace k0_2 := cell_later hbx k0_2; replace k0_3 := cell_later hbx k0_3; replace k1_0 := cell_later hbx k1_0; replace k1_1 := cell_later hbx k1_1; replace k2_0 := cell_later hbx k2_0; replace k2_1 := cell_later hbx k2_1; replace k2_2 := cell_later hbx k2_2; replace k2_3 := cell_later hbx k2_3; replace k2_4 := cell_later hbx k2_4; replace k2_5 := cell_later hbx k2_5; replace k2_6 := cell_later hbx k2_6; replace k2_7 := cell_later hbx k2_7; replace k4_0 := cell_later hbx k4_0; replace k4_1 := cell_later hbx k4_1; replace k5_0 := cell_later hbx k5_0; replace k5_1 := cell_later hbx k5_1; replace k5_2 := cell_later hbx k5_2; replace k5_3 := cell_later hbx k5_3; replace Q1 := hide ((unhide Q1).later hbx); replace Q2 := hide ((unhide Q2).later hbx); replace ORB := hide ((unhide ORB).later hbx); replace OL := hide ((unhide OL).later hbx); replace OM := hide ((unhide OM).later hbx); replace OU := hide ((unhide OU).later hbx); have OV := hide (outN_ow ov av nv); have HBr := hide (below_on (unhide HBr) hbx); clear hbx hb ov av nv)
        | (go_at_call 106; refine (lowI u2 b (r + 1) S _ ?_ ?_ (Int.ne_of_gt (unhide HS)) ((unhide BR1).mono (by omega)) (unhide K3)).mono ?_; exact (unhide OV).is.later (Below.refl _ _); exact (unhide Q2).later (Below.refl _ _); rintro e w13 ⟨hq, zh, uh, rfl, hb, oh, ah, nh, mh⟩; have hbx : Below w12.heap.size w12 w13 := hb; have szw13 := hbx.size; replace z2 := fun o => frozen_later hbx (World.block_lt_of_cell? _ _ k2_0) (z2 o); replace k0_0 := cell_later hbx k0_0; replace k0_1 := cell_later hbx k0_1; replace k0_2 := cell_later hbx k0_2; replace k0_3 := cell_later hbx k0_3; replace k1_0 := cell_later hbx k1_0; replace k1_1 := cell_later hbx k1_1; replace k2_0 := cell_later hbx k2_0; replace k2_1 := cell_later hbx k2_1; replace k2_2 := cell_later hbx k2_2; replace k2_3 := cell_later hbx k2_3; replace k2_4 := cell_later hbx k2_4; replace k2_5 := cell_later hbx k2_5; replace k2_6 := cell_later hbx k2_6; replace k2_7 := cell_later hbx k2_7; replace k4_0 := cell_later hbx k4_0; replace k4_1 := cell_later hbx k4_1; replace k5_0 := cell_later hbx k5_0; replace k5_1 := cell_later hbx k5_1; replace k5_2 := cell_later hbx k5_2; replace k5_3 := cell_later hbx k5_3; replace Q1 := hide ((unhide Q1).later hbx); replace Q2 := hide ((unhide Q2).later hbx); replace ORB := hide ((unhide ORB).later hbx); replace OL := hide ((unhide OL).later hbx); replace OM := hide ((unhide OM).later hbx); replace OU := hide ((unhide OU).later hbx); replace OV := hide ((unhide OV).later hbx); have OH := hide (isQ_of ah nh mh); have HBr := hide (below_on (unhide HBr) hbx); clear hbx hb oh ah nh mh)
        | (go_at_call 95; refine (leastI ⟨lq, lowN r S, lowD r S⟩ w13.heap.size 0 1 1 [⟨hq, lowN (r + 1) S, lowD (r + 1) S⟩] _ ?_ ?_ rfl (by omega)).mono ?_; (exact ⟨(unhide OL).later ((Below.refl _ _).alloc (Nat.le_refl _) _), (unhide BL).1.mono (by omega), (unhide BL).2.mono (by omega)⟩); (exact rats_one (r := ⟨hq, lowN (r + 1) S, lowD (r + 1) S⟩) ⟨unhide OH, (unhide BH).1, (unhide BH).2⟩); rintro e w14 ⟨rs, xs1, us1, ys1, vs1, rfl, hb0, or, ar, n1, n2, n3, n4⟩; have hb := ba hb0; have szl := hb0.size; (try simp at szl); have hbx : Below w13.heap.size w13 w14 := hb; have szw14 := hbx.size; replace z2 := fun o => frozen_later hbx (World.block_lt_of_cell? _ _ k2_0) (z2 o); replace k0_0 := cell_later hbx k0_0; replace k0_1 := cell_later hbx k0_1; replace k0_2 := cell_later hbx k0_2; replace k0_3 := cell_later hbx k0_3; replace k1_0 := cell_later hbx k1_0; replace k1_1 := cell_later hbx k1_1; replace k2_0 := cell_later hbx k2_0; replace k2_1 := cell_later hbx k2_1; replace k2_2 := cell_later hbx k2_2; replace k2_3 := cell_later hbx k2_3; replace k2_4 := cell_later hbx k2_4; replace k2_5 := cell_later hbx k2_5; replace k2_6 := cell_later hbx k2_6; replace k2_7 := cell_later hbx k2_7; replace k4_0 := cell_later hbx k4_0; replace k4_1 := cell_later hbx k4_1; replace k5_0 := cell_later hbx k5_0; replace k5_1 := cell_later hbx k5_1; replace k5_2 := cell_later hbx k5_2; replace k5_3 := cell_later hbx k5_3; replace Q1 := hide ((unhide Q1).later hbx); replace Q2 := hide ((unhide Q2).later hbx); replace ORB := hide ((unhide ORB).later hbx); replace OL := hide ((unhide OL).later hbx); replace OM := hide ((unhide OM).later hbx); replace OU := hide ((unhide OU).later hbx); replace OV := hide ((unhide OV).later hbx); replace OH := hide ((unhide OH).later hbx); have OR := hide (And.intro or (And.intro ar (And.intro n1 (And.intro n2 (And.intro n3 n4))))); have HBr := hide (below_on (unhide HBr) hbx); clear hbx hb or ar n1 n2 n3 n4 hb0))
      replace HB := hide (below_on (unhide HB) (unhide HBr))
      clear HBr
      have LT : Hid (((List.foldl stLo ⟨lq, lowN r S, lowD r S⟩ [⟨hq, lowN (r + 1) S, lowD (r + 1) S⟩]).N = lowN r S ∧ (List.foldl stLo ⟨lq, lowN r S, lowD r S⟩ [⟨hq, lowN (r + 1) S, lowD (r + 1) S⟩]).D = lowD r S) ∧ ((List.foldl stHi ⟨lq, lowN r S, lowD r S⟩ [⟨hq, lowN (r + 1) S, lowD (r + 1) S⟩]).N = lowN (r + 1) S ∧ (List.foldl stHi ⟨lq, lowN r S, lowD r S⟩ [⟨hq, lowN (r + 1) S, lowD (r + 1) S⟩]).D = lowD (r + 1) S)) := hide (least_two (x := ⟨lq, lowN r S, lowD r S⟩) (y := ⟨hq, lowN (r + 1) S, lowD (r + 1) S⟩) (low_low (Int.ne_of_gt (unhide HS))) (low_low (Int.ne_of_gt (unhide HS))) (unhide LE))
      go_wp2
      refine bodyPost_ret (v := .agg #[.bool rs.lo.num.g, .slice rs.lo.num.a rs.lo.num.n rs.lo.num.c, .bool rs.lo.den.g, .slice rs.lo.den.a rs.lo.den.n rs.lo.den.c, .bool rs.hi.num.g, .slice rs.hi.num.a rs.hi.num.n rs.hi.num.c, .bool rs.hi.den.g, .slice rs.hi.den.a rs.hi.den.n rs.hi.den.c]) (by simp [results, Try.results70, go_sem, k2_0, k2_1, k2_2, k2_3, k2_4, k2_5, k2_6, k2_7]) rfl ?_
      refine ⟨r, unhide HR, ?_⟩
      rw [rHi_ne (unhide HE)]
      have oo := (unhide OR).1
      have aa := (unhide OR).2.1
      have nn := (unhide OR).2.2
      rw [(unhide LT).1.1, (unhide LT).1.2, (unhide LT).2.1, (unhide LT).2.2] at oo aa nn
      exact outS_fin (v := rs) (R := w.heap.size + 1 + 1) (by omega) (unhide HB) (metS_but (w5 := w14) (v := rs) (G := w.heap.size + 1 + 1)) (oo.wide (by simp; omega) (Nat.le_refl _)) aa nn.1 nn.2.1 nn.2.2.1 nn.2.2.2

theorem bitsB (n : Int) (w : World) (b : Bool) (h : (decide (0 ≤ n) && decide (n ≤ 64)) = b) : Calls Try.prog 68 #[.int .i64 n] w fun e w' => e = .returned (.bool b) ∧ Below w.heap.size w w' := by
  refine (bitsI n w).mono ?_
  rintro e w' ⟨rfl, rfl⟩
  exact ⟨by rw [h], Below.refl _ _⟩
theorem rHi_bd {N D S r : Int} (hr : Bd r 25) (hS : Bd S 5) : Bd (rHi N D S r).1 40 ∧ Bd (rHi N D S r).2 40 := by
  unfold rHi
  split
  · exact ⟨(lowN_bd hr).mono (by omega), (lowD_bd hS).mono (by omega)⟩
  · exact ⟨(lowN_bd (hr.add ((show Bd 1 1 from ⟨by decide⟩).mono (by omega)))).mono (by omega), (lowD_bd hS).mono (by omega)⟩
theorem rHi_pos {N D S r : Int} (hS : S ≠ 0) : 0 < (rHi N D S r).2 := by
  unfold rHi
  split
  · exact lowD_pos hS
  · exact lowD_pos hS
/-- Whether a root's bounds are told. -/
def pR (d : QD) (n : Int) : Bool := (decide (0 ≤ n) && decide (n ≤ 64)) && (gQ d && !d.num.g)
/-- What is told of a root. -/
def AnsRt (d : QD) (n : Int) (o : SD) (ok : Bool) : Prop := ∃ r, (pR d n = true → Rt (nQ d * (2 ^ n.toNat * 2 ^ n.toNat) / dQ d) r) ∧ AnsS (pR d n) (lowN r (2 ^ n.toNat)) (lowD r (2 ^ n.toNat)) (rHi (nQ d) (dQ d) (2 ^ n.toNat) r).1 (rHi (nQ d) (dQ d) (2 ^ n.toNat) r).2 o ok
theorem AnsRt.same {d : QD} {n : Int} {o o' : SD} {ok ok' : Bool} (h : AnsRt d n o ok) (k : AnsRt d n o' ok') : o = o' ∧ ok = ok' := by
  obtain ⟨r, h1, h2⟩ := h
  obtain ⟨r', k1, k2⟩ := k
  by_cases hp : pR d n = true
  · obtain rfl := (h1 hp).same (k1 hp)
    exact h2.same k2
  · rcases h2 with ⟨e, _⟩ | ⟨_, a, b⟩
    · exact absurd e hp
    · rcases k2 with ⟨e, _⟩ | ⟨_, a', b'⟩
      · exact absurd e hp
      · exact ⟨b.trans b'.symm, a.trans a'.symm⟩
theorem AnsRt.lens {d : QD} {n : Int} {o : SD} {ok : Bool} (h : AnsRt d n o ok) : o.lo.num.xs.length ≤ 40 ∧ o.lo.den.xs.length ≤ 40 ∧ o.hi.num.xs.length ≤ 40 ∧ o.hi.den.xs.length ≤ 40 := by
  obtain ⟨r, h1, h2⟩ := h
  exact h2.lens
theorem ansRt_none {d : QD} {n : Int} (h : pR d n = false) : AnsRt d n (⟨⟨⟨false, []⟩, ⟨false, []⟩⟩, ⟨⟨false, []⟩, ⟨false, []⟩⟩⟩ : SD) false := ⟨0, (fun e => absurd (h.symm.trans e) (by decide)), .inr ⟨h, rfl, rfl⟩⟩

set_option maxHeartbeats 8000000 in
theorem RootSI (q : QV) (d : QD) (n : Int) (w : World) (h : AllAr w [(q.num, d.num), (q.den, d.den)]) : Calls Try.prog 29 #[.agg #[.bool q.num.g, .slice q.num.a q.num.n q.num.c, .bool q.den.g, .slice q.den.a q.den.n q.den.c], .int .i64 n] w (RetS w (AnsRt d n)) := by
  have H1 := hide h
  clear h
  cases hb0 : (decide (0 ≤ n) && decide (n ≤ 64))
  · have HP : Hid (pR d n = false) := hide (by unfold pR; rw [hb0]; rfl)
    have BB := hide hb0
    clear hb0
    have B0 := hide (show Below w.heap.size w ((w.alloc (.cells #[.bool q.num.g, .slice q.num.a q.num.n q.num.c, .bool q.den.g, .slice q.den.a q.den.n q.den.c] 38)).alloc (.cells #[.bool false, .slice none 0 0, .bool false, .slice none 0 0, .bool false, .slice none 0 0, .bool false, .slice none 0 0] 49)) from (((Below.refl _ _).alloc (by simp) _).alloc (by simp) _))
    go_enter Try.func29, Try.ntmps29
    go_wp2_with fail
    refine (bitsB n _ false (unhide BB)).mono ?_
    rintro e w1 ⟨rfl, hb⟩
    have s1 : w.heap.size + 1 < w1.heap.size := by have := hb.size; simp at this; omega
    have k1_0 : w1.cell? ⟨w.heap.size + 1, 0, none⟩ = some (.bool false) := cell_later hb (by simp [go_sem])
    have k1_1 : w1.cell? ⟨w.heap.size + 1, 1, none⟩ = some (.slice none 0 0) := cell_later hb (by simp [go_sem])
    have k1_2 : w1.cell? ⟨w.heap.size + 1, 2, none⟩ = some (.bool false) := cell_later hb (by simp [go_sem])
    have k1_3 : w1.cell? ⟨w.heap.size + 1, 3, none⟩ = some (.slice none 0 0) := cell_later hb (by simp [go_sem])
    have k1_4 : w1.cell? ⟨w.heap.size + 1, 4, none⟩ = some (.bool false) := cell_later hb (by simp [go_sem])
    have k1_5 : w1.cell? ⟨w.heap.size + 1, 5, none⟩ = some (.slice none 0 0) := cell_later hb (by simp [go_sem])
    have k1_6 : w1.cell? ⟨w.heap.size + 1, 6, none⟩ = some (.bool false) := cell_later hb (by simp [go_sem])
    have k1_7 : w1.cell? ⟨w.heap.size + 1, 7, none⟩ = some (.slice none 0 0) := cell_later hb (by simp [go_sem])
    have z1 : ∀ o, w1.frozen? ⟨w.heap.size + 1, o, none⟩ = false := fun o => frozen_later hb (by simp) (by simp [go_sem])
    have HB := hide (below_on (unhide B0) hb)
    clear hb
    go_wp2
    refine bodyPost_ret (v := .tuple #[.agg #[.bool false, .slice none 0 0, .bool false, .slice none 0 0, .bool false, .slice none 0 0, .bool false, .slice none 0 0], .bool false]) (by simp [results, Try.results29, go_sem, k1_0, k1_1, k1_2, k1_3, k1_4, k1_5, k1_6, k1_7]) rfl ?_
    exact retS_fin (v := (⟨⟨⟨false, none, 0, 0⟩, ⟨false, none, 0, 0⟩⟩, ⟨⟨false, none, 0, 0⟩, ⟨false, none, 0, 0⟩⟩⟩ : SV)) (d := (⟨⟨⟨false, []⟩, ⟨false, []⟩⟩, ⟨⟨false, []⟩, ⟨false, []⟩⟩⟩ : SD)) (R := w.heap.size + 1) (by omega) (unhide HB) (metS_but (w5 := w1) (v := (⟨⟨⟨false, none, 0, 0⟩, ⟨false, none, 0, 0⟩⟩, ⟨⟨false, none, 0, 0⟩, ⟨false, none, 0, 0⟩⟩⟩ : SV)) (G := w.heap.size + 1)) (zeroS _ _ _) (ansRt_none (unhide HP))
  · cases hg1 : gQ d
    · have HP : Hid (pR d n = false) := hide (by unfold pR; rw [hb0, hg1]; rfl)
      have BB := hide hb0
      have G1 := hide (fun w1 (k : AllAr w1 [(q.num, d.num), (q.den, d.den)]) => goodQI q d w1 k)
      rw [hg1] at G1
      clear hb0 hg1
      have B0 := hide (show Below w.heap.size w ((w.alloc (.cells #[.bool q.num.g, .slice q.num.a q.num.n q.num.c, .bool q.den.g, .slice q.den.a q.den.n q.den.c] 38)).alloc (.cells #[.bool false, .slice none 0 0, .bool false, .slice none 0 0, .bool false, .slice none 0 0, .bool false, .slice none 0 0] 49)) from (((Below.refl _ _).alloc (by simp) _).alloc (by simp) _))
      go_enter Try.func29, Try.ntmps29
      go_wp2_with fail
      refine (bitsB n _ true (unhide BB)).mono ?_
      rintro e w1 ⟨rfl, hb⟩
      have s1 : w.heap.size + 1 < w1.heap.size := by have := hb.size; simp at this; omega
      have k0_0 : w1.cell? ⟨w.heap.size, 0, none⟩ = some (.bool q.num.g) := cell_later hb (by simp [go_sem])
      have k0_1 : w1.cell? ⟨w.heap.size, 1, none⟩ = some (.slice q.num.a q.num.n q.num.c) := cell_later hb (by simp [go_sem])
      have k0_2 : w1.cell? ⟨w.heap.size, 2, none⟩ = some (.bool q.den.g) := cell_later hb (by simp [go_sem])
      have k0_3 : w1.cell? ⟨w.heap.size, 3, none⟩ = some (.slice q.den.a q.den.n q.den.c) := cell_later hb (by simp [go_sem])
      have k1_0 : w1.cell? ⟨w.heap.size + 1, 0, none⟩ = some (.bool false) := cell_later hb (by simp [go_sem])
      have k1_1 : w1.cell? ⟨w.heap.size + 1, 1, none⟩ = some (.slice none 0 0) := cell_later hb (by simp [go_sem])
      have k1_2 : w1.cell? ⟨w.heap.size + 1, 2, none⟩ = some (.bool false) := cell_later hb (by simp [go_sem])
      have k1_3 : w1.cell? ⟨w.heap.size + 1, 3, none⟩ = some (.slice none 0 0) := cell_later hb (by simp [go_sem])
      have k1_4 : w1.cell? ⟨w.heap.size + 1, 4, none⟩ = some (.bool false) := cell_later hb (by simp [go_sem])
      have k1_5 : w1.cell? ⟨w.heap.size + 1, 5, none⟩ = some (.slice none 0 0) := cell_later hb (by simp [go_sem])
      have k1_6 : w1.cell? ⟨w.heap.size + 1, 6, none⟩ = some (.bool false) := cell_later hb (by simp [go_sem])
      have k1_7 : w1.cell? ⟨w.heap.size + 1, 7, none⟩ = some (.slice none 0 0) := cell_later hb (by simp [go_sem])
      have z1 : ∀ o, w1.frozen? ⟨w.heap.size + 1, o, none⟩ = false := fun o => frozen_later hb (by simp) (by simp [go_sem])
      have HB := hide (below_on (unhide B0) hb)
      clear hb
      go_wp2_with fail
      refine (unhide G1 _ ((unhide H1).later (unhide HB))).mono ?_
      rintro e w2 ⟨rfl, hb⟩
      have s2 := hb.size
      replace z1 := fun o => frozen_later hb (World.block_lt_of_cell? _ _ k1_0) (z1 o)
      replace k1_0 := cell_later hb k1_0
      replace k1_1 := cell_later hb k1_1
      replace k1_2 := cell_later hb k1_2
      replace k1_3 := cell_later hb k1_3
      replace k1_4 := cell_later hb k1_4
      replace k1_5 := cell_later hb k1_5
      replace k1_6 := cell_later hb k1_6
      replace k1_7 := cell_later hb k1_7
      clear k0_0 k0_1 k0_2 k0_3
      replace HB := hide (below_on (unhide HB) hb)
      clear hb
      go_wp2
      refine bodyPost_ret (v := .tuple #[.agg #[.bool false, .slice none 0 0, .bool false, .slice none 0 0, .bool false, .slice none 0 0, .bool false, .slice none 0 0], .bool false]) (by simp [results, Try.results29, go_sem, k1_0, k1_1, k1_2, k1_3, k1_4, k1_5, k1_6, k1_7]) rfl ?_
      exact retS_fin (v := (⟨⟨⟨false, none, 0, 0⟩, ⟨false, none, 0, 0⟩⟩, ⟨⟨false, none, 0, 0⟩, ⟨false, none, 0, 0⟩⟩⟩ : SV)) (d := (⟨⟨⟨false, []⟩, ⟨false, []⟩⟩, ⟨⟨false, []⟩, ⟨false, []⟩⟩⟩ : SD)) (R := w.heap.size + 1) (by omega) (unhide HB) (metS_but (w5 := w2) (v := (⟨⟨⟨false, none, 0, 0⟩, ⟨false, none, 0, 0⟩⟩, ⟨⟨false, none, 0, 0⟩, ⟨false, none, 0, 0⟩⟩⟩ : SV)) (G := w.heap.size + 1)) (zeroS _ _ _) (ansRt_none (unhide HP))
    · cases hq : q.num.g
      · have SG := hide ((unhide H1).head.sg.symm.trans hq)
        have BB := hide hb0
        have G1 := hide (fun w1 (k : AllAr w1 [(q.num, d.num), (q.den, d.den)]) => goodQI q d w1 k)
        rw [hg1] at G1
        have HP : Hid (pR d n = true) := hide (by unfold pR; rw [hb0, hg1, show d.num.g = false from unhide SG]; rfl)
        have hn : 0 ≤ n ∧ n ≤ 64 := by revert hb0; rw [Bool.and_eq_true, decide_eq_true_eq, decide_eq_true_eq]; exact id
        obtain ⟨m, rfl⟩ := Int.eq_ofNat_of_zero_le hn.1
        have hm : m ≤ 64 := by omega
        have J := isGood_of (unhide H1) hg1
        have NN : Hid (0 ≤ nQ d) := hide (by
          have h := (goodB_neg (goodR_parts hg1).1).1
          refine Int.not_lt.1 fun hc => ?_
          have := h.1 hc
          rw [show d.num.g = false from unhide SG] at this
          cases this)
        have RB := hide (fun (b : BV) w1 (h : IsQ w1 q (nQ d) (dQ d)) (h' : IsB w1 b (2 ^ m)) => rootB q b (nQ d) (dQ d) (2 ^ m) w1 h h' (unhide NN) J.pos (two_pos m) J.kn J.kd ((two_bd m).mono (by omega)))
        have JI := hide J.is
        have JK := hide (And.intro J.pos J.kn)
        rw [hq] at G1 RB
        clear hb0 hg1 hq hn J
        have B0 := hide (show Below w.heap.size w ((w.alloc (.cells #[.bool false, .slice q.num.a q.num.n q.num.c, .bool q.den.g, .slice q.den.a q.den.n q.den.c] 38)).alloc (.cells #[.bool false, .slice none 0 0, .bool false, .slice none 0 0, .bool false, .slice none 0 0, .bool false, .slice none 0 0] 49)) from (((Below.refl _ _).alloc (by simp) _).alloc (by simp) _))
        go_enter Try.func29, Try.ntmps29
        go_wp2_with fail
        refine (bitsB (m : Int) _ true (unhide BB)).mono ?_
        rintro e w1 ⟨rfl, hb⟩
        have s1 : w.heap.size + 1 < w1.heap.size := by have := hb.size; simp at this; omega
        have k0_0 : w1.cell? ⟨w.heap.size, 0, none⟩ = some (.bool false) := cell_later hb (by simp [go_sem])
        have k0_1 : w1.cell? ⟨w.heap.size, 1, none⟩ = some (.slice q.num.a q.num.n q.num.c) := cell_later hb (by simp [go_sem])
        have k0_2 : w1.cell? ⟨w.heap.size, 2, none⟩ = some (.bool q.den.g) := cell_later hb (by simp [go_sem])
        have k0_3 : w1.cell? ⟨w.heap.size, 3, none⟩ = some (.slice q.den.a q.den.n q.den.c) := cell_later hb (by simp [go_sem])
        have k1_0 : w1.cell? ⟨w.heap.size + 1, 0, none⟩ = some (.bool false) := cell_later hb (by simp [go_sem])
        have k1_1 : w1.cell? ⟨w.heap.size + 1, 1, none⟩ = some (.slice none 0 0) := cell_later hb (by simp [go_sem])
        have k1_2 : w1.cell? ⟨w.heap.size + 1, 2, none⟩ = some (.bool false) := cell_later hb (by simp [go_sem])
        have k1_3 : w1.cell? ⟨w.heap.size + 1, 3, none⟩ = some (.slice none 0 0) := cell_later hb (by simp [go_sem])
        have k1_4 : w1.cell? ⟨w.heap.size + 1, 4, none⟩ = some (.bool false) := cell_later hb (by simp [go_sem])
        have k1_5 : w1.cell? ⟨w.heap.size + 1, 5, none⟩ = some (.slice none 0 0) := cell_later hb (by simp [go_sem])
        have k1_6 : w1.cell? ⟨w.heap.size + 1, 6, none⟩ = some (.bool false) := cell_later hb (by simp [go_sem])
        have k1_7 : w1.cell? ⟨w.heap.size + 1, 7, none⟩ = some (.slice none 0 0) := cell_later hb (by simp [go_sem])
        have z1 : ∀ o, w1.frozen? ⟨w.heap.size + 1, o, none⟩ = false := fun o => frozen_later hb (by simp) (by simp [go_sem])
        have HB := hide (below_on (unhide B0) hb)
        clear hb
        go_wp2_with fail
        refine (unhide G1 _ ((unhide H1).later (unhide HB))).mono ?_
        rintro e w2 ⟨rfl, hb⟩
        have s2 := hb.size
        replace z1 := fun o => frozen_later hb (World.block_lt_of_cell? _ _ k1_0) (z1 o)
        replace k0_0 := cell_later hb k0_0
        replace k0_1 := cell_later hb k0_1
        replace k0_2 := cell_later hb k0_2
        replace k0_3 := cell_later hb k0_3
        replace k1_0 := cell_later hb k1_0
        replace k1_1 := cell_later hb k1_1
        replace k1_2 := cell_later hb k1_2
        replace k1_3 := cell_later hb k1_3
        replace k1_4 := cell_later hb k1_4
        replace k1_5 := cell_later hb k1_5
        replace k1_6 := cell_later hb k1_6
        replace k1_7 := cell_later hb k1_7
        replace HB := hide (below_on (unhide HB) hb)
        clear hb
        have QQ := hide ((unhide JI).later (unhide HB))
        go_upto_region 3 with fail
        have ne0_1 : w.heap.size ≠ w.heap.size + 1 := by omega
        go_region_held3 (fun w' => w'.cell? ⟨w.heap.size, 0, none⟩ = some (.bool false) ∧ w'.cell? ⟨w.heap.size, 1, none⟩ = some (.slice q.num.a q.num.n q.num.c) ∧ w'.cell? ⟨w.heap.size, 2, none⟩ = some (.bool q.den.g) ∧ w'.cell? ⟨w.heap.size, 3, none⟩ = some (.slice q.den.a q.den.n q.den.c)) (with_reducible (first | exact ⟨k0_0, k0_1, k0_2, k0_3⟩ | exact ⟨cd_other k0_0, cd_other k0_1, cd_other k0_2, cd_other k0_3⟩ | exact ⟨cs_other (cs_other (cs_other (cs_other (cs_other (cs_other (cs_other (cs_other (k0_0) ne0_1) ne0_1) ne0_1) ne0_1) ne0_1) ne0_1) ne0_1) ne0_1, cs_other (cs_other (cs_other (cs_other (cs_other (cs_other (cs_other (cs_other (k0_1) ne0_1) ne0_1) ne0_1) ne0_1) ne0_1) ne0_1) ne0_1) ne0_1, cs_other (cs_other (cs_other (cs_other (cs_other (cs_other (cs_other (cs_other (k0_2) ne0_1) ne0_1) ne0_1) ne0_1) ne0_1) ne0_1) ne0_1) ne0_1, cs_other (cs_other (cs_other (cs_other (cs_other (cs_other (cs_other (cs_other (k0_3) ne0_1) ne0_1) ne0_1) ne0_1) ne0_1) ne0_1) ne0_1) ne0_1⟩ | fail))
          (first
          | (go_at_call 71; refine (powI m _ hm).mono ?_; rintro e w3 ⟨pb, lp, rfl, hb, op, ap, np⟩; have hbx : Below w2.heap.size w2 w3 := below_of_drew hb; have szw3 := hbx.size; replace z1 := fun o => frozen_later hbx (World.block_lt_of_cell? _ _ k1_0) (z1 o); replace k0_0 := cell_later hbx k0_0; replace k0_1 := cell_later hbx k0_1; replace k0_2 := cell_later hbx k0_2; replace k0_3 := cell_later hbx k0_3; replace k1_0 := cell_later hbx k1_0; replace k1_1 := cell_later hbx k1_1; replace k1_2 := cell_later hbx k1_2; replace k1_3 := cell_later hbx k1_3; replace k1_4 := cell_later hbx k1_4; replace k1_5 := cell_later hbx k1_5; replace k1_6 := cell_later hbx k1_6; replace k1_7 := cell_later hbx k1_7; replace QQ := hide ((unhide QQ).later hbx); have OP := hide (outN_ow op ap np); have HBr := hide hbx; clear hbx hb op ap np)
          | (go_at_call 70; refine (unhide RB pb _ ?_ ?_).mono ?_; exact (unhide QQ).later (Below.refl _ _); exact (unhide OP).is.later (Below.refl _ _); rintro e w4 ⟨r, hr, rs, xs1, us1, ys1, vs1, rfl, hb, or, ar, n1, n2, n3, n4⟩; have hbx : Below w3.heap.size w3 w4 := hb; have szw4 := hbx.size; replace z1 := fun o => frozen_later hbx (World.block_lt_of_cell? _ _ k1_0) (z1 o); replace k0_0 := cell_later hbx k0_0; replace k0_1 := cell_later hbx k0_1; replace k0_2 := cell_later hbx k0_2; replace k0_3 := cell_later hbx k0_3; replace k1_0 := cell_later hbx k1_0; replace k1_1 := cell_later hbx k1_1; replace k1_2 := cell_later hbx k1_2; replace k1_3 := cell_later hbx k1_3; replace k1_4 := cell_later hbx k1_4; replace k1_5 := cell_later hbx k1_5; replace k1_6 := cell_later hbx k1_6; replace k1_7 := cell_later hbx k1_7; replace QQ := hide ((unhide QQ).later hbx); replace OP := hide ((unhide OP).later hbx); have OR := hide (And.intro hr (And.intro or (And.intro n1 (And.intro n2 (And.intro n3 n4))))); have HBr := hide (below_on (unhide HBr) hbx); clear hbx hb hr or ar n1 n2 n3 n4))
        replace HB := hide (below_on (unhide HB) (unhide HBr))
        clear HBr
        go_wp2
        refine bodyPost_ret (v := .tuple #[.agg #[.bool rs.lo.num.g, .slice rs.lo.num.a rs.lo.num.n rs.lo.num.c, .bool rs.lo.den.g, .slice rs.lo.den.a rs.lo.den.n rs.lo.den.c, .bool rs.hi.num.g, .slice rs.hi.num.a rs.hi.num.n rs.hi.num.c, .bool rs.hi.den.g, .slice rs.hi.den.a rs.hi.den.n rs.hi.den.c], .bool true]) (by simp [results, Try.results29, go_sem, k1_0, k1_1, k1_2, k1_3, k1_4, k1_5, k1_6, k1_7]) rfl ?_
        obtain ⟨hr, or, n1, n2, n3, n4⟩ := unhide OR
        have br := root_bd (unhide NN) (unhide JK).1 (unhide JK).2 ((two_bd m).mono (by omega)) hr
        have bh := rHi_bd (N := nQ d) (D := dQ d) br ((two_bd m).mono (show m / 16 + 1 ≤ 5 by omega))
        refine retS_fin (v := rs) (R := w.heap.size + 1) (by omega) (unhide HB) (metS_but (w5 := w4) (v := rs) (G := w.heap.size + 1)) (or.wide (by omega) (Nat.le_refl _)) ⟨r, fun _ => hr, .inl ⟨unhide HP, xs1, us1, ys1, vs1, n1, n2, n3, n4, .inl ⟨⟨n1.len_le ((lowN_bd br).mono (by omega)), n2.len_le ((lowD_bd ((two_bd m).mono (show m / 16 + 1 ≤ 40 by omega))))⟩, ⟨n3.len_le bh.1, n4.len_le bh.2⟩, rfl, rfl⟩⟩⟩
      · have SG := hide ((unhide H1).head.sg.symm.trans hq)
        have BB := hide hb0
        have G1 := hide (fun w1 (k : AllAr w1 [(q.num, d.num), (q.den, d.den)]) => goodQI q d w1 k)
        rw [hg1] at G1
        have HP : Hid (pR d n = false) := hide (by unfold pR; rw [hb0, hg1, show d.num.g = true from unhide SG]; rfl)
        rw [hq] at G1
        clear hb0 hg1 hq
        have B0 := hide (show Below w.heap.size w ((w.alloc (.cells #[.bool true, .slice q.num.a q.num.n q.num.c, .bool q.den.g, .slice q.den.a q.den.n q.den.c] 38)).alloc (.cells #[.bool false, .slice none 0 0, .bool false, .slice none 0 0, .bool false, .slice none 0 0, .bool false, .slice none 0 0] 49)) from (((Below.refl _ _).alloc (by simp) _).alloc (by simp) _))
        go_enter Try.func29, Try.ntmps29
        go_wp2_with fail
        refine (bitsB n _ true (unhide BB)).mono ?_
        rintro e w1 ⟨rfl, hb⟩
        have s1 : w.heap.size + 1 < w1.heap.size := by have := hb.size; simp at this; omega
        have k0_0 : w1.cell? ⟨w.heap.size, 0, none⟩ = some (.bool true) := cell_later hb (by simp [go_sem])
        have k0_1 : w1.cell? ⟨w.heap.size, 1, none⟩ = some (.slice q.num.a q.num.n q.num.c) := cell_later hb (by simp [go_sem])
        have k0_2 : w1.cell? ⟨w.heap.size, 2, none⟩ = some (.bool q.den.g) := cell_later hb (by simp [go_sem])
        have k0_3 : w1.cell? ⟨w.heap.size, 3, none⟩ = some (.slice q.den.a q.den.n q.den.c) := cell_later hb (by simp [go_sem])
        have k1_0 : w1.cell? ⟨w.heap.size + 1, 0, none⟩ = some (.bool false) := cell_later hb (by simp [go_sem])
        have k1_1 : w1.cell? ⟨w.heap.size + 1, 1, none⟩ = some (.slice none 0 0) := cell_later hb (by simp [go_sem])
        have k1_2 : w1.cell? ⟨w.heap.size + 1, 2, none⟩ = some (.bool false) := cell_later hb (by simp [go_sem])
        have k1_3 : w1.cell? ⟨w.heap.size + 1, 3, none⟩ = some (.slice none 0 0) := cell_later hb (by simp [go_sem])
        have k1_4 : w1.cell? ⟨w.heap.size + 1, 4, none⟩ = some (.bool false) := cell_later hb (by simp [go_sem])
        have k1_5 : w1.cell? ⟨w.heap.size + 1, 5, none⟩ = some (.slice none 0 0) := cell_later hb (by simp [go_sem])
        have k1_6 : w1.cell? ⟨w.heap.size + 1, 6, none⟩ = some (.bool false) := cell_later hb (by simp [go_sem])
        have k1_7 : w1.cell? ⟨w.heap.size + 1, 7, none⟩ = some (.slice none 0 0) := cell_later hb (by simp [go_sem])
        have z1 : ∀ o, w1.frozen? ⟨w.heap.size + 1, o, none⟩ = false := fun o => frozen_later hb (by simp) (by simp [go_sem])
        have HB := hide (below_on (unhide B0) hb)
        clear hb
        go_wp2_with fail
        refine (unhide G1 _ ((unhide H1).later (unhide HB))).mono ?_
        rintro e w2 ⟨rfl, hb⟩
        have s2 := hb.size
        replace z1 := fun o => frozen_later hb (World.block_lt_of_cell? _ _ k1_0) (z1 o)
        replace k0_0 := cell_later hb k0_0
        replace k1_0 := cell_later hb k1_0
        replace k1_1 := cell_later hb k1_1
        replace k1_2 := cell_later hb k1_2
        replace k1_3 := cell_later hb k1_3
        replace k1_4 := cell_later hb k1_4
        replace k1_5 := cell_later hb k1_5
        replace k1_6 := cell_later hb k1_6
        replace k1_7 := cell_later hb k1_7
        clear k0_1 k0_2 k0_3
        replace HB := hide (below_on (unhide HB) hb)
        clear hb
        go_wp2
        refine bodyPost_ret (v := .tuple #[.agg #[.bool false, .slice none 0 0, .bool false, .slice none 0 0, .bool false, .slice none 0 0, .bool false, .slice none 0 0], .bool false]) (by simp [results, Try.results29, go_sem, k1_0, k1_1, k1_2, k1_3, k1_4, k1_5, k1_6, k1_7]) rfl ?_
        exact retS_fin (v := (⟨⟨⟨false, none, 0, 0⟩, ⟨false, none, 0, 0⟩⟩, ⟨⟨false, none, 0, 0⟩, ⟨false, none, 0, 0⟩⟩⟩ : SV)) (d := (⟨⟨⟨false, []⟩, ⟨false, []⟩⟩, ⟨⟨false, []⟩, ⟨false, []⟩⟩⟩ : SD)) (R := w.heap.size + 1) (by omega) (unhide HB) (metS_but (w5 := w2) (v := (⟨⟨⟨false, none, 0, 0⟩, ⟨false, none, 0, 0⟩⟩, ⟨⟨false, none, 0, 0⟩, ⟨false, none, 0, 0⟩⟩⟩ : SV)) (G := w.heap.size + 1)) (zeroS _ _ _) (ansRt_none (unhide HP))
end Go.Proofs.Ytcbmecnipldcfaa
namespace Go.Proofs.Ytcbmecnipldcfaa
open Go.RowKit
set_option linter.unusedVariables false
set_option maxRecDepth 100000
set_option linter.unusedSimpArgs false

theorem lo_bd {V r : Int} (h0 : 0 ≤ r) (h : r * r ≤ V) (k : Bd V 50) : Bd r 25 := by
  have h3 : (r * r).natAbs ≤ V.natAbs := by
    have : 0 ≤ r * r := Int.mul_nonneg h0 h0
    omega
  have h4 := (k.le h3).lt
  refine ⟨?_⟩
  rw [Int.natAbs_mul] at h4
  refine Nat.not_le.1 fun hc => ?_
  have h5 := Nat.mul_le_mul hc hc
  rw [← Nat.pow_add] at h5
  omega
theorem rt_start {n : Nat} {V : Int} (h : V < 65536 ^ n) : V < (0 + 2 ^ (8 * n + 2)) * (0 + 2 ^ (8 * n + 2)) := by
  rw [Int.zero_add, ← Int.pow_add]
  have h1 := Int.ofNat_le.2 (Nat.pow_le_pow_right (show 0 < 2 by omega) (show 16 * n ≤ (8 * n + 2) + (8 * n + 2) by omega))
  rw [Int.natCast_pow, Int.natCast_pow] at h1
  rw [show (65536 : Int) = 2 ^ 16 from rfl, ← Int.pow_mul] at h
  exact Int.lt_of_lt_of_le h h1
theorem make_floor {N D : Int} (hD : 0 < D) : lowN N D / lowD N D = N / D := floor_cross (lowD_pos (Int.ne_of_gt hD)) hD (low_cross hD)
/-- The boxes of RootSpan, of the specification. -/
structure Rs (w wr : World) (a : Option Addr) (n c : Nat) (dn : BV) (P G H : Nat) (pb xb lb : BV) (S V lo : Int) : Prop where
  a0 : wr.cell? ⟨w.heap.size, 0, none⟩ = some (.bool false)
  a1 : wr.cell? ⟨w.heap.size, 1, none⟩ = some (.slice a n c)
  a2 : wr.cell? ⟨w.heap.size, 2, none⟩ = some (.bool dn.g)
  a3 : wr.cell? ⟨w.heap.size, 3, none⟩ = some (.slice dn.a dn.n dn.c)
  r0 : wr.cell? ⟨w.heap.size + 1, 0, none⟩ = some (.bool false)
  r1 : wr.cell? ⟨w.heap.size + 1, 1, none⟩ = some (.slice none 0 0)
  r2 : wr.cell? ⟨w.heap.size + 1, 2, none⟩ = some (.bool false)
  r3 : wr.cell? ⟨w.heap.size + 1, 3, none⟩ = some (.slice none 0 0)
  r4 : wr.cell? ⟨w.heap.size + 1, 4, none⟩ = some (.bool false)
  r5 : wr.cell? ⟨w.heap.size + 1, 5, none⟩ = some (.slice none 0 0)
  r6 : wr.cell? ⟨w.heap.size + 1, 6, none⟩ = some (.bool false)
  r7 : wr.cell? ⟨w.heap.size + 1, 7, none⟩ = some (.slice none 0 0)
  fr : ∀ o, wr.frozen? ⟨w.heap.size + 1, o, none⟩ = false
  p0 : wr.cell? ⟨P, 0, none⟩ = some (.bool pb.g)
  p1 : wr.cell? ⟨P, 1, none⟩ = some (.slice pb.a pb.n pb.c)
  g0 : wr.cell? ⟨G, 0, none⟩ = some (.bool xb.g)
  g1 : wr.cell? ⟨G, 1, none⟩ = some (.slice xb.a xb.n xb.c)
  h0 : wr.cell? ⟨H, 0, none⟩ = some (.bool lb.g)
  h1 : wr.cell? ⟨H, 1, none⟩ = some (.slice lb.a lb.n lb.c)
  fh : ∀ o, wr.frozen? ⟨H, o, none⟩ = false
  op : Ow (w.heap.size + 2) wr.heap.size wr pb S
  ox : Ow (w.heap.size + 2) wr.heap.size wr xb V
  ol : Ow (w.heap.size + 2) wr.heap.size wr lb lo
  bel : Below w.heap.size w wr
  nP : P ≠ H
  nG : G ≠ H
  gt : w.heap.size + 1 < H
theorem Rs.later {w wr wy : World} {a : Option Addr} {n c : Nat} {dn : BV} {P G H : Nat} {pb xb lb : BV} {S V lo : Int} (h : Rs w wr a n c dn P G H pb xb lb S V lo) (hb : Below wr.heap.size wr wy) : Rs w wy a n c dn P G H pb xb lb S V lo :=
  ⟨cell_later hb h.a0, cell_later hb h.a1, cell_later hb h.a2, cell_later hb h.a3, cell_later hb h.r0, cell_later hb h.r1, cell_later hb h.r2, cell_later hb h.r3, cell_later hb h.r4, cell_later hb h.r5, cell_later hb h.r6, cell_later hb h.r7, fun o => frozen_later hb (World.block_lt_of_cell? _ _ h.r0) (h.fr o), cell_later hb h.p0, cell_later hb h.p1, cell_later hb h.g0, cell_later hb h.g1, cell_later hb h.h0, cell_later hb h.h1, fun o => frozen_later hb (World.block_lt_of_cell? _ _ h.h0) (h.fh o), (h.op.later hb).wide (Nat.le_refl _) hb.size, (h.ox.later hb).wide (Nat.le_refl _) hb.size, (h.ol.later hb).wide (Nat.le_refl _) hb.size, below_on h.bel hb, h.nP, h.nG, h.gt⟩
theorem Rs.set {w wr : World} {a : Option Addr} {n c : Nat} {dn : BV} {P G H : Nat} {pb xb lb y : BV} {S V lo lo' : Int} (h : Rs w wr a n c dn P G H pb xb lb S V lo) (k : Ow (w.heap.size + 2) wr.heap.size wr y lo') : Rs w ((wr.setCell ⟨H, 0, none⟩ (.bool y.g)).setCell ⟨H, 1, none⟩ (.slice y.a y.n y.c)) a n c dn P G H pb xb y S V lo' := by
  have hb := metB_but (w5 := wr) (v := y) (G := H)
  have hg := h.gt
  have hP := h.nP
  have hG := h.nG
  refine ⟨cs_other (cs_other h.a0 (by omega)) (by omega), cs_other (cs_other h.a1 (by omega)) (by omega), cs_other (cs_other h.a2 (by omega)) (by omega), cs_other (cs_other h.a3 (by omega)) (by omega), cs_other (cs_other h.r0 (by omega)) (by omega), cs_other (cs_other h.r1 (by omega)) (by omega), cs_other (cs_other h.r2 (by omega)) (by omega), cs_other (cs_other h.r3 (by omega)) (by omega), cs_other (cs_other h.r4 (by omega)) (by omega), cs_other (cs_other h.r5 (by omega)) (by omega), cs_other (cs_other h.r6 (by omega)) (by omega), cs_other (cs_other h.r7 (by omega)) (by omega), fun o => by simp [go_sem, h.fr o], cs_other (cs_other h.p0 (by omega)) (by omega), cs_other (cs_other h.p1 (by omega)) (by omega), cs_other (cs_other h.g0 (by omega)) (by omega), cs_other (cs_other h.g1 (by omega)) (by omega), by simp [go_sem, h.h0, h.h1], by simp [go_sem, h.h0, h.h1], fun o => by simp [go_sem, h.fh o], (h.op.bx hb h.h0).wide (Nat.le_refl _) hb.size, (h.ox.bx hb h.h0).wide (Nat.le_refl _) hb.size, (k.bx hb h.h0).wide (Nat.le_refl _) hb.size, hb.below h.bel (by omega) h.bel.size, h.nP, h.nG, h.gt⟩
/-- A variable's box that holds two fractions of the call's own. -/
structure BxR (wk wx : World) (G : Nat) (x y : QV) (N D N' D' : Int) : Prop where
  lo : wk.heap.size ≤ G
  hi : G < wx.heap.size
  c0 : wx.cell? ⟨G, 0, none⟩ = some (.bool x.num.g)
  c1 : wx.cell? ⟨G, 1, none⟩ = some (.slice x.num.a x.num.n x.num.c)
  c2 : wx.cell? ⟨G, 2, none⟩ = some (.bool x.den.g)
  c3 : wx.cell? ⟨G, 3, none⟩ = some (.slice x.den.a x.den.n x.den.c)
  c4 : wx.cell? ⟨G, 4, none⟩ = some (.bool y.num.g)
  c5 : wx.cell? ⟨G, 5, none⟩ = some (.slice y.num.a y.num.n y.num.c)
  c6 : wx.cell? ⟨G, 6, none⟩ = some (.bool y.den.g)
  c7 : wx.cell? ⟨G, 7, none⟩ = some (.slice y.den.a y.den.n y.den.c)
  fz : ∀ o, wx.frozen? ⟨G, o, none⟩ = false
  o1 : Ow wk.heap.size wx.heap.size wx x.num N
  o2 : Ow wk.heap.size wx.heap.size wx x.den D
  o3 : Ow wk.heap.size wx.heap.size wx y.num N'
  o4 : Ow wk.heap.size wx.heap.size wx y.den D'
  bel : Below wk.heap.size wk wx
theorem bxR_alloc {wk w5 : World} {x y : QV} {N D N' D' : Int} (t : TypeId) (hk : Below wk.heap.size wk w5) (o1 : Ow wk.heap.size w5.heap.size w5 x.num N) (o2 : Ow wk.heap.size w5.heap.size w5 x.den D) (o3 : Ow wk.heap.size w5.heap.size w5 y.num N') (o4 : Ow wk.heap.size w5.heap.size w5 y.den D') : BxR wk (w5.alloc (.cells #[.bool x.num.g, .slice x.num.a x.num.n x.num.c, .bool x.den.g, .slice x.den.a x.den.n x.den.c, .bool y.num.g, .slice y.num.a y.num.n y.num.c, .bool y.den.g, .slice y.den.a y.den.n y.den.c] t)) w5.heap.size x y N D N' D' :=
  ⟨hk.size, by simp, by simp [go_sem], by simp [go_sem], by simp [go_sem], by simp [go_sem], by simp [go_sem], by simp [go_sem], by simp [go_sem], by simp [go_sem], fun o => by simp [go_sem], (o1.later ((Below.refl _ _).alloc (Nat.le_refl _) _)).wide (Nat.le_refl _) (by simp), (o2.later ((Below.refl _ _).alloc (Nat.le_refl _) _)).wide (Nat.le_refl _) (by simp), (o3.later ((Below.refl _ _).alloc (Nat.le_refl _) _)).wide (Nat.le_refl _) (by simp), (o4.later ((Below.refl _ _).alloc (Nat.le_refl _) _)).wide (Nat.le_refl _) (by simp), hk.alloc hk.size _⟩
theorem bxR_set {wk w5 : World} {x y : QV} {N D N' D' : Int} {G : Nat} {z1 : Value} {z2 : Value} {z3 : Value} {z4 : Value} {z5 : Value} {z6 : Value} {z7 : Value} {z : Bool} (hk : Below wk.heap.size wk w5) (o1 : Ow wk.heap.size w5.heap.size w5 x.num N) (o2 : Ow wk.heap.size w5.heap.size w5 x.den D) (o3 : Ow wk.heap.size w5.heap.size w5 y.num N') (o4 : Ow wk.heap.size w5.heap.size w5 y.den D') (hG : wk.heap.size ≤ G) (e0 : w5.cell? ⟨G, 0, none⟩ = some (.bool z)) (e1 : w5.cell? ⟨G, 1, none⟩ = some z1) (e2 : w5.cell? ⟨G, 2, none⟩ = some z2) (e3 : w5.cell? ⟨G, 3, none⟩ = some z3) (e4 : w5.cell? ⟨G, 4, none⟩ = some z4) (e5 : w5.cell? ⟨G, 5, none⟩ = some z5) (e6 : w5.cell? ⟨G, 6, none⟩ = some z6) (e7 : w5.cell? ⟨G, 7, none⟩ = some z7) (ef : ∀ o, w5.frozen? ⟨G, o, none⟩ = false) : BxR wk ((((((((w5.setCell ⟨G, 0, none⟩ (.bool x.num.g)).setCell ⟨G, 1, none⟩ (.slice x.num.a x.num.n x.num.c)).setCell ⟨G, 2, none⟩ (.bool x.den.g)).setCell ⟨G, 3, none⟩ (.slice x.den.a x.den.n x.den.c)).setCell ⟨G, 4, none⟩ (.bool y.num.g)).setCell ⟨G, 5, none⟩ (.slice y.num.a y.num.n y.num.c)).setCell ⟨G, 6, none⟩ (.bool y.den.g)).setCell ⟨G, 7, none⟩ (.slice y.den.a y.den.n y.den.c)) G x y N D N' D' := by
  have hb : But G (G + 1) w5 ((((((((w5.setCell ⟨G, 0, none⟩ (.bool x.num.g)).setCell ⟨G, 1, none⟩ (.slice x.num.a x.num.n x.num.c)).setCell ⟨G, 2, none⟩ (.bool x.den.g)).setCell ⟨G, 3, none⟩ (.slice x.den.a x.den.n x.den.c)).setCell ⟨G, 4, none⟩ (.bool y.num.g)).setCell ⟨G, 5, none⟩ (.slice y.num.a y.num.n y.num.c)).setCell ⟨G, 6, none⟩ (.bool y.den.g)).setCell ⟨G, 7, none⟩ (.slice y.den.a y.den.n y.den.c)) := metS_but (w5 := w5) (v := ⟨x, y⟩) (G := G)
  have hlt : G < w5.heap.size := World.block_lt_of_cell? _ _ e0
  refine ⟨hG, by have := hb.size; omega, ?_, ?_, ?_, ?_, ?_, ?_, ?_, ?_, fun o => by simp [go_sem, ef o], (o1.bx hb e0).wide (Nat.le_refl _) hb.size, (o2.bx hb e0).wide (Nat.le_refl _) hb.size, (o3.bx hb e0).wide (Nat.le_refl _) hb.size, (o4.bx hb e0).wide (Nat.le_refl _) hb.size, hb.below hk hG hk.size⟩
  · simp [go_sem, e0, e1, e2, e3, e4, e5, e6, e7]
  · simp [go_sem, e0, e1, e2, e3, e4, e5, e6, e7]
  · simp [go_sem, e0, e1, e2, e3, e4, e5, e6, e7]
  · simp [go_sem, e0, e1, e2, e3, e4, e5, e6, e7]
  · simp [go_sem, e0, e1, e2, e3, e4, e5, e6, e7]
  · simp [go_sem, e0, e1, e2, e3, e4, e5, e6, e7]
  · simp [go_sem, e0, e1, e2, e3, e4, e5, e6, e7]
  · simp [go_sem, e0, e1, e2, e3, e4, e5, e6, e7]
theorem hiR_but {w5 : World} {x : QV} {G : Nat} : But G (G + 1) w5 ((((w5.setCell ⟨G, 4, none⟩ (.bool x.num.g)).setCell ⟨G, 5, none⟩ (.slice x.num.a x.num.n x.num.c)).setCell ⟨G, 6, none⟩ (.bool x.den.g)).setCell ⟨G, 7, none⟩ (.slice x.den.a x.den.n x.den.c)) := (((((But.refl _ _ _).set (p := ⟨G, 4, none⟩) (Nat.le_refl _) (Nat.lt_succ_self _) _).set (p := ⟨G, 5, none⟩) (Nat.le_refl _) (Nat.lt_succ_self _) _).set (p := ⟨G, 6, none⟩) (Nat.le_refl _) (Nat.lt_succ_self _) _).set (p := ⟨G, 7, none⟩) (Nat.le_refl _) (Nat.lt_succ_self _) _)
theorem inB (n lo hi : Int) (w : World) (b : Bool) (h : (decide (lo ≤ n) && decide (n ≤ hi)) = b) : Calls Try.prog 30 #[.int .i64 n, .int .i64 lo, .int .i64 hi] w fun e w' => e = .returned (.bool b) ∧ Below w.heap.size w w' := by
  refine (l1In_any n lo hi w).mono ?_
  rintro e w' ⟨rfl, rfl⟩
  exact ⟨by rw [h], Below.refl _ _⟩

set_option maxHeartbeats 16000000 in
theorem rootGood (a : Option Addr) (n c : Nat) (dn : BV) (d : QD) (m : Nat) (N D S : Int) (w : World) (h : AllAr w [((⟨false, a, n, c⟩ : BV), d.num), (dn, d.den)]) (hg : gQ d = true) (hm : m ≤ 64) (hN : N = nQ d) (hD : D = dQ d) (hS : S = 2 ^ m) (hp : 0 ≤ N) :
    Calls Try.prog 28 #[.agg #[.bool false, .slice a n c, .bool dn.g, .slice dn.a dn.n dn.c], .int .i64 m] w fun e w' => ∃ r, Rt (N * (S * S) / D) r ∧ RetS w (AnsS true (lowN r S) (lowD r S) (rHi N D S r).1 (rHi N D S r).2) e w' := by
  have J := isGood_of (q := (⟨⟨false, a, n, c⟩, dn⟩ : QV)) h hg
  have G1 := hide (fun w1 (k : AllAr w1 [((⟨false, a, n, c⟩ : BV), d.num), (dn, d.den)]) => goodQS (⟨⟨false, a, n, c⟩, dn⟩ : QV) d w1 k)
  rw [hg] at G1
  have H1 := hide h
  have PS : Hid (0 < S) := hide (by rw [hS]; exact two_pos m)
  have KS : Hid (Bd S 5) := hide (by rw [hS]; exact (two_bd m).mono (by omega))
  have PW := hide (fun w1 => powS m w1 (by omega))
  rw [← hS] at PW
  have JI : Hid (IsQ w (⟨⟨false, a, n, c⟩, dn⟩ : QV) N D) := hide (by rw [hN, hD]; exact J.is)
  have HD : Hid (0 < D) := hide (by rw [hD]; exact J.pos)
  have KN : Hid (Bd N 40) := hide (by rw [hN]; exact J.kn)
  have KD : Hid (Bd D 40) := hide (by rw [hD]; exact J.kd)
  have NN := hide hp
  have K1 := hide ((unhide KN).mono (show 40 ≤ 400000 by omega))
  have K2 := hide ((unhide KD).mono (show 40 ≤ 400000 by omega))
  have K3 := hide ((unhide KS).mono (show 5 ≤ 400000 by omega))
  have K4 := hide (((unhide KS).mul (unhide KS)).mono (show 5 + 5 ≤ 400000 by omega))
  have K5 := hide (((unhide KN).mul ((unhide KS).mul (unhide KS))).mono (show 40 + (5 + 5) ≤ 300000 by omega))
  have K6 := hide ((unhide KD).mono (show 40 ≤ 300000 by omega))
  have BQ := hide (sq_bd (S := S) (unhide HD) (unhide KN) (unhide KS))
  have PQ : Hid (0 ≤ N * (S * S) / D) := hide (Int.ediv_nonneg (Int.mul_nonneg (unhide NN) (Int.mul_nonneg (Int.le_of_lt (unhide PS)) (Int.le_of_lt (unhide PS)))) (Int.le_of_lt (unhide HD)))
  have EV := hide (make_floor (N := N * (S * S)) (unhide HD))
  clear hg J hS hN hD h hp
  have B0 := hide (show Below w.heap.size w ((w.alloc (.cells #[.bool false, .slice a n c, .bool dn.g, .slice dn.a dn.n dn.c] 38)).alloc (.cells #[.bool false, .slice none 0 0, .bool false, .slice none 0 0, .bool false, .slice none 0 0, .bool false, .slice none 0 0] 49)) from (((Below.refl _ _).alloc (by simp) _).alloc (by simp) _))
  go_enter Try.func28, Try.ntmps28
  go_wp2_with fail
  refine (unhide G1 _ ((unhide H1).later (unhide B0))).mono ?_
  rintro e w1 ⟨rfl, hb⟩
  have s1 : w.heap.size + 1 < w1.heap.size := by have := hb.size; simp at this; omega
  have k0_0 : w1.cell? ⟨w.heap.size, 0, none⟩ = some (.bool false) := cell_later hb (by simp [go_sem])
  have k0_1 : w1.cell? ⟨w.heap.size, 1, none⟩ = some (.slice a n c) := cell_later hb (by simp [go_sem])
  have k0_2 : w1.cell? ⟨w.heap.size, 2, none⟩ = some (.bool dn.g) := cell_later hb (by simp [go_sem])
  have k0_3 : w1.cell? ⟨w.heap.size, 3, none⟩ = some (.slice dn.a dn.n dn.c) := cell_later hb (by simp [go_sem])
  have k1_0 : w1.cell? ⟨w.heap.size + 1, 0, none⟩ = some (.bool false) := cell_later hb (by simp [go_sem])
  have k1_1 : w1.cell? ⟨w.heap.size + 1, 1, none⟩ = some (.slice none 0 0) := cell_later hb (by simp [go_sem])
  have k1_2 : w1.cell? ⟨w.heap.size + 1, 2, none⟩ = some (.bool false) := cell_later hb (by simp [go_sem])
  have k1_3 : w1.cell? ⟨w.heap.size + 1, 3, none⟩ = some (.slice none 0 0) := cell_later hb (by simp [go_sem])
  have k1_4 : w1.cell? ⟨w.heap.size + 1, 4, none⟩ = some (.bool false) := cell_later hb (by simp [go_sem])
  have k1_5 : w1.cell? ⟨w.heap.size + 1, 5, none⟩ = some (.slice none 0 0) := cell_later hb (by simp [go_sem])
  have k1_6 : w1.cell? ⟨w.heap.size + 1, 6, none⟩ = some (.bool false) := cell_later hb (by simp [go_sem])
  have k1_7 : w1.cell? ⟨w.heap.size + 1, 7, none⟩ = some (.slice none 0 0) := cell_later hb (by simp [go_sem])
  have z1 : ∀ o, w1.frozen? ⟨w.heap.size + 1, o, none⟩ = false := fun o => frozen_later hb (by simp) (by simp [go_sem])
  have HB := hide (below_on (unhide B0) hb)
  clear hb
  go_wp2_with fail
  refine (inB (m : Int) 0 64 _ true (by rw [Bool.and_eq_true, decide_eq_true_eq, decide_eq_true_eq]; omega)).mono ?_
  rintro e w2 ⟨rfl, hb⟩
  have s2 := hb.size
  replace z1 := fun o => frozen_later hb (World.block_lt_of_cell? _ _ k1_0) (z1 o)
  replace k0_0 := cell_later hb k0_0
  replace k0_1 := cell_later hb k0_1
  replace k0_2 := cell_later hb k0_2
  replace k0_3 := cell_later hb k0_3
  replace k1_0 := cell_later hb k1_0
  replace k1_1 := cell_later hb k1_1
  replace k1_2 := cell_later hb k1_2
  replace k1_3 := cell_later hb k1_3
  replace k1_4 := cell_later hb k1_4
  replace k1_5 := cell_later hb k1_5
  replace k1_6 := cell_later hb k1_6
  replace k1_7 := cell_later hb k1_7
  replace HB := hide (below_on (unhide HB) hb)
  clear hb
  go_wp2_with fail
  refine (unhide PW _).mono ?_
  rintro e w3 ⟨pb, lp, rfl, hb, op, ap, np⟩
  have s3 := hb.size
  replace z1 := fun o => frozen_later hb (World.block_lt_of_cell? _ _ k1_0) (z1 o)
  replace k0_0 := cell_later hb k0_0
  replace k0_1 := cell_later hb k0_1
  replace k0_2 := cell_later hb k0_2
  replace k0_3 := cell_later hb k0_3
  replace k1_0 := cell_later hb k1_0
  replace k1_1 := cell_later hb k1_1
  replace k1_2 := cell_later hb k1_2
  replace k1_3 := cell_later hb k1_3
  replace k1_4 := cell_later hb k1_4
  replace k1_5 := cell_later hb k1_5
  replace k1_6 := cell_later hb k1_6
  replace k1_7 := cell_later hb k1_7
  have OP := hide (outN_ow op ap np)
  replace HB := hide (below_on (unhide HB) hb)
  clear hb
  clear op ap np
  go_upto_region 4 with fail
  have hb : Below w3.heap.size w3 (w3.alloc (.cells #[.bool pb.g, .slice pb.a pb.n pb.c] 24)) := ((Below.refl _ _).alloc (by simp) _)
  replace k0_0 : (w3.alloc (.cells #[.bool pb.g, .slice pb.a pb.n pb.c] 24)).cell? ⟨w.heap.size, 0, none⟩ = some (.bool false) := (ca_other k0_0)
  replace k0_1 : (w3.alloc (.cells #[.bool pb.g, .slice pb.a pb.n pb.c] 24)).cell? ⟨w.heap.size, 1, none⟩ = some (.slice a n c) := (ca_other k0_1)
  replace k0_2 : (w3.alloc (.cells #[.bool pb.g, .slice pb.a pb.n pb.c] 24)).cell? ⟨w.heap.size, 2, none⟩ = some (.bool dn.g) := (ca_other k0_2)
  replace k0_3 : (w3.alloc (.cells #[.bool pb.g, .slice pb.a pb.n pb.c] 24)).cell? ⟨w.heap.size, 3, none⟩ = some (.slice dn.a dn.n dn.c) := (ca_other k0_3)
  replace k1_0 : (w3.alloc (.cells #[.bool pb.g, .slice pb.a pb.n pb.c] 24)).cell? ⟨w.heap.size + 1, 0, none⟩ = some (.bool false) := (ca_other k1_0)
  replace k1_1 : (w3.alloc (.cells #[.bool pb.g, .slice pb.a pb.n pb.c] 24)).cell? ⟨w.heap.size + 1, 1, none⟩ = some (.slice none 0 0) := (ca_other k1_1)
  replace k1_2 : (w3.alloc (.cells #[.bool pb.g, .slice pb.a pb.n pb.c] 24)).cell? ⟨w.heap.size + 1, 2, none⟩ = some (.bool false) := (ca_other k1_2)
  replace k1_3 : (w3.alloc (.cells #[.bool pb.g, .slice pb.a pb.n pb.c] 24)).cell? ⟨w.heap.size + 1, 3, none⟩ = some (.slice none 0 0) := (ca_other k1_3)
  replace k1_4 : (w3.alloc (.cells #[.bool pb.g, .slice pb.a pb.n pb.c] 24)).cell? ⟨w.heap.size + 1, 4, none⟩ = some (.bool false) := (ca_other k1_4)
  replace k1_5 : (w3.alloc (.cells #[.bool pb.g, .slice pb.a pb.n pb.c] 24)).cell? ⟨w.heap.size + 1, 5, none⟩ = some (.slice none 0 0) := (ca_other k1_5)
  replace k1_6 : (w3.alloc (.cells #[.bool pb.g, .slice pb.a pb.n pb.c] 24)).cell? ⟨w.heap.size + 1, 6, none⟩ = some (.bool false) := (ca_other k1_6)
  replace k1_7 : (w3.alloc (.cells #[.bool pb.g, .slice pb.a pb.n pb.c] 24)).cell? ⟨w.heap.size + 1, 7, none⟩ = some (.slice none 0 0) := (ca_other k1_7)
  have k2_0 : (w3.alloc (.cells #[.bool pb.g, .slice pb.a pb.n pb.c] 24)).cell? ⟨w3.heap.size, 0, none⟩ = some (.bool pb.g) := by simp [go_sem]
  have k2_1 : (w3.alloc (.cells #[.bool pb.g, .slice pb.a pb.n pb.c] 24)).cell? ⟨w3.heap.size, 1, none⟩ = some (.slice pb.a pb.n pb.c) := by simp [go_sem]
  replace z1 : ∀ o, (w3.alloc (.cells #[.bool pb.g, .slice pb.a pb.n pb.c] 24)).frozen? ⟨w.heap.size + 1, o, none⟩ = false := fun o => frozen_later hb (by omega) (z1 o)
  replace OP := hide ((unhide OP).later hb)
  replace HB := hide (below_on (unhide HB) hb)
  have szw4 := hb.size
  clear hb
  generalize (w3.alloc (.cells #[.bool pb.g, .slice pb.a pb.n pb.c] 24)) = w4 at *
  have hlt3 : w3.heap.size < w4.heap.size := World.block_lt_of_cell? _ _ k2_0
  have QQ := hide ((unhide JI).later (unhide HB))
  go_upto_region 4 with fail
  go_cut [7] (fun p wx => ∃ (G : Nat) (x : BV), p = .pointer (some ⟨G, 0, none⟩) ∧ Hid (BxB w4 wx G x (N * (S * S) / D)))
  case first =>
    go_region_held3 (fun w' => w'.cell? ⟨w.heap.size, 0, none⟩ = some (.bool false) ∧ w'.cell? ⟨w.heap.size, 1, none⟩ = some (.slice a n c) ∧ w'.cell? ⟨w.heap.size, 2, none⟩ = some (.bool dn.g) ∧ w'.cell? ⟨w.heap.size, 3, none⟩ = some (.slice dn.a dn.n dn.c) ∧ w'.cell? ⟨w3.heap.size, 0, none⟩ = some (.bool pb.g) ∧ w'.cell? ⟨w3.heap.size, 1, none⟩ = some (.slice pb.a pb.n pb.c)) (with_reducible (first | exact ⟨k0_0, k0_1, k0_2, k0_3, k2_0, k2_1⟩ | exact ⟨cd_other k0_0, cd_other k0_1, cd_other k0_2, cd_other k0_3, cd_other k2_0, cd_other k2_1⟩ | exact ⟨ca_other k0_0, ca_other k0_1, ca_other k0_2, ca_other k0_3, ca_other k2_0, ca_other k2_1⟩ | exact ⟨cd_other (ca_other k0_0), cd_other (ca_other k0_1), cd_other (ca_other k0_2), cd_other (ca_other k0_3), cd_other (ca_other k2_0), cd_other (ca_other k2_1)⟩ | exact ⟨cs_other (cs_other (k0_0) (by omega)) (by omega), cs_other (cs_other (k0_1) (by omega)) (by omega), cs_other (cs_other (k0_2) (by omega)) (by omega), cs_other (cs_other (k0_3) (by omega)) (by omega), cs_other (cs_other (k2_0) (by omega)) (by omega), cs_other (cs_other (k2_1) (by omega)) (by omega)⟩ | fail))
      (first
      | (go_at_call_of 64 (Value.agg #[Value.bool pb.g, Value.slice pb.a pb.n pb.c]); refine (mulS_v pb pb S S _ ?_ ?_ (unhide K3) (unhide K3)).mono ?_; (first | exact (unhide OP).is.later (Below.refl _ _).drew | exact (unhide OP).is.later ((Below.refl _ _).alloc (Nat.le_refl _) _).drew); (first | exact (unhide OP).is.later (Below.refl _ _).drew | exact (unhide OP).is.later ((Below.refl _ _).alloc (Nat.le_refl _) _).drew); rintro e wa1 ⟨x1, l1, rfl, hb, o1, a1, n1⟩; have hbx : Below w4.heap.size w4 wa1 := (by first | exact below_of_drew hb | exact bad hb); have szwa1 := hbx.size; replace z1 := fun o => frozen_later hbx (World.block_lt_of_cell? _ _ k1_0) (z1 o); replace k0_0 := cell_later hbx k0_0; replace k0_1 := cell_later hbx k0_1; replace k0_2 := cell_later hbx k0_2; replace k0_3 := cell_later hbx k0_3; replace k1_0 := cell_later hbx k1_0; replace k1_1 := cell_later hbx k1_1; replace k1_2 := cell_later hbx k1_2; replace k1_3 := cell_later hbx k1_3; replace k1_4 := cell_later hbx k1_4; replace k1_5 := cell_later hbx k1_5; replace k1_6 := cell_later hbx k1_6; replace k1_7 := cell_later hbx k1_7; replace k2_0 := cell_later hbx k2_0; replace k2_1 := cell_later hbx k2_1; replace OP := hide ((unhide OP).later hbx); replace QQ := hide ((unhide QQ).later hbx); have Px1 := hide (outN_ow o1 a1 n1); (try (replace gf := fun o => frozen_later hbx (World.block_lt_of_cell? _ _ g0) (gf o); replace g0 := cell_later hbx g0; replace g1 := cell_later hbx g1)); (try (refine cutP (p := wa1.cell? ⟨w4.heap.size, 0, none⟩ = some (.bool false) ∧ wa1.cell? ⟨w4.heap.size, 1, none⟩ = some (.slice none 0 0) ∧ ∀ o, wa1.frozen? ⟨w4.heap.size, o, none⟩ = false) ?_ (fun dd => ?_); (focus (refine ⟨cell_later hb ?_, cell_later hb ?_, fun o => frozen_later hb ?_ ?_⟩ <;> (simp [go_sem]; done))); obtain ⟨g0, g1, gf⟩ := dd)); have zz := hb.size; (try simp at zz); have HBr := hide hbx; clear hbx hb o1 a1 n1)
      | (go_at_call_of 64 (Value.agg #[Value.bool false, Value.slice a n c]); refine (mulS_v (⟨false, a, n, c⟩ : BV) x1 N (S * S) _ ?_ ?_ (unhide K1) (unhide K4)).mono ?_; (first | exact (unhide QQ).1.later (Below.refl _ _) | exact (unhide QQ).1.later ((Below.refl _ _).alloc (Nat.le_refl _) _)); (first | exact (unhide Px1).is.later (Below.refl _ _) | exact (unhide Px1).is.later ((Below.refl _ _).alloc (Nat.le_refl _) _)); rintro e wa2 ⟨x2, l2, rfl, hb, o2, a2, n2⟩; have hbx : Below wa1.heap.size wa1 wa2 := (by first | exact hb | exact ba hb); have szwa2 := hbx.size; replace z1 := fun o => frozen_later hbx (World.block_lt_of_cell? _ _ k1_0) (z1 o); replace k0_0 := cell_later hbx k0_0; replace k0_1 := cell_later hbx k0_1; replace k0_2 := cell_later hbx k0_2; replace k0_3 := cell_later hbx k0_3; replace k1_0 := cell_later hbx k1_0; replace k1_1 := cell_later hbx k1_1; replace k1_2 := cell_later hbx k1_2; replace k1_3 := cell_later hbx k1_3; replace k1_4 := cell_later hbx k1_4; replace k1_5 := cell_later hbx k1_5; replace k1_6 := cell_later hbx k1_6; replace k1_7 := cell_later hbx k1_7; replace k2_0 := cell_later hbx k2_0; replace k2_1 := cell_later hbx k2_1; replace OP := hide ((unhide OP).later hbx); replace QQ := hide ((unhide QQ).later hbx); replace Px1 := hide ((unhide Px1).later hbx); have Px2 := hide (outN_ow o2 a2 n2); (try (replace gf := fun o => frozen_later hbx (World.block_lt_of_cell? _ _ g0) (gf o); replace g0 := cell_later hbx g0; replace g1 := cell_later hbx g1)); (try (refine cutP (p := wa2.cell? ⟨wa1.heap.size, 0, none⟩ = some (.bool false) ∧ wa2.cell? ⟨wa1.heap.size, 1, none⟩ = some (.slice none 0 0) ∧ ∀ o, wa2.frozen? ⟨wa1.heap.size, o, none⟩ = false) ?_ (fun dd => ?_); (focus (refine ⟨cell_later hb ?_, cell_later hb ?_, fun o => frozen_later hb ?_ ?_⟩ <;> (simp [go_sem]; done))); obtain ⟨g0, g1, gf⟩ := dd)); have zz := hb.size; (try simp at zz); have HBr := hide (below_on (unhide HBr) hbx); clear hbx hb o2 a2 n2)
      | (go_at_call 63; refine (lowS x2 dn (N * (S * S)) D _ ?_ ?_ (Int.ne_of_gt (unhide HD)) ((unhide K5).mono (by omega)) (unhide K2)).mono ?_; (first | exact (unhide Px2).is.later (Below.refl _ _) | exact (unhide Px2).is.later ((Below.refl _ _).alloc (Nat.le_refl _) _)); (first | exact (unhide QQ).2.later (Below.refl _ _) | exact (unhide QQ).2.later ((Below.refl _ _).alloc (Nat.le_refl _) _)); rintro e wa3 ⟨x3, rfl, hb, o3, p3⟩; have hbx : Below wa2.heap.size wa2 wa3 := (by first | exact hb | exact ba hb); have szwa3 := hbx.size; replace z1 := fun o => frozen_later hbx (World.block_lt_of_cell? _ _ k1_0) (z1 o); replace k0_0 := cell_later hbx k0_0; replace k0_1 := cell_later hbx k0_1; replace k0_2 := cell_later hbx k0_2; replace k0_3 := cell_later hbx k0_3; replace k1_0 := cell_later hbx k1_0; replace k1_1 := cell_later hbx k1_1; replace k1_2 := cell_later hbx k1_2; replace k1_3 := cell_later hbx k1_3; replace k1_4 := cell_later hbx k1_4; replace k1_5 := cell_later hbx k1_5; replace k1_6 := cell_later hbx k1_6; replace k1_7 := cell_later hbx k1_7; replace k2_0 := cell_later hbx k2_0; replace k2_1 := cell_later hbx k2_1; replace OP := hide ((unhide OP).later hbx); replace QQ := hide ((unhide QQ).later hbx); replace Px1 := hide ((unhide Px1).later hbx); replace Px2 := hide ((unhide Px2).later hbx); have i3 : IsQ wa3 x3 _ _ := ⟨o3.is, p3.is⟩; have Px3 := hide (i3); (try (replace gf := fun o => frozen_later hbx (World.block_lt_of_cell? _ _ g0) (gf o); replace g0 := cell_later hbx g0; replace g1 := cell_later hbx g1)); (try (refine cutP (p := wa3.cell? ⟨wa2.heap.size, 0, none⟩ = some (.bool false) ∧ wa3.cell? ⟨wa2.heap.size, 1, none⟩ = some (.slice none 0 0) ∧ ∀ o, wa3.frozen? ⟨wa2.heap.size, o, none⟩ = false) ?_ (fun dd => ?_); (focus (refine ⟨cell_later hb ?_, cell_later hb ?_, fun o => frozen_later hb ?_ ?_⟩ <;> (simp [go_sem]; done))); obtain ⟨g0, g1, gf⟩ := dd)); have zz := hb.size; (try simp at zz); have HBr := hide (below_on (unhide HBr) hbx); clear hbx hb o3 p3 i3)
      | (go_at_call 44; refine (floorS x3 (lowN (N * (S * S)) D) (lowD (N * (S * S)) D) _ ?_ (lowD_pos (Int.ne_of_gt (unhide HD))) (lowN_bd (unhide K5)) (lowD_bd (unhide K6))).mono ?_; (first | exact (unhide Px3).later (Below.refl _ _) | exact (unhide Px3).later ((Below.refl _ _).alloc (Nat.le_refl _) _)); rintro e wa4 ⟨x4, l4, rfl, hb, o4, a4, n4⟩; have hbx : Below wa3.heap.size wa3 wa4 := (by first | exact hb | exact ba hb); have szwa4 := hbx.size; replace z1 := fun o => frozen_later hbx (World.block_lt_of_cell? _ _ k1_0) (z1 o); replace k0_0 := cell_later hbx k0_0; replace k0_1 := cell_later hbx k0_1; replace k0_2 := cell_later hbx k0_2; replace k0_3 := cell_later hbx k0_3; replace k1_0 := cell_later hbx k1_0; replace k1_1 := cell_later hbx k1_1; replace k1_2 := cell_later hbx k1_2; replace k1_3 := cell_later hbx k1_3; replace k1_4 := cell_later hbx k1_4; replace k1_5 := cell_later hbx k1_5; replace k1_6 := cell_later hbx k1_6; replace k1_7 := cell_later hbx k1_7; replace k2_0 := cell_later hbx k2_0; replace k2_1 := cell_later hbx k2_1; replace OP := hide ((unhide OP).later hbx); replace QQ := hide ((unhide QQ).later hbx); replace Px1 := hide ((unhide Px1).later hbx); replace Px2 := hide ((unhide Px2).later hbx); replace Px3 := hide ((unhide Px3).later hbx); rw [unhide EV] at o4 a4 n4; have Px4 := hide (outN_ow o4 a4 n4); (try (replace gf := fun o => frozen_later hbx (World.block_lt_of_cell? _ _ g0) (gf o); replace g0 := cell_later hbx g0; replace g1 := cell_later hbx g1)); (try (refine cutP (p := wa4.cell? ⟨wa3.heap.size, 0, none⟩ = some (.bool false) ∧ wa4.cell? ⟨wa3.heap.size, 1, none⟩ = some (.slice none 0 0) ∧ ∀ o, wa4.frozen? ⟨wa3.heap.size, o, none⟩ = false) ?_ (fun dd => ?_); (focus (refine ⟨cell_later hb ?_, cell_later hb ?_, fun o => frozen_later hb ?_ ?_⟩ <;> (simp [go_sem]; done))); obtain ⟨g0, g1, gf⟩ := dd)); have zz := hb.size; (try simp at zz); have HBr := hide (below_on (unhide HBr) hbx); clear hbx hb o4 a4 n4))
    all_goals go_wp2_with fail
    all_goals go_meet
    all_goals first
      | (refine ⟨_, x4, rfl, hide (bxB_alloc 24 (unhide HBr) (unhide Px4) ?_)⟩; omega)
      | (refine ⟨_, x4, rfl, hide (bxB_set (unhide HBr) (unhide Px4) ?_ ?_ g0 g1)⟩ <;> first | omega | (simp; done) | (simp; omega))
  case rest =>
    obtain ⟨G, xG, rfl, HG⟩ := hcut
    have hb := (unhide HG).bel
    have loG := (unhide HG).lo
    have hiG := (unhide HG).hi
    replace z1 := fun o => frozen_later hb (World.block_lt_of_cell? _ _ k1_0) (z1 o)
    replace k0_0 := cell_later hb k0_0
    replace k0_1 := cell_later hb k0_1
    replace k0_2 := cell_later hb k0_2
    replace k0_3 := cell_later hb k0_3
    replace k1_0 := cell_later hb k1_0
    replace k1_1 := cell_later hb k1_1
    replace k1_2 := cell_later hb k1_2
    replace k1_3 := cell_later hb k1_3
    replace k1_4 := cell_later hb k1_4
    replace k1_5 := cell_later hb k1_5
    replace k1_6 := cell_later hb k1_6
    replace k1_7 := cell_later hb k1_7
    replace k2_0 := cell_later hb k2_0
    replace k2_1 := cell_later hb k2_1
    replace OP := hide ((unhide OP).later hb)
    replace QQ := hide ((unhide QQ).later hb)
    have OG := hide ((unhide HG).ow)
    replace HB := hide (below_on (unhide HB) hb)
    clear hb
    have k3_0 := (unhide HG).c0
    have k3_1 := (unhide HG).c1
    clear HG
    obtain ⟨w5, hw5⟩ : ∃ x, x = wc := ⟨_, rfl⟩
    subst hw5
    go_wp2_with fail
    refine (ofS_v 0 _ (by omega) (by omega)).mono ?_
    rintro e w6 ⟨zb, lz, rfl, hb, oz, az, nz⟩
    have s6 := hb.size
    replace z1 := fun o => frozen_later hb (World.block_lt_of_cell? _ _ k1_0) (z1 o)
    replace k0_0 := cell_later hb k0_0
    replace k0_1 := cell_later hb k0_1
    replace k0_2 := cell_later hb k0_2
    replace k0_3 := cell_later hb k0_3
    replace k1_0 := cell_later hb k1_0
    replace k1_1 := cell_later hb k1_1
    replace k1_2 := cell_later hb k1_2
    replace k1_3 := cell_later hb k1_3
    replace k1_4 := cell_later hb k1_4
    replace k1_5 := cell_later hb k1_5
    replace k1_6 := cell_later hb k1_6
    replace k1_7 := cell_later hb k1_7
    replace k2_0 := cell_later hb k2_0
    replace k2_1 := cell_later hb k2_1
    replace k3_0 := cell_later hb k3_0
    replace k3_1 := cell_later hb k3_1
    replace OP := hide ((unhide OP).later hb)
    replace QQ := hide ((unhide QQ).later hb)
    replace OG := hide ((unhide OG).later hb)
    have OZ := hide (outN_ow oz az nz)
    replace HB := hide (below_on (unhide HB) hb)
    clear hb
    clear oz az nz
    go_upto_region 6 with fail
    have hb : Below w6.heap.size w6 (w6.alloc (.cells #[.bool zb.g, .slice zb.a zb.n zb.c] 24)) := ((Below.refl _ _).alloc (by simp) _)
    replace k0_0 : (w6.alloc (.cells #[.bool zb.g, .slice zb.a zb.n zb.c] 24)).cell? ⟨w.heap.size, 0, none⟩ = some (.bool false) := (ca_other k0_0)
    replace k0_1 : (w6.alloc (.cells #[.bool zb.g, .slice zb.a zb.n zb.c] 24)).cell? ⟨w.heap.size, 1, none⟩ = some (.slice a n c) := (ca_other k0_1)
    replace k0_2 : (w6.alloc (.cells #[.bool zb.g, .slice zb.a zb.n zb.c] 24)).cell? ⟨w.heap.size, 2, none⟩ = some (.bool dn.g) := (ca_other k0_2)
    replace k0_3 : (w6.alloc (.cells #[.bool zb.g, .slice zb.a zb.n zb.c] 24)).cell? ⟨w.heap.size, 3, none⟩ = some (.slice dn.a dn.n dn.c) := (ca_other k0_3)
    replace k1_0 : (w6.alloc (.cells #[.bool zb.g, .slice zb.a zb.n zb.c] 24)).cell? ⟨w.heap.size + 1, 0, none⟩ = some (.bool false) := (ca_other k1_0)
    replace k1_1 : (w6.alloc (.cells #[.bool zb.g, .slice zb.a zb.n zb.c] 24)).cell? ⟨w.heap.size + 1, 1, none⟩ = some (.slice none 0 0) := (ca_other k1_1)
    replace k1_2 : (w6.alloc (.cells #[.bool zb.g, .slice zb.a zb.n zb.c] 24)).cell? ⟨w.heap.size + 1, 2, none⟩ = some (.bool false) := (ca_other k1_2)
    replace k1_3 : (w6.alloc (.cells #[.bool zb.g, .slice zb.a zb.n zb.c] 24)).cell? ⟨w.heap.size + 1, 3, none⟩ = some (.slice none 0 0) := (ca_other k1_3)
    replace k1_4 : (w6.alloc (.cells #[.bool zb.g, .slice zb.a zb.n zb.c] 24)).cell? ⟨w.heap.size + 1, 4, none⟩ = some (.bool false) := (ca_other k1_4)
    replace k1_5 : (w6.alloc (.cells #[.bool zb.g, .slice zb.a zb.n zb.c] 24)).cell? ⟨w.heap.size + 1, 5, none⟩ = some (.slice none 0 0) := (ca_other k1_5)
    replace k1_6 : (w6.alloc (.cells #[.bool zb.g, .slice zb.a zb.n zb.c] 24)).cell? ⟨w.heap.size + 1, 6, none⟩ = some (.bool false) := (ca_other k1_6)
    replace k1_7 : (w6.alloc (.cells #[.bool zb.g, .slice zb.a zb.n zb.c] 24)).cell? ⟨w.heap.size + 1, 7, none⟩ = some (.slice none 0 0) := (ca_other k1_7)
    replace k2_0 : (w6.alloc (.cells #[.bool zb.g, .slice zb.a zb.n zb.c] 24)).cell? ⟨w3.heap.size, 0, none⟩ = some (.bool pb.g) := (ca_other k2_0)
    replace k2_1 : (w6.alloc (.cells #[.bool zb.g, .slice zb.a zb.n zb.c] 24)).cell? ⟨w3.heap.size, 1, none⟩ = some (.slice pb.a pb.n pb.c) := (ca_other k2_1)
    replace k3_0 : (w6.alloc (.cells #[.bool zb.g, .slice zb.a zb.n zb.c] 24)).cell? ⟨G, 0, none⟩ = some (.bool xG.g) := (ca_other k3_0)
    replace k3_1 : (w6.alloc (.cells #[.bool zb.g, .slice zb.a zb.n zb.c] 24)).cell? ⟨G, 1, none⟩ = some (.slice xG.a xG.n xG.c) := (ca_other k3_1)
    have k4_0 : (w6.alloc (.cells #[.bool zb.g, .slice zb.a zb.n zb.c] 24)).cell? ⟨w6.heap.size, 0, none⟩ = some (.bool zb.g) := by simp [go_sem]
    have k4_1 : (w6.alloc (.cells #[.bool zb.g, .slice zb.a zb.n zb.c] 24)).cell? ⟨w6.heap.size, 1, none⟩ = some (.slice zb.a zb.n zb.c) := by simp [go_sem]
    replace z1 : ∀ o, (w6.alloc (.cells #[.bool zb.g, .slice zb.a zb.n zb.c] 24)).frozen? ⟨w.heap.size + 1, o, none⟩ = false := fun o => frozen_later hb (by omega) (z1 o)
    have z4 : ∀ o, (w6.alloc (.cells #[.bool zb.g, .slice zb.a zb.n zb.c] 24)).frozen? ⟨w6.heap.size, o, none⟩ = false := fun o => by simp [go_sem]
    replace OP := hide ((unhide OP).later hb)
    replace QQ := hide ((unhide QQ).later hb)
    replace OG := hide ((unhide OG).later hb)
    replace OZ := hide ((unhide OZ).later hb)
    replace HB := hide (below_on (unhide HB) hb)
    have szw7 := hb.size
    clear hb
    generalize (w6.alloc (.cells #[.bool zb.g, .slice zb.a zb.n zb.c] 24)) = w7 at *
    obtain ⟨V, hV⟩ : ∃ V : Int, V = N * (S * S) / D := ⟨_, rfl⟩
    have EQ := hide hV
    rw [← hV] at OG BQ PQ
    clear hV EV
    obtain ⟨P, hP⟩ : ∃ P, P = w3.heap.size := ⟨_, rfl⟩
    obtain ⟨H, hH⟩ : ∃ H, H = w6.heap.size := ⟨_, rfl⟩
    have R0 : Hid (Rs w w7 a n c dn P G H pb xG zb S V 0) := hide (by
      rw [hP, hH]
      exact ⟨k0_0, k0_1, k0_2, k0_3, k1_0, k1_1, k1_2, k1_3, k1_4, k1_5, k1_6, k1_7, z1, k2_0, k2_1, k3_0, k3_1, k4_0, k4_1, z4, (unhide OP).wide (by omega) (by omega), (unhide OG).wide (by omega) (by omega), (unhide OZ).wide (by omega) (by omega), unhide HB, by omega, by omega, by omega⟩)
    have LX : xG.n ≤ 50 := by
      obtain ⟨xs, oxs, axs, nxs⟩ := unhide OG
      rw [← axs.head.ar.len]
      exact nxs.len_le (unhide BQ)
    have ST : Hid (V < (0 + 2 ^ (8 * xG.n + 2)) * (0 + 2 ^ (8 * xG.n + 2))) := hide (by
      obtain ⟨xs, oxs, axs, nxs⟩ := unhide OG
      have h1 := val_lt nxs.ok
      rw [nxs.v, Int.natAbs_of_nonneg (unhide PQ), axs.head.ar.len] at h1
      exact rt_start h1)
    rw [← hH, ← hP]
    clear k0_0 k0_1 k0_2 k0_3 k1_0 k1_1 k1_2 k1_3 k1_4 k1_5 k1_6 k1_7 z1 k2_0 k2_1 k4_0 k4_1 z4 OP OG OZ HB hH hP QQ
    go_wp2
    go_loopw [9] (fun kv wr => ∃ (k : Nat) (lb : BV) (lo : Int), k ≤ 8 * xG.n + 2 ∧ kv = .int .i64 ((k : Int) - 1) ∧ Hid ((0 ≤ lo ∧ lo * lo ≤ V) ∧ V < (lo + 2 ^ k) * (lo + 2 ^ k)) ∧ Hid (Rs w wr a n c dn P G H pb xG lb S V lo)) (fun kv _ => (intOf kv + 1).toNat)
    case atStart => exact ⟨8 * xG.n + 2, zb, 0, Nat.le_refl _, by go_num, hide ⟨⟨Int.le_refl _, by have := unhide PQ; omega⟩, unhide ST⟩, R0⟩
    case round =>
      clear R0 ST k3_0 k3_1
      obtain ⟨k1, lb, lo, hk, rfl, IV, RS⟩ := hrel
      rcases Nat.eq_zero_or_pos k1 with h0 | h0
      · subst h0
        have hd : ¬ 0 ≤ ((0 : Nat) : Int) - 1 := by omega
        have RT : Hid (Rt V lo) := hide ⟨(unhide IV).1.1, (unhide IV).1.2, by have h := (unhide IV).2; rw [Int.pow_zero] at h; exact h⟩
        have BR : Hid (Bd lo 25) := hide (lo_bd (unhide IV).1.1 (unhide IV).1.2 (unhide BQ))
        have HB := hide (unhide RS).bel
        have QQ := hide ((unhide JI).later (unhide HB))
        have OPr := hide (unhide RS).op
        have OLr := hide (unhide RS).ol
        have hsz : w.heap.size + 1 < wr.heap.size := World.block_lt_of_cell? _ _ (unhide RS).r0
        have hPl : P < wr.heap.size := World.block_lt_of_cell? _ _ (unhide RS).p0
        have hHl : H < wr.heap.size := World.block_lt_of_cell? _ _ (unhide RS).h0
        have k0_0 := (unhide RS).a0
        have k0_1 := (unhide RS).a1
        have k0_2 := (unhide RS).a2
        have k0_3 := (unhide RS).a3
        have k1_0 := (unhide RS).r0
        have k1_1 := (unhide RS).r1
        have k1_2 := (unhide RS).r2
        have k1_3 := (unhide RS).r3
        have k1_4 := (unhide RS).r4
        have k1_5 := (unhide RS).r5
        have k1_6 := (unhide RS).r6
        have k1_7 := (unhide RS).r7
        have z1 := (unhide RS).fr
        have k2_0 := (unhide RS).p0
        have k2_1 := (unhide RS).p1
        have k3_0 := (unhide RS).h0
        have k3_1 := (unhide RS).h1
        clear IV RS
        have BR1 : Hid (Bd (lo + 1) 26) := hide ((unhide BR).add ((show Bd 1 1 from ⟨by decide⟩).mono (by omega)))
        have hS0 : Hid (S ≠ 0) := hide (Int.ne_of_gt (unhide PS))
        have BL : Hid (Bd (lowN lo S) 25 ∧ Bd (lowD lo S) 5) := hide ⟨lowN_bd (unhide BR), lowD_bd (unhide KS)⟩
        have PL : Hid (0 < lowD lo S) := hide (lowD_pos (unhide hS0))
        have PM : Hid (lowD lo S * lowD lo S ≠ 0) := hide (Int.ne_of_gt (Int.mul_pos (unhide PL) (unhide PL)))
        have BM : Hid (Bd (lowN (lowN lo S * lowN lo S) (lowD lo S * lowD lo S)) 200000 ∧ Bd (lowD (lowN lo S * lowN lo S) (lowD lo S * lowD lo S)) 200000) := hide ⟨(lowN_bd ((unhide BL).1.mul (unhide BL).1)).mono (by omega), (lowD_bd ((unhide BL).2.mul (unhide BL).2)).mono (by omega)⟩
        go_upto_region 12 with fail
        go_cut [11] (fun p wx => ∃ (G : Nat) (x y : QV), p = .pointer (some ⟨G, 0, none⟩) ∧ Hid (BxR wr wx G x y (lowN lo S) (lowD lo S) (lowN (lo + 1) S) (lowD (lo + 1) S)))
        case first =>
          go_region_held3 (fun w' => w'.cell? ⟨H, 0, none⟩ = some (.bool lb.g) ∧ w'.cell? ⟨H, 1, none⟩ = some (.slice lb.a lb.n lb.c) ∧ w'.cell? ⟨P, 0, none⟩ = some (.bool pb.g) ∧ w'.cell? ⟨P, 1, none⟩ = some (.slice pb.a pb.n pb.c)) (with_reducible (first | exact ⟨k3_0, k3_1, k2_0, k2_1⟩ | exact ⟨cd_other k3_0, cd_other k3_1, cd_other k2_0, cd_other k2_1⟩ | exact ⟨ca_other k3_0, ca_other k3_1, ca_other k2_0, ca_other k2_1⟩ | exact ⟨cd_other (ca_other k3_0), cd_other (ca_other k3_1), cd_other (ca_other k2_0), cd_other (ca_other k2_1)⟩ | exact ⟨cs_other (cs_other (cs_other (cs_other (cs_other (cs_other (cs_other (cs_other (k3_0) (by omega)) (by omega)) (by omega)) (by omega)) (by omega)) (by omega)) (by omega)) (by omega), cs_other (cs_other (cs_other (cs_other (cs_other (cs_other (cs_other (cs_other (k3_1) (by omega)) (by omega)) (by omega)) (by omega)) (by omega)) (by omega)) (by omega)) (by omega), cs_other (cs_other (cs_other (cs_other (cs_other (cs_other (cs_other (cs_other (k2_0) (by omega)) (by omega)) (by omega)) (by omega)) (by omega)) (by omega)) (by omega)) (by omega), cs_other (cs_other (cs_other (cs_other (cs_other (cs_other (cs_other (cs_other (k2_1) (by omega)) (by omega)) (by omega)) (by omega)) (by omega)) (by omega)) (by omega)) (by omega)⟩ | fail))
            (first
            | (have chk := OV; clear chk; go_at_call 63; refine (lowS u2 pb (lo + 1) S _ ?_ ?_ (unhide hS0) ((unhide BR1).mono (by omega)) (unhide K3)).mono ?_; (first | exact (unhide OV).is.later (Below.refl _ _) | exact (unhide OV).is.later ((Below.refl _ _).alloc (Nat.le_refl _) _)); (first | exact (unhide OPr).is.later (Below.refl _ _) | exact (unhide OPr).is.later ((Below.refl _ _).alloc (Nat.le_refl _) _)); rintro e we4 ⟨y, rfl, hb, o1, p1⟩; have hbx : Below we3.heap.size we3 we4 := (by first | exact hb | exact ba hb); have szwe4 := hbx.size; replace z1 := fun o => frozen_later hbx (World.block_lt_of_cell? _ _ k1_0) (z1 o); replace k0_0 := cell_later hbx k0_0; replace k0_1 := cell_later hbx k0_1; replace k0_2 := cell_later hbx k0_2; replace k0_3 := cell_later hbx k0_3; replace k1_0 := cell_later hbx k1_0; replace k1_1 := cell_later hbx k1_1; replace k1_2 := cell_later hbx k1_2; replace k1_3 := cell_later hbx k1_3; replace k1_4 := cell_later hbx k1_4; replace k1_5 := cell_later hbx k1_5; replace k1_6 := cell_later hbx k1_6; replace k1_7 := cell_later hbx k1_7; replace k2_0 := cell_later hbx k2_0; replace k2_1 := cell_later hbx k2_1; replace k3_0 := cell_later hbx k3_0; replace k3_1 := cell_later hbx k3_1; replace QQ := hide ((unhide QQ).later hbx); replace OPr := hide ((unhide OPr).later hbx); replace OLr := hide ((unhide OLr).later hbx); replace X1 := hide ((unhide X1).later hbx); replace X2 := hide ((unhide X2).later hbx); replace OU := hide ((unhide OU).later hbx); replace OV := hide ((unhide OV).later hbx); have Y1 := hide (o1); have Y2 := hide (p1); (try (replace gf := fun o => frozen_later hbx (World.block_lt_of_cell? _ _ g0) (gf o); replace g0 := cell_later hbx g0; replace g1 := cell_later hbx g1; replace g2 := cell_later hbx g2; replace g3 := cell_later hbx g3; replace g4 := cell_later hbx g4; replace g5 := cell_later hbx g5; replace g6 := cell_later hbx g6; replace g7 := cell_later hbx g7)); (try (refine cutP (p := we4.cell? ⟨we3.heap.size, 0, none⟩ = some (.bool false) ∧ we4.cell? ⟨we3.heap.size, 1, none⟩ = some (.slice none 0 0) ∧ we4.cell? ⟨we3.heap.size, 2, none⟩ = some (.bool false) ∧ we4.cell? ⟨we3.heap.size, 3, none⟩ = some (.slice none 0 0) ∧ we4.cell? ⟨we3.heap.size, 4, none⟩ = some (.bool false) ∧ we4.cell? ⟨we3.heap.size, 5, none⟩ = some (.slice none 0 0) ∧ we4.cell? ⟨we3.heap.size, 6, none⟩ = some (.bool false) ∧ we4.cell? ⟨we3.heap.size, 7, none⟩ = some (.slice none 0 0) ∧ ∀ o, we4.frozen? ⟨we3.heap.size, o, none⟩ = false) ?_ (fun dd => ?_); (focus (refine ⟨cell_later hb ?_, cell_later hb ?_, cell_later hb ?_, cell_later hb ?_, cell_later hb ?_, cell_later hb ?_, cell_later hb ?_, cell_later hb ?_, fun o => frozen_later hb ?_ ?_⟩ <;> (simp [go_sem]; done))); obtain ⟨g0, g1, g2, g3, g4, g5, g6, g7, gf⟩ := dd)); have zz := hb.size; (try simp at zz); have HBr := hide (below_on (unhide HBr) hbx); clear hbx hb o1 p1)
            | (go_at_call 65; refine (addS_v lb u1 lo 1 _ ?_ ?_ ((unhide BR).mono (by omega)) ((show Bd 1 1 from ⟨by decide⟩).mono (by omega))).mono ?_; (first | exact (unhide OLr).is.later (Below.refl _ _) | exact (unhide OLr).is.later ((Below.refl _ _).alloc (Nat.le_refl _) _)); (first | exact (unhide OU).is.later (Below.refl _ _) | exact (unhide OU).is.later ((Below.refl _ _).alloc (Nat.le_refl _) _)); rintro e we3 ⟨u2, lv, rfl, hb, ov, av, nv⟩; have hbx : Below we2.heap.size we2 we3 := (by first | exact hb | exact ba hb); have szwe3 := hbx.size; replace z1 := fun o => frozen_later hbx (World.block_lt_of_cell? _ _ k1_0) (z1 o); replace k0_0 := cell_later hbx k0_0; replace k0_1 := cell_later hbx k0_1; replace k0_2 := cell_later hbx k0_2; replace k0_3 := cell_later hbx k0_3; replace k1_0 := cell_later hbx k1_0; replace k1_1 := cell_later hbx k1_1; replace k1_2 := cell_later hbx k1_2; replace k1_3 := cell_later hbx k1_3; replace k1_4 := cell_later hbx k1_4; replace k1_5 := cell_later hbx k1_5; replace k1_6 := cell_later hbx k1_6; replace k1_7 := cell_later hbx k1_7; replace k2_0 := cell_later hbx k2_0; replace k2_1 := cell_later hbx k2_1; replace k3_0 := cell_later hbx k3_0; replace k3_1 := cell_later hbx k3_1; replace QQ := hide ((unhide QQ).later hbx); replace OPr := hide ((unhide OPr).later hbx); replace OLr := hide ((unhide OLr).later hbx); replace X1 := hide ((unhide X1).later hbx); replace X2 := hide ((unhide X2).later hbx); replace OU := hide ((unhide OU).later hbx); have OV := hide (outN_ow ov av nv); (try (replace gf := fun o => frozen_later hbx (World.block_lt_of_cell? _ _ g0) (gf o); replace g0 := cell_later hbx g0; replace g1 := cell_later hbx g1; replace g2 := cell_later hbx g2; replace g3 := cell_later hbx g3; replace g4 := cell_later hbx g4; replace g5 := cell_later hbx g5; replace g6 := cell_later hbx g6; replace g7 := cell_later hbx g7)); (try (refine cutP (p := we3.cell? ⟨we2.heap.size, 0, none⟩ = some (.bool false) ∧ we3.cell? ⟨we2.heap.size, 1, none⟩ = some (.slice none 0 0) ∧ we3.cell? ⟨we2.heap.size, 2, none⟩ = some (.bool false) ∧ we3.cell? ⟨we2.heap.size, 3, none⟩ = some (.slice none 0 0) ∧ we3.cell? ⟨we2.heap.size, 4, none⟩ = some (.bool false) ∧ we3.cell? ⟨we2.heap.size, 5, none⟩ = some (.slice none 0 0) ∧ we3.cell? ⟨we2.heap.size, 6, none⟩ = some (.bool false) ∧ we3.cell? ⟨we2.heap.size, 7, none⟩ = some (.slice none 0 0) ∧ ∀ o, we3.frozen? ⟨we2.heap.size, o, none⟩ = false) ?_ (fun dd => ?_); (focus (refine ⟨cell_later hb ?_, cell_later hb ?_, cell_later hb ?_, cell_later hb ?_, cell_later hb ?_, cell_later hb ?_, cell_later hb ?_, cell_later hb ?_, fun o => frozen_later hb ?_ ?_⟩ <;> (simp [go_sem]; done))); obtain ⟨g0, g1, g2, g3, g4, g5, g6, g7, gf⟩ := dd)); have zz := hb.size; (try simp at zz); have HBr := hide (below_on (unhide HBr) hbx); clear hbx hb ov av nv)
            | (go_at_call 46; refine (ofS_v 1 _ (by omega) (by omega)).mono ?_; rintro e we2 ⟨u1, lu, rfl, hb, ou, au, nu⟩; have hbx : Below we1.heap.size we1 we2 := (by first | exact hb | exact ba hb); have szwe2 := hbx.size; replace z1 := fun o => frozen_later hbx (World.block_lt_of_cell? _ _ k1_0) (z1 o); replace k0_0 := cell_later hbx k0_0; replace k0_1 := cell_later hbx k0_1; replace k0_2 := cell_later hbx k0_2; replace k0_3 := cell_later hbx k0_3; replace k1_0 := cell_later hbx k1_0; replace k1_1 := cell_later hbx k1_1; replace k1_2 := cell_later hbx k1_2; replace k1_3 := cell_later hbx k1_3; replace k1_4 := cell_later hbx k1_4; replace k1_5 := cell_later hbx k1_5; replace k1_6 := cell_later hbx k1_6; replace k1_7 := cell_later hbx k1_7; replace k2_0 := cell_later hbx k2_0; replace k2_1 := cell_later hbx k2_1; replace k3_0 := cell_later hbx k3_0; replace k3_1 := cell_later hbx k3_1; replace QQ := hide ((unhide QQ).later hbx); replace OPr := hide ((unhide OPr).later hbx); replace OLr := hide ((unhide OLr).later hbx); replace X1 := hide ((unhide X1).later hbx); replace X2 := hide ((unhide X2).later hbx); have OU := hide (outN_ow ou au nu); (try (replace gf := fun o => frozen_later hbx (World.block_lt_of_cell? _ _ g0) (gf o); replace g0 := cell_later hbx g0; replace g1 := cell_later hbx g1; replace g2 := cell_later hbx g2; replace g3 := cell_later hbx g3; replace g4 := cell_later hbx g4; replace g5 := cell_later hbx g5; replace g6 := cell_later hbx g6; replace g7 := cell_later hbx g7)); (try (refine cutP (p := we2.cell? ⟨we1.heap.size, 0, none⟩ = some (.bool false) ∧ we2.cell? ⟨we1.heap.size, 1, none⟩ = some (.slice none 0 0) ∧ we2.cell? ⟨we1.heap.size, 2, none⟩ = some (.bool false) ∧ we2.cell? ⟨we1.heap.size, 3, none⟩ = some (.slice none 0 0) ∧ we2.cell? ⟨we1.heap.size, 4, none⟩ = some (.bool false) ∧ we2.cell? ⟨we1.heap.size, 5, none⟩ = some (.slice none 0 0) ∧ we2.cell? ⟨we1.heap.size, 6, none⟩ = some (.bool false) ∧ we2.cell? ⟨we1.heap.size, 7, none⟩ = some (.slice none 0 0) ∧ ∀ o, we2.frozen? ⟨we1.heap.size, o, none⟩ = false) ?_ (fun dd => ?_); (focus (refine ⟨cell_later hb ?_, cell_later hb ?_, cell_later hb ?_, cell_later hb ?_, cell_later hb ?_, cell_later hb ?_, cell_later hb ?_, cell_later hb ?_, fun o => frozen_later hb ?_ ?_⟩ <;> (simp [go_sem]; done))); obtain ⟨g0, g1, g2, g3, g4, g5, g6, g7, gf⟩ := dd)); have zz := hb.size; (try simp at zz); have HBr := hide (below_on (unhide HBr) hbx); clear hbx hb ou au nu)
            | (go_at_call_of 63 (Value.agg #[Value.bool lb.g, Value.slice lb.a lb.n lb.c]); refine (lowS lb pb lo S _ ?_ ?_ (unhide hS0) ((unhide BR).mono (by omega)) (unhide K3)).mono ?_; (first | exact (unhide OLr).is.later (Below.refl _ _).drew | exact (unhide OLr).is.later ((Below.refl _ _).alloc (Nat.le_refl _) _).drew); (first | exact (unhide OPr).is.later (Below.refl _ _).drew | exact (unhide OPr).is.later ((Below.refl _ _).alloc (Nat.le_refl _) _).drew); rintro e we1 ⟨x, rfl, hb, o1, p1⟩; have hbx : Below wr.heap.size wr we1 := (by first | exact below_of_drew hb | exact bad hb); have szwe1 := hbx.size; replace z1 := fun o => frozen_later hbx (World.block_lt_of_cell? _ _ k1_0) (z1 o); replace k0_0 := cell_later hbx k0_0; replace k0_1 := cell_later hbx k0_1; replace k0_2 := cell_later hbx k0_2; replace k0_3 := cell_later hbx k0_3; replace k1_0 := cell_later hbx k1_0; replace k1_1 := cell_later hbx k1_1; replace k1_2 := cell_later hbx k1_2; replace k1_3 := cell_later hbx k1_3; replace k1_4 := cell_later hbx k1_4; replace k1_5 := cell_later hbx k1_5; replace k1_6 := cell_later hbx k1_6; replace k1_7 := cell_later hbx k1_7; replace k2_0 := cell_later hbx k2_0; replace k2_1 := cell_later hbx k2_1; replace k3_0 := cell_later hbx k3_0; replace k3_1 := cell_later hbx k3_1; replace QQ := hide ((unhide QQ).later hbx); replace OPr := hide ((unhide OPr).later hbx); replace OLr := hide ((unhide OLr).later hbx); have X1 := hide (o1.wide (lo' := wr.heap.size) (by first | exact Nat.le_refl _ | (simp; done) | (simp; omega)) (Nat.le_refl _)); have X2 := hide (p1.wide (lo' := wr.heap.size) (by first | exact Nat.le_refl _ | (simp; done) | (simp; omega)) (Nat.le_refl _)); (try (replace gf := fun o => frozen_later hbx (World.block_lt_of_cell? _ _ g0) (gf o); replace g0 := cell_later hbx g0; replace g1 := cell_later hbx g1; replace g2 := cell_later hbx g2; replace g3 := cell_later hbx g3; replace g4 := cell_later hbx g4; replace g5 := cell_later hbx g5; replace g6 := cell_later hbx g6; replace g7 := cell_later hbx g7)); (try (refine cutP (p := we1.cell? ⟨wr.heap.size, 0, none⟩ = some (.bool false) ∧ we1.cell? ⟨wr.heap.size, 1, none⟩ = some (.slice none 0 0) ∧ we1.cell? ⟨wr.heap.size, 2, none⟩ = some (.bool false) ∧ we1.cell? ⟨wr.heap.size, 3, none⟩ = some (.slice none 0 0) ∧ we1.cell? ⟨wr.heap.size, 4, none⟩ = some (.bool false) ∧ we1.cell? ⟨wr.heap.size, 5, none⟩ = some (.slice none 0 0) ∧ we1.cell? ⟨wr.heap.size, 6, none⟩ = some (.bool false) ∧ we1.cell? ⟨wr.heap.size, 7, none⟩ = some (.slice none 0 0) ∧ ∀ o, we1.frozen? ⟨wr.heap.size, o, none⟩ = false) ?_ (fun dd => ?_); (focus (refine ⟨cell_later hb ?_, cell_later hb ?_, cell_later hb ?_, cell_later hb ?_, cell_later hb ?_, cell_later hb ?_, cell_later hb ?_, cell_later hb ?_, fun o => frozen_later hb ?_ ?_⟩ <;> (simp [go_sem]; done))); obtain ⟨g0, g1, g2, g3, g4, g5, g6, g7, gf⟩ := dd)); have zz := hb.size; (try simp at zz); have HBr := hide hbx; clear hbx hb o1 p1))
          all_goals go_wp2_with fail
          all_goals go_meet
          all_goals first
            | (with_reducible refine ⟨_, x, y, rfl, hide (bxR_alloc 49 (unhide HBr) ((unhide X1).wide (by first | omega | (simp; omega)) (by omega)) ((unhide X2).wide (by first | omega | (simp; omega)) (by omega)) ((unhide Y1).wide (by first | omega | (simp; omega)) (by omega)) ((unhide Y2).wide (by first | omega | (simp; omega)) (by omega)))⟩)
            | (with_reducible refine ⟨_, x, y, rfl, hide (bxR_set (unhide HBr) ((unhide X1).wide (by first | omega | (simp; omega)) (by omega)) ((unhide X2).wide (by first | omega | (simp; omega)) (by omega)) ((unhide Y1).wide (by first | omega | (simp; omega)) (by omega)) ((unhide Y2).wide (by first | omega | (simp; omega)) (by omega)) ?_ g0 g1 g2 g3 g4 g5 g6 g7 gf)⟩ <;> first | omega | (simp; done) | (simp; omega))
        case rest =>
          obtain ⟨T, x, y, rfl, HT⟩ := hcut
          have hb := (unhide HT).bel
          have loT := (unhide HT).lo
          have hiT := (unhide HT).hi
          have szT := hb.size
          replace z1 := fun o => frozen_later hb (World.block_lt_of_cell? _ _ k1_0) (z1 o)
          replace k0_0 := cell_later hb k0_0
          replace k0_1 := cell_later hb k0_1
          replace k0_2 := cell_later hb k0_2
          replace k0_3 := cell_later hb k0_3
          replace k1_0 := cell_later hb k1_0
          replace k1_1 := cell_later hb k1_1
          replace k1_2 := cell_later hb k1_2
          replace k1_3 := cell_later hb k1_3
          replace k1_4 := cell_later hb k1_4
          replace k1_5 := cell_later hb k1_5
          replace k1_6 := cell_later hb k1_6
          replace k1_7 := cell_later hb k1_7
          clear k2_0 k2_1 k3_0 k3_1
          replace QQ := hide ((unhide QQ).later hb)
          replace OPr := hide ((unhide OPr).later hb)
          replace OLr := hide ((unhide OLr).later hb)
          have X1 := hide ((unhide HT).o1)
          have X2 := hide ((unhide HT).o2)
          have Y1 := hide ((unhide HT).o3)
          have Y2 := hide ((unhide HT).o4)
          replace HB := hide (below_on (unhide HB) hb)
          clear hb
          have k4_0 := (unhide HT).c0
          have k4_1 := (unhide HT).c1
          have k4_2 := (unhide HT).c2
          have k4_3 := (unhide HT).c3
          have k4_4 := (unhide HT).c4
          have k4_5 := (unhide HT).c5
          have k4_6 := (unhide HT).c6
          have k4_7 := (unhide HT).c7
          have z4 := (unhide HT).fz
          clear HT
          obtain ⟨w8, hw8⟩ : ∃ x, x = wc := ⟨_, rfl⟩
          subst hw8
          have QX : Hid (IsQ w8 x (lowN lo S) (lowD lo S)) := hide ⟨(unhide X1).is, (unhide X2).is⟩
          by_cases hE : lowN (lowN lo S * lowN lo S) (lowD lo S * lowD lo S) * D = N * lowD (lowN lo S * lowN lo S) (lowD lo S * lowD lo S)
          · have t1 := cmpZ_e1 hE
            have HE := hide hE
            clear hE
            go_upto_region 13 with fail
            go_region_held3 (fun w' => w'.cell? ⟨T, 0, none⟩ = some (.bool x.num.g) ∧ w'.cell? ⟨T, 1, none⟩ = some (.slice x.num.a x.num.n x.num.c) ∧ w'.cell? ⟨T, 2, none⟩ = some (.bool x.den.g) ∧ w'.cell? ⟨T, 3, none⟩ = some (.slice x.den.a x.den.n x.den.c) ∧ w'.cell? ⟨w.heap.size, 0, none⟩ = some (.bool false) ∧ w'.cell? ⟨w.heap.size, 1, none⟩ = some (.slice a n c) ∧ w'.cell? ⟨w.heap.size, 2, none⟩ = some (.bool dn.g) ∧ w'.cell? ⟨w.heap.size, 3, none⟩ = some (.slice dn.a dn.n dn.c)) (with_reducible (first | exact ⟨k4_0, k4_1, k4_2, k4_3, k0_0, k0_1, k0_2, k0_3⟩ | exact ⟨cd_other k4_0, cd_other k4_1, cd_other k4_2, cd_other k4_3, cd_other k0_0, cd_other k0_1, cd_other k0_2, cd_other k0_3⟩ | fail))
              (first
              | (go_at_call 55; refine (mulQS x x _ _ _ _ _ ?_ ?_ (unhide PM) ((unhide BL).1.mono (by omega)) ((unhide BL).2.mono (by omega)) ((unhide BL).1.mono (by omega)) ((unhide BL).2.mono (by omega))).mono ?_; exact (unhide QX).later (Below.refl _ _).drew; exact (unhide QX).later (Below.refl _ _).drew; rintro e w9 ⟨mq, rfl, hb, om, pm⟩; have hbx : Below w8.heap.size w8 w9 := below_of_drew hb; have szw9 := hbx.size; replace z1 := fun o => frozen_later hbx (World.block_lt_of_cell? _ _ k1_0) (z1 o); replace z4 := fun o => frozen_later hbx (World.block_lt_of_cell? _ _ k4_0) (z4 o); replace k0_0 := cell_later hbx k0_0; replace k0_1 := cell_later hbx k0_1; replace k0_2 := cell_later hbx k0_2; replace k0_3 := cell_later hbx k0_3; replace k1_0 := cell_later hbx k1_0; replace k1_1 := cell_later hbx k1_1; replace k1_2 := cell_later hbx k1_2; replace k1_3 := cell_later hbx k1_3; replace k1_4 := cell_later hbx k1_4; replace k1_5 := cell_later hbx k1_5; replace k1_6 := cell_later hbx k1_6; replace k1_7 := cell_later hbx k1_7; replace k4_0 := cell_later hbx k4_0; replace k4_1 := cell_later hbx k4_1; replace k4_2 := cell_later hbx k4_2; replace k4_3 := cell_later hbx k4_3; replace k4_4 := cell_later hbx k4_4; replace k4_5 := cell_later hbx k4_5; replace k4_6 := cell_later hbx k4_6; replace k4_7 := cell_later hbx k4_7; replace QQ := hide ((unhide QQ).later hbx); replace OPr := hide ((unhide OPr).later hbx); replace OLr := hide ((unhide OLr).later hbx); replace X1 := hide ((unhide X1).later hbx); replace X2 := hide ((unhide X2).later hbx); replace Y1 := hide ((unhide Y1).later hbx); replace Y2 := hide ((unhide Y2).later hbx); replace QX := hide ((unhide QX).later hbx); have im : IsQ w9 mq _ _ := ⟨om.is, pm.is⟩; have OM := hide (im); have HBr := hide hbx; clear hbx hb om pm im)
              | (go_at_call 67; refine (cmpQS mq (⟨⟨false, a, n, c⟩, dn⟩ : QV) _ _ _ _ _ ?_ ?_ (unhide BM).1 (unhide BM).2 ((unhide KN).mono (by omega)) ((unhide KD).mono (by omega))).mono ?_; exact (unhide OM).later (Below.refl _ _); exact (unhide QQ).later (Below.refl _ _); rintro e w10 ⟨rfl, hb⟩; have hbx : Below w9.heap.size w9 w10 := hb; have szw10 := hbx.size; replace z1 := fun o => frozen_later hbx (World.block_lt_of_cell? _ _ k1_0) (z1 o); replace z4 := fun o => frozen_later hbx (World.block_lt_of_cell? _ _ k4_0) (z4 o); replace k0_0 := cell_later hbx k0_0; replace k0_1 := cell_later hbx k0_1; replace k0_2 := cell_later hbx k0_2; replace k0_3 := cell_later hbx k0_3; replace k1_0 := cell_later hbx k1_0; replace k1_1 := cell_later hbx k1_1; replace k1_2 := cell_later hbx k1_2; replace k1_3 := cell_later hbx k1_3; replace k1_4 := cell_later hbx k1_4; replace k1_5 := cell_later hbx k1_5; replace k1_6 := cell_later hbx k1_6; replace k1_7 := cell_later hbx k1_7; replace k4_0 := cell_later hbx k4_0; replace k4_1 := cell_later hbx k4_1; replace k4_2 := cell_later hbx k4_2; replace k4_3 := cell_later hbx k4_3; replace k4_4 := cell_later hbx k4_4; replace k4_5 := cell_later hbx k4_5; replace k4_6 := cell_later hbx k4_6; replace k4_7 := cell_later hbx k4_7; replace QQ := hide ((unhide QQ).later hbx); replace OPr := hide ((unhide OPr).later hbx); replace OLr := hide ((unhide OLr).later hbx); replace X1 := hide ((unhide X1).later hbx); replace X2 := hide ((unhide X2).later hbx); replace Y1 := hide ((unhide Y1).later hbx); replace Y2 := hide ((unhide Y2).later hbx); replace QX := hide ((unhide QX).later hbx); replace OM := hide ((unhide OM).later hbx); have HBr := hide (below_on (unhide HBr) hbx); clear hbx hb))
            replace HB := hide (below_on (unhide HB) (unhide HBr))
            clear HBr
            have bT : Hid (But T (T + 1) w10 ((((w10.setCell ⟨T, 4, none⟩ (.bool x.num.g)).setCell ⟨T, 5, none⟩ (.slice x.num.a x.num.n x.num.c)).setCell ⟨T, 6, none⟩ (.bool x.den.g)).setCell ⟨T, 7, none⟩ (.slice x.den.a x.den.n x.den.c))) := hide hiR_but
            have X1b := hide ((unhide X1).bx (unhide bT) k4_0)
            have X2b := hide ((unhide X2).bx (unhide bT) k4_0)
            have HBb := hide ((unhide bT).below (unhide HB) (by omega) (unhide HB).size)
            have j1_0 : ((((w10.setCell ⟨T, 4, none⟩ (.bool x.num.g)).setCell ⟨T, 5, none⟩ (.slice x.num.a x.num.n x.num.c)).setCell ⟨T, 6, none⟩ (.bool x.den.g)).setCell ⟨T, 7, none⟩ (.slice x.den.a x.den.n x.den.c)).cell? ⟨w.heap.size + 1, 0, none⟩ = some (.bool false) := cs_other (cs_other (cs_other (cs_other k1_0 (by omega)) (by omega)) (by omega)) (by omega)
            have j1_1 : ((((w10.setCell ⟨T, 4, none⟩ (.bool x.num.g)).setCell ⟨T, 5, none⟩ (.slice x.num.a x.num.n x.num.c)).setCell ⟨T, 6, none⟩ (.bool x.den.g)).setCell ⟨T, 7, none⟩ (.slice x.den.a x.den.n x.den.c)).cell? ⟨w.heap.size + 1, 1, none⟩ = some (.slice none 0 0) := cs_other (cs_other (cs_other (cs_other k1_1 (by omega)) (by omega)) (by omega)) (by omega)
            have j1_2 : ((((w10.setCell ⟨T, 4, none⟩ (.bool x.num.g)).setCell ⟨T, 5, none⟩ (.slice x.num.a x.num.n x.num.c)).setCell ⟨T, 6, none⟩ (.bool x.den.g)).setCell ⟨T, 7, none⟩ (.slice x.den.a x.den.n x.den.c)).cell? ⟨w.heap.size + 1, 2, none⟩ = some (.bool false) := cs_other (cs_other (cs_other (cs_other k1_2 (by omega)) (by omega)) (by omega)) (by omega)
            have j1_3 : ((((w10.setCell ⟨T, 4, none⟩ (.bool x.num.g)).setCell ⟨T, 5, none⟩ (.slice x.num.a x.num.n x.num.c)).setCell ⟨T, 6, none⟩ (.bool x.den.g)).setCell ⟨T, 7, none⟩ (.slice x.den.a x.den.n x.den.c)).cell? ⟨w.heap.size + 1, 3, none⟩ = some (.slice none 0 0) := cs_other (cs_other (cs_other (cs_other k1_3 (by omega)) (by omega)) (by omega)) (by omega)
            have j1_4 : ((((w10.setCell ⟨T, 4, none⟩ (.bool x.num.g)).setCell ⟨T, 5, none⟩ (.slice x.num.a x.num.n x.num.c)).setCell ⟨T, 6, none⟩ (.bool x.den.g)).setCell ⟨T, 7, none⟩ (.slice x.den.a x.den.n x.den.c)).cell? ⟨w.heap.size + 1, 4, none⟩ = some (.bool false) := cs_other (cs_other (cs_other (cs_other k1_4 (by omega)) (by omega)) (by omega)) (by omega)
            have j1_5 : ((((w10.setCell ⟨T, 4, none⟩ (.bool x.num.g)).setCell ⟨T, 5, none⟩ (.slice x.num.a x.num.n x.num.c)).setCell ⟨T, 6, none⟩ (.bool x.den.g)).setCell ⟨T, 7, none⟩ (.slice x.den.a x.den.n x.den.c)).cell? ⟨w.heap.size + 1, 5, none⟩ = some (.slice none 0 0) := cs_other (cs_other (cs_other (cs_other k1_5 (by omega)) (by omega)) (by omega)) (by omega)
            have j1_6 : ((((w10.setCell ⟨T, 4, none⟩ (.bool x.num.g)).setCell ⟨T, 5, none⟩ (.slice x.num.a x.num.n x.num.c)).setCell ⟨T, 6, none⟩ (.bool x.den.g)).setCell ⟨T, 7, none⟩ (.slice x.den.a x.den.n x.den.c)).cell? ⟨w.heap.size + 1, 6, none⟩ = some (.bool false) := cs_other (cs_other (cs_other (cs_other k1_6 (by omega)) (by omega)) (by omega)) (by omega)
            have j1_7 : ((((w10.setCell ⟨T, 4, none⟩ (.bool x.num.g)).setCell ⟨T, 5, none⟩ (.slice x.num.a x.num.n x.num.c)).setCell ⟨T, 6, none⟩ (.bool x.den.g)).setCell ⟨T, 7, none⟩ (.slice x.den.a x.den.n x.den.c)).cell? ⟨w.heap.size + 1, 7, none⟩ = some (.slice none 0 0) := cs_other (cs_other (cs_other (cs_other k1_7 (by omega)) (by omega)) (by omega)) (by omega)
            have j4_0 : ((((w10.setCell ⟨T, 4, none⟩ (.bool x.num.g)).setCell ⟨T, 5, none⟩ (.slice x.num.a x.num.n x.num.c)).setCell ⟨T, 6, none⟩ (.bool x.den.g)).setCell ⟨T, 7, none⟩ (.slice x.den.a x.den.n x.den.c)).cell? ⟨T, 0, none⟩ = some (.bool x.num.g) := by simp [go_sem, k4_0, k4_1, k4_2, k4_3, k4_4, k4_5, k4_6, k4_7]
            have j4_1 : ((((w10.setCell ⟨T, 4, none⟩ (.bool x.num.g)).setCell ⟨T, 5, none⟩ (.slice x.num.a x.num.n x.num.c)).setCell ⟨T, 6, none⟩ (.bool x.den.g)).setCell ⟨T, 7, none⟩ (.slice x.den.a x.den.n x.den.c)).cell? ⟨T, 1, none⟩ = some (.slice x.num.a x.num.n x.num.c) := by simp [go_sem, k4_0, k4_1, k4_2, k4_3, k4_4, k4_5, k4_6, k4_7]
            have j4_2 : ((((w10.setCell ⟨T, 4, none⟩ (.bool x.num.g)).setCell ⟨T, 5, none⟩ (.slice x.num.a x.num.n x.num.c)).setCell ⟨T, 6, none⟩ (.bool x.den.g)).setCell ⟨T, 7, none⟩ (.slice x.den.a x.den.n x.den.c)).cell? ⟨T, 2, none⟩ = some (.bool x.den.g) := by simp [go_sem, k4_0, k4_1, k4_2, k4_3, k4_4, k4_5, k4_6, k4_7]
            have j4_3 : ((((w10.setCell ⟨T, 4, none⟩ (.bool x.num.g)).setCell ⟨T, 5, none⟩ (.slice x.num.a x.num.n x.num.c)).setCell ⟨T, 6, none⟩ (.bool x.den.g)).setCell ⟨T, 7, none⟩ (.slice x.den.a x.den.n x.den.c)).cell? ⟨T, 3, none⟩ = some (.slice x.den.a x.den.n x.den.c) := by simp [go_sem, k4_0, k4_1, k4_2, k4_3, k4_4, k4_5, k4_6, k4_7]
            have j4_4 : ((((w10.setCell ⟨T, 4, none⟩ (.bool x.num.g)).setCell ⟨T, 5, none⟩ (.slice x.num.a x.num.n x.num.c)).setCell ⟨T, 6, none⟩ (.bool x.den.g)).setCell ⟨T, 7, none⟩ (.slice x.den.a x.den.n x.den.c)).cell? ⟨T, 4, none⟩ = some (.bool x.num.g) := by simp [go_sem, k4_0, k4_1, k4_2, k4_3, k4_4, k4_5, k4_6, k4_7]
            have j4_5 : ((((w10.setCell ⟨T, 4, none⟩ (.bool x.num.g)).setCell ⟨T, 5, none⟩ (.slice x.num.a x.num.n x.num.c)).setCell ⟨T, 6, none⟩ (.bool x.den.g)).setCell ⟨T, 7, none⟩ (.slice x.den.a x.den.n x.den.c)).cell? ⟨T, 5, none⟩ = some (.slice x.num.a x.num.n x.num.c) := by simp [go_sem, k4_0, k4_1, k4_2, k4_3, k4_4, k4_5, k4_6, k4_7]
            have j4_6 : ((((w10.setCell ⟨T, 4, none⟩ (.bool x.num.g)).setCell ⟨T, 5, none⟩ (.slice x.num.a x.num.n x.num.c)).setCell ⟨T, 6, none⟩ (.bool x.den.g)).setCell ⟨T, 7, none⟩ (.slice x.den.a x.den.n x.den.c)).cell? ⟨T, 6, none⟩ = some (.bool x.den.g) := by simp [go_sem, k4_0, k4_1, k4_2, k4_3, k4_4, k4_5, k4_6, k4_7]
            have j4_7 : ((((w10.setCell ⟨T, 4, none⟩ (.bool x.num.g)).setCell ⟨T, 5, none⟩ (.slice x.num.a x.num.n x.num.c)).setCell ⟨T, 6, none⟩ (.bool x.den.g)).setCell ⟨T, 7, none⟩ (.slice x.den.a x.den.n x.den.c)).cell? ⟨T, 7, none⟩ = some (.slice x.den.a x.den.n x.den.c) := by simp [go_sem, k4_0, k4_1, k4_2, k4_3, k4_4, k4_5, k4_6, k4_7]
            have jz1 : ∀ o, ((((w10.setCell ⟨T, 4, none⟩ (.bool x.num.g)).setCell ⟨T, 5, none⟩ (.slice x.num.a x.num.n x.num.c)).setCell ⟨T, 6, none⟩ (.bool x.den.g)).setCell ⟨T, 7, none⟩ (.slice x.den.a x.den.n x.den.c)).frozen? ⟨w.heap.size + 1, o, none⟩ = false := fun o => by simp [go_sem, z1 o]
            go_upto_region 15 with fail
            have szb : w10.heap.size ≤ ((((w10.setCell ⟨T, 4, none⟩ (.bool x.num.g)).setCell ⟨T, 5, none⟩ (.slice x.num.a x.num.n x.num.c)).setCell ⟨T, 6, none⟩ (.bool x.den.g)).setCell ⟨T, 7, none⟩ (.slice x.den.a x.den.n x.den.c)).heap.size := (unhide bT).size
            clear k1_0 k1_1 k1_2 k1_3 k1_4 k1_5 k1_6 k1_7 k4_0 k4_1 k4_2 k4_3 k4_4 k4_5 k4_6 k4_7 z1 z4 k0_0 k0_1 k0_2 k0_3 X1 X2 Y1 Y2 QX HB bT QQ OPr OLr
            generalize ((((w10.setCell ⟨T, 4, none⟩ (.bool x.num.g)).setCell ⟨T, 5, none⟩ (.slice x.num.a x.num.n x.num.c)).setCell ⟨T, 6, none⟩ (.bool x.den.g)).setCell ⟨T, 7, none⟩ (.slice x.den.a x.den.n x.den.c)) = w11 at *
            have k1_0 := j1_0
            have k4_0 := j4_0
            clear j1_0 j4_0
            have k1_1 := j1_1
            have k4_1 := j4_1
            clear j1_1 j4_1
            have k1_2 := j1_2
            have k4_2 := j4_2
            clear j1_2 j4_2
            have k1_3 := j1_3
            have k4_3 := j4_3
            clear j1_3 j4_3
            have k1_4 := j1_4
            have k4_4 := j4_4
            clear j1_4 j4_4
            have k1_5 := j1_5
            have k4_5 := j4_5
            clear j1_5 j4_5
            have k1_6 := j1_6
            have k4_6 := j4_6
            clear j1_6 j4_6
            have k1_7 := j1_7
            have k4_7 := j4_7
            clear j1_7 j4_7
            have z1 := jz1
            clear jz1
            have HB := HBb
            clear HBb
            have QX : Hid (IsQ w11 x (lowN lo S) (lowD lo S)) := hide ⟨(unhide X1b).is, (unhide X2b).is⟩
            clear X1b X2b
            go_wp2_with fail
            refine (fitsSS ⟨x, x⟩ (lowN lo S) (lowD lo S) (lowN lo S) (lowD lo S) _ (unhide QX) (unhide QX) (unhide PL) (unhide PL)).mono ?_
            rintro e w12 ⟨r2, dr, ok, rfl, hb, ov, hu⟩
            have s12 := hb.size
            have UU := hide hu
            replace z1 := fun o => frozen_later hb (World.block_lt_of_cell? _ _ k1_0) (z1 o)
            replace k1_0 := cell_later hb k1_0
            replace k1_1 := cell_later hb k1_1
            replace k1_2 := cell_later hb k1_2
            replace k1_3 := cell_later hb k1_3
            replace k1_4 := cell_later hb k1_4
            replace k1_5 := cell_later hb k1_5
            replace k1_6 := cell_later hb k1_6
            replace k1_7 := cell_later hb k1_7
            clear k4_0 k4_1 k4_2 k4_3 k4_4 k4_5 k4_6 k4_7
            have OV := hide (ov)
            replace HB := hide (below_on (unhide HB) hb)
            clear hb
            clear ov hu
            go_wp2
            refine bodyPost_ret (v := .tuple #[.agg #[.bool r2.lo.num.g, .slice r2.lo.num.a r2.lo.num.n r2.lo.num.c, .bool r2.lo.den.g, .slice r2.lo.den.a r2.lo.den.n r2.lo.den.c, .bool r2.hi.num.g, .slice r2.hi.num.a r2.hi.num.n r2.hi.num.c, .bool r2.hi.den.g, .slice r2.hi.den.a r2.hi.den.n r2.hi.den.c], .bool ok]) (by simp [results, Try.results28, go_sem, k1_0, k1_1, k1_2, k1_3, k1_4, k1_5, k1_6, k1_7]) rfl ?_
            refine ⟨lo, by rw [← unhide EQ]; exact unhide RT, ?_⟩
            rw [rHi_eq (unhide HE)]
            exact retS_fin (v := r2) (d := dr) (R := w.heap.size + 1) (by omega) (unhide HB) (metS_but (w5 := w12) (v := r2) (G := w.heap.size + 1)) ((unhide OV).wide (by omega) (by omega)) (unhide UU)
          · have t1 := cmpZ_e0 hE
            have HE := hide hE
            clear hE
            go_upto_region 13 with fail
            go_region_held3 (fun w' => w'.cell? ⟨T, 0, none⟩ = some (.bool x.num.g) ∧ w'.cell? ⟨T, 1, none⟩ = some (.slice x.num.a x.num.n x.num.c) ∧ w'.cell? ⟨T, 2, none⟩ = some (.bool x.den.g) ∧ w'.cell? ⟨T, 3, none⟩ = some (.slice x.den.a x.den.n x.den.c) ∧ w'.cell? ⟨w.heap.size, 0, none⟩ = some (.bool false) ∧ w'.cell? ⟨w.heap.size, 1, none⟩ = some (.slice a n c) ∧ w'.cell? ⟨w.heap.size, 2, none⟩ = some (.bool dn.g) ∧ w'.cell? ⟨w.heap.size, 3, none⟩ = some (.slice dn.a dn.n dn.c)) (with_reducible (first | exact ⟨k4_0, k4_1, k4_2, k4_3, k0_0, k0_1, k0_2, k0_3⟩ | exact ⟨cd_other k4_0, cd_other k4_1, cd_other k4_2, cd_other k4_3, cd_other k0_0, cd_other k0_1, cd_other k0_2, cd_other k0_3⟩ | fail))
              (first
              | (go_at_call 55; refine (mulQS x x _ _ _ _ _ ?_ ?_ (unhide PM) ((unhide BL).1.mono (by omega)) ((unhide BL).2.mono (by omega)) ((unhide BL).1.mono (by omega)) ((unhide BL).2.mono (by omega))).mono ?_; exact (unhide QX).later (Below.refl _ _).drew; exact (unhide QX).later (Below.refl _ _).drew; rintro e w9 ⟨mq, rfl, hb, om, pm⟩; have hbx : Below w8.heap.size w8 w9 := below_of_drew hb; have szw9 := hbx.size; replace z1 := fun o => frozen_later hbx (World.block_lt_of_cell? _ _ k1_0) (z1 o); replace z4 := fun o => frozen_later hbx (World.block_lt_of_cell? _ _ k4_0) (z4 o); replace k0_0 := cell_later hbx k0_0; replace k0_1 := cell_later hbx k0_1; replace k0_2 := cell_later hbx k0_2; replace k0_3 := cell_later hbx k0_3; replace k1_0 := cell_later hbx k1_0; replace k1_1 := cell_later hbx k1_1; replace k1_2 := cell_later hbx k1_2; replace k1_3 := cell_later hbx k1_3; replace k1_4 := cell_later hbx k1_4; replace k1_5 := cell_later hbx k1_5; replace k1_6 := cell_later hbx k1_6; replace k1_7 := cell_later hbx k1_7; replace k4_0 := cell_later hbx k4_0; replace k4_1 := cell_later hbx k4_1; replace k4_2 := cell_later hbx k4_2; replace k4_3 := cell_later hbx k4_3; replace k4_4 := cell_later hbx k4_4; replace k4_5 := cell_later hbx k4_5; replace k4_6 := cell_later hbx k4_6; replace k4_7 := cell_later hbx k4_7; replace QQ := hide ((unhide QQ).later hbx); replace OPr := hide ((unhide OPr).later hbx); replace OLr := hide ((unhide OLr).later hbx); replace X1 := hide ((unhide X1).later hbx); replace X2 := hide ((unhide X2).later hbx); replace Y1 := hide ((unhide Y1).later hbx); replace Y2 := hide ((unhide Y2).later hbx); replace QX := hide ((unhide QX).later hbx); have im : IsQ w9 mq _ _ := ⟨om.is, pm.is⟩; have OM := hide (im); have HBr := hide hbx; clear hbx hb om pm im)
              | (go_at_call 67; refine (cmpQS mq (⟨⟨false, a, n, c⟩, dn⟩ : QV) _ _ _ _ _ ?_ ?_ (unhide BM).1 (unhide BM).2 ((unhide KN).mono (by omega)) ((unhide KD).mono (by omega))).mono ?_; exact (unhide OM).later (Below.refl _ _); exact (unhide QQ).later (Below.refl _ _); rintro e w10 ⟨rfl, hb⟩; have hbx : Below w9.heap.size w9 w10 := hb; have szw10 := hbx.size; replace z1 := fun o => frozen_later hbx (World.block_lt_of_cell? _ _ k1_0) (z1 o); replace z4 := fun o => frozen_later hbx (World.block_lt_of_cell? _ _ k4_0) (z4 o); replace k0_0 := cell_later hbx k0_0; replace k0_1 := cell_later hbx k0_1; replace k0_2 := cell_later hbx k0_2; replace k0_3 := cell_later hbx k0_3; replace k1_0 := cell_later hbx k1_0; replace k1_1 := cell_later hbx k1_1; replace k1_2 := cell_later hbx k1_2; replace k1_3 := cell_later hbx k1_3; replace k1_4 := cell_later hbx k1_4; replace k1_5 := cell_later hbx k1_5; replace k1_6 := cell_later hbx k1_6; replace k1_7 := cell_later hbx k1_7; replace k4_0 := cell_later hbx k4_0; replace k4_1 := cell_later hbx k4_1; replace k4_2 := cell_later hbx k4_2; replace k4_3 := cell_later hbx k4_3; replace k4_4 := cell_later hbx k4_4; replace k4_5 := cell_later hbx k4_5; replace k4_6 := cell_later hbx k4_6; replace k4_7 := cell_later hbx k4_7; replace QQ := hide ((unhide QQ).later hbx); replace OPr := hide ((unhide OPr).later hbx); replace OLr := hide ((unhide OLr).later hbx); replace X1 := hide ((unhide X1).later hbx); replace X2 := hide ((unhide X2).later hbx); replace Y1 := hide ((unhide Y1).later hbx); replace Y2 := hide ((unhide Y2).later hbx); replace QX := hide ((unhide QX).later hbx); replace OM := hide ((unhide OM).later hbx); have HBr := hide (below_on (unhide HBr) hbx); clear hbx hb))
            replace HB := hide (below_on (unhide HB) (unhide HBr))
            clear HBr
            go_wp2_with fail
            refine (fitsSS ⟨x, y⟩ (lowN lo S) (lowD lo S) (lowN (lo + 1) S) (lowD (lo + 1) S) _ (unhide QX) ⟨(unhide Y1).is, (unhide Y2).is⟩ (unhide PL) (lowD_pos (unhide hS0))).mono ?_
            rintro e w12 ⟨r2, dr, ok, rfl, hb, ov, hu⟩
            have s12 := hb.size
            have UU := hide hu
            replace z1 := fun o => frozen_later hb (World.block_lt_of_cell? _ _ k1_0) (z1 o)
            replace k1_0 := cell_later hb k1_0
            replace k1_1 := cell_later hb k1_1
            replace k1_2 := cell_later hb k1_2
            replace k1_3 := cell_later hb k1_3
            replace k1_4 := cell_later hb k1_4
            replace k1_5 := cell_later hb k1_5
            replace k1_6 := cell_later hb k1_6
            replace k1_7 := cell_later hb k1_7
            clear k0_0 k0_1 k0_2 k0_3 k4_0 k4_1 k4_2 k4_3 k4_4 k4_5 k4_6 k4_7
            clear z4
            replace QQ := hide ((unhide QQ).later hb)
            replace OPr := hide ((unhide OPr).later hb)
            replace OLr := hide ((unhide OLr).later hb)
            replace X1 := hide ((unhide X1).later hb)
            replace X2 := hide ((unhide X2).later hb)
            replace Y1 := hide ((unhide Y1).later hb)
            replace Y2 := hide ((unhide Y2).later hb)
            replace QX := hide ((unhide QX).later hb)
            replace OM := hide ((unhide OM).later hb)
            have OV := hide (ov)
            replace HB := hide (below_on (unhide HB) hb)
            clear hb
            clear ov hu
            go_wp2
            refine bodyPost_ret (v := .tuple #[.agg #[.bool r2.lo.num.g, .slice r2.lo.num.a r2.lo.num.n r2.lo.num.c, .bool r2.lo.den.g, .slice r2.lo.den.a r2.lo.den.n r2.lo.den.c, .bool r2.hi.num.g, .slice r2.hi.num.a r2.hi.num.n r2.hi.num.c, .bool r2.hi.den.g, .slice r2.hi.den.a r2.hi.den.n r2.hi.den.c], .bool ok]) (by simp [results, Try.results28, go_sem, k1_0, k1_1, k1_2, k1_3, k1_4, k1_5, k1_6, k1_7]) rfl ?_
            refine ⟨lo, by rw [← unhide EQ]; exact unhide RT, ?_⟩
            rw [rHi_ne (unhide HE)]
            exact retS_fin (v := r2) (d := dr) (R := w.heap.size + 1) (by omega) (unhide HB) (metS_but (w5 := w12) (v := r2) (G := w.heap.size + 1)) ((unhide OV).wide (by omega) (by omega)) (unhide UU)
      · obtain ⟨k, rfl⟩ : ∃ k, k1 = k + 1 := ⟨k1 - 1, by omega⟩
        have hkv : (((k + 1 : Nat) : Int) - 1) = (k : Int) := by omega
        rw [hkv]
        have hd : 0 ≤ (k : Int) := by omega
        have BR : Hid (Bd lo 25) := hide (lo_bd (unhide IV).1.1 (unhide IV).1.2 (unhide BQ))
        have BK : Hid (Bd (2 ^ k) 27) := hide ((two_bd k).mono (by omega))
        have BX : Hid (Bd (lo + 2 ^ k) 28) := hide (((unhide BR).mono (by omega)).add (unhide BK))
        have HB := hide (unhide RS).bel
        have hHl : H < wr.heap.size := World.block_lt_of_cell? _ _ (unhide RS).h0
        have hGl : G < wr.heap.size := World.block_lt_of_cell? _ _ (unhide RS).g0
        have hsz : w.heap.size + 1 < wr.heap.size := World.block_lt_of_cell? _ _ (unhide RS).r0
        have k0_0 := (unhide RS).h0
        have k0_1 := (unhide RS).h1
        have k1_0 := (unhide RS).g0
        have k1_1 := (unhide RS).g1
        clear hkv h0
        go_upto_region 9 with fail
        go_cut [10] (fun p wx => ∃ (G : Nat) (x : BV), p = .pointer (some ⟨G, 0, none⟩) ∧ Hid (BxB wr wx G x (lo + 2 ^ k)))
        case first =>
          go_region_held3 (fun w' => w'.cell? ⟨H, 0, none⟩ = some (.bool lb.g) ∧ w'.cell? ⟨H, 1, none⟩ = some (.slice lb.a lb.n lb.c)) (with_reducible (first | exact ⟨k0_0, k0_1⟩ | exact ⟨cd_other k0_0, cd_other k0_1⟩ | exact ⟨ca_other k0_0, ca_other k0_1⟩ | exact ⟨cd_other (ca_other k0_0), cd_other (ca_other k0_1)⟩ | exact ⟨cs_other (cs_other (k0_0) (by omega)) (by omega), cs_other (cs_other (k0_1) (by omega)) (by omega)⟩ | fail))
            (first
            | (go_at_call 62; refine (powS k _ (by omega)).mono ?_; rintro e wx1 ⟨pk, lk, rfl, hb, ok1, ak1, nk1⟩; have hbx : Below wr.heap.size wr wx1 := (by first | exact below_of_drew hb | exact bad hb); have szwx1 := hbx.size; replace k0_0 := cell_later hbx k0_0; replace k0_1 := cell_later hbx k0_1; replace k1_0 := cell_later hbx k1_0; replace k1_1 := cell_later hbx k1_1; replace RS := hide ((unhide RS).later hbx); have OK := hide (outN_ow ok1 ak1 nk1); (try (replace gf := fun o => frozen_later hbx (World.block_lt_of_cell? _ _ g0) (gf o); replace g0 := cell_later hbx g0; replace g1 := cell_later hbx g1)); (try (refine cutP (p := wx1.cell? ⟨wr.heap.size, 0, none⟩ = some (.bool false) ∧ wx1.cell? ⟨wr.heap.size, 1, none⟩ = some (.slice none 0 0) ∧ ∀ o, wx1.frozen? ⟨wr.heap.size, o, none⟩ = false) ?_ (fun dd => ?_); (focus (refine ⟨cell_later hb ?_, cell_later hb ?_, fun o => frozen_later hb ?_ ?_⟩ <;> (simp [go_sem]; done))); obtain ⟨g0, g1, gf⟩ := dd)); have zz := hb.size; (try simp at zz); have HBr := hide hbx; clear hbx hb ok1 ak1 nk1)
            | (go_at_call 65; refine (addS_v lb pk lo (2 ^ k) _ ?_ ?_ ((unhide BR).mono (by omega)) ((unhide BK).mono (by omega))).mono ?_; (first | exact (unhide RS).ol.is.later (Below.refl _ _) | exact (unhide RS).ol.is.later ((Below.refl _ _).alloc (Nat.le_refl _) _)); (first | exact (unhide OK).is.later (Below.refl _ _) | exact (unhide OK).is.later ((Below.refl _ _).alloc (Nat.le_refl _) _)); rintro e wx2 ⟨nx, ln, rfl, hb, on, an, nn⟩; have hbx : Below wx1.heap.size wx1 wx2 := (by first | exact hb | exact ba hb); have szwx2 := hbx.size; replace k0_0 := cell_later hbx k0_0; replace k0_1 := cell_later hbx k0_1; replace k1_0 := cell_later hbx k1_0; replace k1_1 := cell_later hbx k1_1; replace RS := hide ((unhide RS).later hbx); replace OK := hide ((unhide OK).later hbx); have ON := hide (outN_ow on an nn); (try (replace gf := fun o => frozen_later hbx (World.block_lt_of_cell? _ _ g0) (gf o); replace g0 := cell_later hbx g0; replace g1 := cell_later hbx g1)); (try (refine cutP (p := wx2.cell? ⟨wx1.heap.size, 0, none⟩ = some (.bool false) ∧ wx2.cell? ⟨wx1.heap.size, 1, none⟩ = some (.slice none 0 0) ∧ ∀ o, wx2.frozen? ⟨wx1.heap.size, o, none⟩ = false) ?_ (fun dd => ?_); (focus (refine ⟨cell_later hb ?_, cell_later hb ?_, fun o => frozen_later hb ?_ ?_⟩ <;> (simp [go_sem]; done))); obtain ⟨g0, g1, gf⟩ := dd)); have zz := hb.size; (try simp at zz); have HBr := hide (below_on (unhide HBr) hbx); clear hbx hb on an nn))
          all_goals go_wp2_with fail
          all_goals go_meet
          all_goals first
            | (refine ⟨_, nx, rfl, hide (bxB_alloc 24 (unhide HBr) (unhide ON) ?_)⟩; omega)
            | (refine ⟨_, nx, rfl, hide (bxB_set (unhide HBr) (unhide ON) ?_ ?_ g0 g1)⟩ <;> first | omega | (simp; done) | (simp; omega))
        case rest =>
          obtain ⟨Y, xY, rfl, HY⟩ := hcut
          have hb := (unhide HY).bel
          have loY := (unhide HY).lo
          have hiY := (unhide HY).hi
          replace k0_0 := cell_later hb k0_0
          replace k0_1 := cell_later hb k0_1
          replace k1_0 := cell_later hb k1_0
          replace k1_1 := cell_later hb k1_1
          replace RS := hide ((unhide RS).later hb)
          have OY := hide ((unhide HY).ow)
          replace HB := hide (below_on (unhide HB) hb)
          clear hb
          have k2_0 := (unhide HY).c0
          have k2_1 := (unhide HY).c1
          clear HY
          obtain ⟨w8, hw8⟩ : ∃ x, x = wc := ⟨_, rfl⟩
          subst hw8
          clear k0_0 k0_1
          by_cases hc : (lo + 2 ^ k) * (lo + 2 ^ k) ≤ V
          · have t1 : decide (cmpZ ((lo + 2 ^ k) * (lo + 2 ^ k)) V ≤ 0) = true := by rw [cmpZ_le]; exact decide_eq_true hc
            have NV : Hid ((0 ≤ lo + 2 ^ k ∧ (lo + 2 ^ k) * (lo + 2 ^ k) ≤ V) ∧ V < (lo + 2 ^ k + 2 ^ k) * (lo + 2 ^ k + 2 ^ k)) := hide (by
              obtain ⟨⟨i1, i2⟩, i3⟩ := unhide IV
              have p2 := two_pos k
              rw [show lo + 2 ^ k + 2 ^ k = lo + 2 ^ (k + 1) by rw [Int.pow_succ]; omega]; exact ⟨⟨by omega, hc⟩, i3⟩)
            clear hc
            go_upto_region 10 with fail
            go_region_held3 (fun w' => w'.cell? ⟨Y, 0, none⟩ = some (.bool xY.g) ∧ w'.cell? ⟨Y, 1, none⟩ = some (.slice xY.a xY.n xY.c) ∧ w'.cell? ⟨G, 0, none⟩ = some (.bool xG.g) ∧ w'.cell? ⟨G, 1, none⟩ = some (.slice xG.a xG.n xG.c)) (with_reducible (first | exact ⟨k2_0, k2_1, k1_0, k1_1⟩ | exact ⟨cd_other k2_0, cd_other k2_1, cd_other k1_0, cd_other k1_1⟩ | fail))
              (first
              | (go_at_call 64; refine (mulS_v xY xY (lo + 2 ^ k) (lo + 2 ^ k) _ ?_ ?_ ((unhide BX).mono (by omega)) ((unhide BX).mono (by omega))).mono ?_; exact (unhide OY).is.later (Below.refl _ _).drew; exact (unhide OY).is.later (Below.refl _ _).drew; rintro e wy1 ⟨sq, ls, rfl, hb, os1, as1, ns1⟩; have hbx : Below w8.heap.size w8 wy1 := below_of_drew hb; have szwy1 := hbx.size; replace k1_0 := cell_later hbx k1_0; replace k1_1 := cell_later hbx k1_1; replace k2_0 := cell_later hbx k2_0; replace k2_1 := cell_later hbx k2_1; replace RS := hide ((unhide RS).later hbx); replace OY := hide ((unhide OY).later hbx); have OS := hide (outN_ow os1 as1 ns1); have HBr := hide hbx; clear hbx hb os1 as1 ns1)
              | (go_at_call 66; refine (cmpS_v sq xG ((lo + 2 ^ k) * (lo + 2 ^ k)) V _ ?_ ?_).mono ?_; exact (unhide OS).is.later (Below.refl _ _); exact (unhide RS).ox.is.later (Below.refl _ _); rintro e wy2 ⟨rfl, hb⟩; have hbx : Below wy1.heap.size wy1 wy2 := hb; have szwy2 := hbx.size; replace k1_0 := cell_later hbx k1_0; replace k1_1 := cell_later hbx k1_1; replace k2_0 := cell_later hbx k2_0; replace k2_1 := cell_later hbx k2_1; replace RS := hide ((unhide RS).later hbx); replace OY := hide ((unhide OY).later hbx); replace OS := hide ((unhide OS).later hbx); have HBr := hide (below_on (unhide HBr) hbx); clear hbx hb))
            replace HB := hide (below_on (unhide HB) (unhide HBr))
            clear HBr
            have h0 := (unhide RS).h0
            have h1 := (unhide RS).h1
            have hf := (unhide RS).fh
            have RN := hide ((unhide RS).set ((unhide OY).wide (by omega) (by omega)))
            go_wp2
            go_roundw
            case rel => exact ⟨k, xY, lo + 2 ^ k, by omega, by go_num, NV, RN⟩
            case measure => first | (simp [intOf]; done) | (simp [intOf]; omega)
          · have t1 : decide (cmpZ ((lo + 2 ^ k) * (lo + 2 ^ k)) V ≤ 0) = false := by rw [cmpZ_le]; exact decide_eq_false hc
            have NV : Hid ((0 ≤ lo ∧ lo * lo ≤ V) ∧ V < (lo + 2 ^ k) * (lo + 2 ^ k)) := hide (by
              obtain ⟨⟨i1, i2⟩, i3⟩ := unhide IV
              have p2 := two_pos k
              exact ⟨⟨i1, i2⟩, by omega⟩)
            clear hc
            go_upto_region 10 with fail
            go_region_held3 (fun w' => w'.cell? ⟨Y, 0, none⟩ = some (.bool xY.g) ∧ w'.cell? ⟨Y, 1, none⟩ = some (.slice xY.a xY.n xY.c) ∧ w'.cell? ⟨G, 0, none⟩ = some (.bool xG.g) ∧ w'.cell? ⟨G, 1, none⟩ = some (.slice xG.a xG.n xG.c)) (with_reducible (first | exact ⟨k2_0, k2_1, k1_0, k1_1⟩ | exact ⟨cd_other k2_0, cd_other k2_1, cd_other k1_0, cd_other k1_1⟩ | fail))
              (first
              | (go_at_call 64; refine (mulS_v xY xY (lo + 2 ^ k) (lo + 2 ^ k) _ ?_ ?_ ((unhide BX).mono (by omega)) ((unhide BX).mono (by omega))).mono ?_; exact (unhide OY).is.later (Below.refl _ _).drew; exact (unhide OY).is.later (Below.refl _ _).drew; rintro e wy1 ⟨sq, ls, rfl, hb, os1, as1, ns1⟩; have hbx : Below w8.heap.size w8 wy1 := below_of_drew hb; have szwy1 := hbx.size; replace k1_0 := cell_later hbx k1_0; replace k1_1 := cell_later hbx k1_1; replace k2_0 := cell_later hbx k2_0; replace k2_1 := cell_later hbx k2_1; replace RS := hide ((unhide RS).later hbx); replace OY := hide ((unhide OY).later hbx); have OS := hide (outN_ow os1 as1 ns1); have HBr := hide hbx; clear hbx hb os1 as1 ns1)
              | (go_at_call 66; refine (cmpS_v sq xG ((lo + 2 ^ k) * (lo + 2 ^ k)) V _ ?_ ?_).mono ?_; exact (unhide OS).is.later (Below.refl _ _); exact (unhide RS).ox.is.later (Below.refl _ _); rintro e wy2 ⟨rfl, hb⟩; have hbx : Below wy1.heap.size wy1 wy2 := hb; have szwy2 := hbx.size; replace k1_0 := cell_later hbx k1_0; replace k1_1 := cell_later hbx k1_1; replace k2_0 := cell_later hbx k2_0; replace k2_1 := cell_later hbx k2_1; replace RS := hide ((unhide RS).later hbx); replace OY := hide ((unhide OY).later hbx); replace OS := hide ((unhide OS).later hbx); have HBr := hide (below_on (unhide HBr) hbx); clear hbx hb))
            replace HB := hide (below_on (unhide HB) (unhide HBr))
            clear HBr
            go_wp2
            go_roundw
            case rel => exact ⟨k, lb, lo, by omega, by go_num, NV, RS⟩
            case measure => first | (simp [intOf]; done) | (simp [intOf]; omega)

set_option maxHeartbeats 8000000 in
theorem RootSS (q : QV) (d : QD) (n : Int) (w : World) (h : AllAr w [(q.num, d.num), (q.den, d.den)]) : Calls Try.prog 28 #[.agg #[.bool q.num.g, .slice q.num.a q.num.n q.num.c, .bool q.den.g, .slice q.den.a q.den.n q.den.c], .int .i64 n] w (RetS w (AnsRt d n)) := by
  have H1 := hide h
  clear h
  cases hg1 : gQ d
  · have HP : Hid (pR d n = false) := hide (by unfold pR; rw [hg1]; cases (decide (0 ≤ n) && decide (n ≤ 64)) <;> rfl)
    have G1 := hide (fun w1 (k : AllAr w1 [(q.num, d.num), (q.den, d.den)]) => goodQS q d w1 k)
    rw [hg1] at G1
    clear hg1
    have B0 := hide (show Below w.heap.size w ((w.alloc (.cells #[.bool q.num.g, .slice q.num.a q.num.n q.num.c, .bool q.den.g, .slice q.den.a q.den.n q.den.c] 38)).alloc (.cells #[.bool false, .slice none 0 0, .bool false, .slice none 0 0, .bool false, .slice none 0 0, .bool false, .slice none 0 0] 49)) from (((Below.refl _ _).alloc (by simp) _).alloc (by simp) _))
    go_enter Try.func28, Try.ntmps28
    go_wp2_with fail
    refine (unhide G1 _ ((unhide H1).later (unhide B0))).mono ?_
    rintro e w1 ⟨rfl, hb⟩
    have s1 : w.heap.size + 1 < w1.heap.size := by have := hb.size; simp at this; omega
    have k1_0 : w1.cell? ⟨w.heap.size + 1, 0, none⟩ = some (.bool false) := cell_later hb (by simp [go_sem])
    have k1_1 : w1.cell? ⟨w.heap.size + 1, 1, none⟩ = some (.slice none 0 0) := cell_later hb (by simp [go_sem])
    have k1_2 : w1.cell? ⟨w.heap.size + 1, 2, none⟩ = some (.bool false) := cell_later hb (by simp [go_sem])
    have k1_3 : w1.cell? ⟨w.heap.size + 1, 3, none⟩ = some (.slice none 0 0) := cell_later hb (by simp [go_sem])
    have k1_4 : w1.cell? ⟨w.heap.size + 1, 4, none⟩ = some (.bool false) := cell_later hb (by simp [go_sem])
    have k1_5 : w1.cell? ⟨w.heap.size + 1, 5, none⟩ = some (.slice none 0 0) := cell_later hb (by simp [go_sem])
    have k1_6 : w1.cell? ⟨w.heap.size + 1, 6, none⟩ = some (.bool false) := cell_later hb (by simp [go_sem])
    have k1_7 : w1.cell? ⟨w.heap.size + 1, 7, none⟩ = some (.slice none 0 0) := cell_later hb (by simp [go_sem])
    have z1 : ∀ o, w1.frozen? ⟨w.heap.size + 1, o, none⟩ = false := fun o => frozen_later hb (by simp) (by simp [go_sem])
    have HB := hide (below_on (unhide B0) hb)
    clear hb
    go_wp2
    refine bodyPost_ret (v := .tuple #[.agg #[.bool false, .slice none 0 0, .bool false, .slice none 0 0, .bool false, .slice none 0 0, .bool false, .slice none 0 0], .bool false]) (by simp [results, Try.results28, go_sem, k1_0, k1_1, k1_2, k1_3, k1_4, k1_5, k1_6, k1_7]) rfl ?_
    exact retS_fin (v := (⟨⟨⟨false, none, 0, 0⟩, ⟨false, none, 0, 0⟩⟩, ⟨⟨false, none, 0, 0⟩, ⟨false, none, 0, 0⟩⟩⟩ : SV)) (d := (⟨⟨⟨false, []⟩, ⟨false, []⟩⟩, ⟨⟨false, []⟩, ⟨false, []⟩⟩⟩ : SD)) (R := w.heap.size + 1) (by omega) (unhide HB) (metS_but (w5 := w1) (v := (⟨⟨⟨false, none, 0, 0⟩, ⟨false, none, 0, 0⟩⟩, ⟨⟨false, none, 0, 0⟩, ⟨false, none, 0, 0⟩⟩⟩ : SV)) (G := w.heap.size + 1)) (zeroS _ _ _) (ansRt_none (unhide HP))
  · cases hq : q.num.g
    · cases hb0 : (decide (0 ≤ n) && decide (n ≤ 64))
      · have SG := hide ((unhide H1).head.sg.symm.trans hq)
        have G1 := hide (fun w1 (k : AllAr w1 [(q.num, d.num), (q.den, d.den)]) => goodQS q d w1 k)
        rw [hg1] at G1
        have HP : Hid (pR d n = false) := hide (by unfold pR; rw [hb0]; rfl)
        have BB := hide hb0
        rw [hq] at G1
        clear hg1 hq hb0
        have B0 := hide (show Below w.heap.size w ((w.alloc (.cells #[.bool false, .slice q.num.a q.num.n q.num.c, .bool q.den.g, .slice q.den.a q.den.n q.den.c] 38)).alloc (.cells #[.bool false, .slice none 0 0, .bool false, .slice none 0 0, .bool false, .slice none 0 0, .bool false, .slice none 0 0] 49)) from (((Below.refl _ _).alloc (by simp) _).alloc (by simp) _))
        go_enter Try.func28, Try.ntmps28
        go_wp2_with fail
        refine (unhide G1 _ ((unhide H1).later (unhide B0))).mono ?_
        rintro e w1 ⟨rfl, hb⟩
        have s1 : w.heap.size + 1 < w1.heap.size := by have := hb.size; simp at this; omega
        have k0_0 : w1.cell? ⟨w.heap.size, 0, none⟩ = some (.bool false) := cell_later hb (by simp [go_sem])
        have k1_0 : w1.cell? ⟨w.heap.size + 1, 0, none⟩ = some (.bool false) := cell_later hb (by simp [go_sem])
        have k1_1 : w1.cell? ⟨w.heap.size + 1, 1, none⟩ = some (.slice none 0 0) := cell_later hb (by simp [go_sem])
        have k1_2 : w1.cell? ⟨w.heap.size + 1, 2, none⟩ = some (.bool false) := cell_later hb (by simp [go_sem])
        have k1_3 : w1.cell? ⟨w.heap.size + 1, 3, none⟩ = some (.slice none 0 0) := cell_later hb (by simp [go_sem])
        have k1_4 : w1.cell? ⟨w.heap.size + 1, 4, none⟩ = some (.bool false) := cell_later hb (by simp [go_sem])
        have k1_5 : w1.cell? ⟨w.heap.size + 1, 5, none⟩ = some (.slice none 0 0) := cell_later hb (by simp [go_sem])
        have k1_6 : w1.cell? ⟨w.heap.size + 1, 6, none⟩ = some (.bool false) := cell_later hb (by simp [go_sem])
        have k1_7 : w1.cell? ⟨w.heap.size + 1, 7, none⟩ = some (.slice none 0 0) := cell_later hb (by simp [go_sem])
        have z1 : ∀ o, w1.frozen? ⟨w.heap.size + 1, o, none⟩ = false := fun o => frozen_later hb (by simp) (by simp [go_sem])
        have HB := hide (below_on (unhide B0) hb)
        clear hb
        go_wp2_with fail
        refine (inB n 0 64 _ false (unhide BB)).mono ?_
        rintro e w2 ⟨rfl, hb⟩
        have s2 := hb.size
        replace z1 := fun o => frozen_later hb (World.block_lt_of_cell? _ _ k1_0) (z1 o)
        replace k1_0 := cell_later hb k1_0
        replace k1_1 := cell_later hb k1_1
        replace k1_2 := cell_later hb k1_2
        replace k1_3 := cell_later hb k1_3
        replace k1_4 := cell_later hb k1_4
        replace k1_5 := cell_later hb k1_5
        replace k1_6 := cell_later hb k1_6
        replace k1_7 := cell_later hb k1_7
        clear k0_0
        replace HB := hide (below_on (unhide HB) hb)
        clear hb
        go_wp2
        refine bodyPost_ret (v := .tuple #[.agg #[.bool false, .slice none 0 0, .bool false, .slice none 0 0, .bool false, .slice none 0 0, .bool false, .slice none 0 0], .bool false]) (by simp [results, Try.results28, go_sem, k1_0, k1_1, k1_2, k1_3, k1_4, k1_5, k1_6, k1_7]) rfl ?_
        exact retS_fin (v := (⟨⟨⟨false, none, 0, 0⟩, ⟨false, none, 0, 0⟩⟩, ⟨⟨false, none, 0, 0⟩, ⟨false, none, 0, 0⟩⟩⟩ : SV)) (d := (⟨⟨⟨false, []⟩, ⟨false, []⟩⟩, ⟨⟨false, []⟩, ⟨false, []⟩⟩⟩ : SD)) (R := w.heap.size + 1) (by omega) (unhide HB) (metS_but (w5 := w2) (v := (⟨⟨⟨false, none, 0, 0⟩, ⟨false, none, 0, 0⟩⟩, ⟨⟨false, none, 0, 0⟩, ⟨false, none, 0, 0⟩⟩⟩ : SV)) (G := w.heap.size + 1)) (zeroS _ _ _) (ansRt_none (unhide HP))
      · have SG := (unhide H1).head.sg.symm.trans hq
        have HP : pR d n = true := by unfold pR; rw [hb0, hg1, show d.num.g = false from SG]; rfl
        have hn : 0 ≤ n ∧ n ≤ 64 := by revert hb0; rw [Bool.and_eq_true, decide_eq_true_eq, decide_eq_true_eq]; exact id
        obtain ⟨m, rfl⟩ := Int.eq_ofNat_of_zero_le hn.1
        have NN : 0 ≤ nQ d := by
          have h := (goodB_neg (goodR_parts hg1).1).1
          refine Int.not_lt.1 fun hc => ?_
          have := h.1 hc
          rw [show d.num.g = false from SG] at this
          cases this
        obtain ⟨⟨g, a, nn, c⟩, dn⟩ := q
        obtain rfl : g = false := hq
        refine (rootGood a nn c dn d m (nQ d) (dQ d) (2 ^ m) w (unhide H1) hg1 (by omega) rfl rfl rfl NN).mono ?_
        rintro e w' ⟨r, hr, v, dv, ok, rfl, hb, ov, hu⟩
        exact ⟨v, dv, ok, rfl, hb, ov, r, fun _ => hr, by rw [HP]; exact hu⟩
    · have SG := hide ((unhide H1).head.sg.symm.trans hq)
      have G1 := hide (fun w1 (k : AllAr w1 [(q.num, d.num), (q.den, d.den)]) => goodQS q d w1 k)
      rw [hg1] at G1
      have HP : Hid (pR d n = false) := hide (by unfold pR; rw [hg1, show d.num.g = true from unhide SG]; cases (decide (0 ≤ n) && decide (n ≤ 64)) <;> rfl)
      rw [hq] at G1
      clear hg1 hq
      have B0 := hide (show Below w.heap.size w ((w.alloc (.cells #[.bool true, .slice q.num.a q.num.n q.num.c, .bool q.den.g, .slice q.den.a q.den.n q.den.c] 38)).alloc (.cells #[.bool false, .slice none 0 0, .bool false, .slice none 0 0, .bool false, .slice none 0 0, .bool false, .slice none 0 0] 49)) from (((Below.refl _ _).alloc (by simp) _).alloc (by simp) _))
      go_enter Try.func28, Try.ntmps28
      go_wp2_with fail
      refine (unhide G1 _ ((unhide H1).later (unhide B0))).mono ?_
      rintro e w1 ⟨rfl, hb⟩
      have s1 : w.heap.size + 1 < w1.heap.size := by have := hb.size; simp at this; omega
      have k0_0 : w1.cell? ⟨w.heap.size, 0, none⟩ = some (.bool true) := cell_later hb (by simp [go_sem])
      have k1_0 : w1.cell? ⟨w.heap.size + 1, 0, none⟩ = some (.bool false) := cell_later hb (by simp [go_sem])
      have k1_1 : w1.cell? ⟨w.heap.size + 1, 1, none⟩ = some (.slice none 0 0) := cell_later hb (by simp [go_sem])
      have k1_2 : w1.cell? ⟨w.heap.size + 1, 2, none⟩ = some (.bool false) := cell_later hb (by simp [go_sem])
      have k1_3 : w1.cell? ⟨w.heap.size + 1, 3, none⟩ = some (.slice none 0 0) := cell_later hb (by simp [go_sem])
      have k1_4 : w1.cell? ⟨w.heap.size + 1, 4, none⟩ = some (.bool false) := cell_later hb (by simp [go_sem])
      have k1_5 : w1.cell? ⟨w.heap.size + 1, 5, none⟩ = some (.slice none 0 0) := cell_later hb (by simp [go_sem])
      have k1_6 : w1.cell? ⟨w.heap.size + 1, 6, none⟩ = some (.bool false) := cell_later hb (by simp [go_sem])
      have k1_7 : w1.cell? ⟨w.heap.size + 1, 7, none⟩ = some (.slice none 0 0) := cell_later hb (by simp [go_sem])
      have z1 : ∀ o, w1.frozen? ⟨w.heap.size + 1, o, none⟩ = false := fun o => frozen_later hb (by simp) (by simp [go_sem])
      have HB := hide (below_on (unhide B0) hb)
      clear hb
      go_wp2
      refine bodyPost_ret (v := .tuple #[.agg #[.bool false, .slice none 0 0, .bool false, .slice none 0 0, .bool false, .slice none 0 0, .bool false, .slice none 0 0], .bool false]) (by simp [results, Try.results28, go_sem, k1_0, k1_1, k1_2, k1_3, k1_4, k1_5, k1_6, k1_7]) rfl ?_
      exact retS_fin (v := (⟨⟨⟨false, none, 0, 0⟩, ⟨false, none, 0, 0⟩⟩, ⟨⟨false, none, 0, 0⟩, ⟨false, none, 0, 0⟩⟩⟩ : SV)) (d := (⟨⟨⟨false, []⟩, ⟨false, []⟩⟩, ⟨⟨false, []⟩, ⟨false, []⟩⟩⟩ : SD)) (R := w.heap.size + 1) (by omega) (unhide HB) (metS_but (w5 := w1) (v := (⟨⟨⟨false, none, 0, 0⟩, ⟨false, none, 0, 0⟩⟩, ⟨⟨false, none, 0, 0⟩, ⟨false, none, 0, 0⟩⟩⟩ : SV)) (G := w.heap.size + 1)) (zeroS _ _ _) (ansRt_none (unhide HP))
end Go.Proofs.Ytcbmecnipldcfaa
