/- Quotients of limbs and greatest common divisors: the program's divLimbs and gcdLimbs. No condition beyond those typed. -/
import Derived.Test.YtdgonpbponnnaaaGreatDoorDivG
namespace Go.Proofs.YtdgonpbponnnaaaGreatDoor
open Go.RowKit
set_option linter.unusedVariables false
set_option maxRecDepth 100000
set_option linter.unusedSimpArgs false

theorem clone_any (a : Option Addr) (n c : Nat) (xs : List Int) (w : World) (hx : Arg w a n c xs) (h1 : n ≤ 1048576) :
    Calls Tryz.prog 78 #[.slice a n c] w fun e w' => ∃ a1 c1, e = .returned (.slice a1 n c1) ∧ Below w.heap.size w w' ∧ Own w.heap.size w' a1 xs ∧ Arg w' a1 n c1 xs := by
  rcases hx.addr with ⟨rfl, rfl⟩ | ⟨b, off, rfl⟩
  · have h0 : n = 0 := by have := hx.cap; omega
    subst h0
    have e0 : xs = [] := List.length_eq_zero_iff.1 hx.len
    subst e0
    refine (clone_none 0 w).mono ?_
    rintro e w1 ⟨rfl, rfl⟩
    exact ⟨none, 0, rfl, Below.refl _ _, .inl rfl, Arg.none _⟩
  · refine (clone_some b off n c xs w hx.sl hx.len h1).mono ?_
    rintro e w1 ⟨g, c1, rfl, hb, hown⟩
    have ho := Own.of_owns hown hx.len
    have hc1 : n ≤ c1 ∧ c1 ≤ maxLen := by
      rcases hown.2 with ⟨h', _⟩ | ⟨g', cap', cur, h', hg, _, q1, q2, _⟩
      · simp at h'
      · simp only [Value.slice.injEq, Option.some.injEq, Addr.mk.injEq, and_true, true_and] at h'
        obtain ⟨rfl, rfl⟩ := h'
        exact ⟨q1, q2⟩
    exact ⟨_, c1, rfl, hb, ho, ⟨ho.sl, hx.len, hc1.1, hc1.2, .inr ⟨_, _, rfl⟩⟩⟩

theorem div_small {X Y : Int} (h0 : 0 ≤ X) (h : X < Y) : X / Y = 0 ∧ X % Y = X := ⟨Int.ediv_eq_zero_of_lt h0 h, Int.emod_eq_of_lt h0 h⟩
theorem val_one {ys : List Int} (h : ys.length = 1) : val ys = ys.getD 0 0 := by
  match ys, h with
  | [y], _ => simp [val]

set_option maxHeartbeats 4000000 in
theorem divI_any (a a' : Option Addr) (n m c c' : Nat) (xs ys : List Int) (w : World) (hx : Arg w a n c xs) (hy : Arg w a' m c' ys) (ox : okL xs) (tx : trim xs = xs) (oy : okL ys) (ty : trim ys = ys) (hm : 1 ≤ m) (h1 : n ≤ 900000) (h2 : m ≤ 900000) :
    Calls Tryz.prog 77 #[.slice a n c, .slice a' m c'] w (Out2 w (val xs / val ys) (val xs % val ys)) := by
  have HX := hide hx
  have HY := hide hy
  have HC := hide (cmpI_any a a' n m c c' xs ys w hx.sl hy.sl hx.len hy.len (Nat.le_trans hx.cap hx.top) (Nat.le_trans hy.cap hy.top))
  have HV := hide (cmpL_val ox oy tx ty)
  clear hx hy
  by_cases hlt : cmpL xs ys < 0
  · have HD := hide (div_small (val_nonneg ox) ((unhide HV).1.1 hlt))
    go_enter Tryz.func77, Tryz.ntmps77
    go_wp2_with fail
    refine (unhide HC).mono ?_
    rintro e w1 ⟨rfl, hb1⟩
    have HB1 := hide hb1
    clear hb1
    go_wp2_with fail
    refine (clone_any a n c xs w1 ((unhide HX).later (unhide HB1)) (by omega)).mono ?_
    rintro e w2 ⟨a2, c2, rfl, hb2, ho2, ha2⟩
    have HF : Hid (Below w.heap.size w w2 ∧ Own w.heap.size w2 a2 xs ∧ Arg w2 a2 n c2 xs) := hide ⟨below_on (unhide HB1) hb2, ho2.mono (unhide HB1).size, ha2⟩
    clear hb2 ho2 ha2
    go_wp2
    go_ret2
    exact ⟨none, 0, 0, [], a2, n, c2, xs, rfl, (unhide HF).1, .inl rfl, Arg.none _, by rw [(unhide HD).1]; exact Nm.zero, (unhide HF).2.1, (unhide HF).2.2, ⟨ox, tx, (unhide HD).2.symm⟩, .inl rfl⟩
  · have hle : val ys ≤ val xs := by
      rcases Int.lt_or_le (val xs) (val ys) with h | h
      · exact absurd ((unhide HV).1.2 h) hlt
      · exact h
    have HNM : Hid (m ≤ n) := hide (by have := len_of_val ox oy ty hle; rw [(unhide HX).len, (unhide HY).len] at this; exact this)
    clear hle
    obtain ⟨b, off, rfl, hcy⟩ := (unhide HY).sl.at (k := 0) (by rw [(unhide HY).len]; omega)
    rw [Nat.add_zero] at hcy
    by_cases hm1 : m = 1
    · subst hm1
      have hyb := okL_get oy 0
      have hpos := (top_pos oy ty (unhide HY).len (by omega)).1
      have HV1 := hide (val_one (unhide HY).len)
      have hpos' : 1 ≤ ys.getD 0 0 := hpos
      clear hpos
      generalize ys.getD 0 0 = y at *
      obtain ⟨hy0, hy1⟩ := hyb
      go_enter Tryz.func77, Tryz.ntmps77
      go_wp2_with fail
      refine (unhide HC).mono ?_
      rintro e w1 ⟨rfl, hb1⟩
      have HB1 := hide hb1
      have hcy1 := cell_later hb1 hcy
      clear hb1
      go_wp2_with fail
      refine (divInt_any a n c xs y w1 ((unhide HX).later (unhide HB1)) ox (by omega) (by omega) (by omega)).mono ?_
      rintro e w2 ⟨a2, n2, c2, zs, rfl, hb2, ho2, ha2, hn2⟩
      have H2 := hide (And.intro hb2 (And.intro ho2 (And.intro ha2 hn2)))
      have hr0 : 0 ≤ val xs % y := Int.emod_nonneg _ (by omega)
      have hr1 : val xs % y < y := Int.emod_lt_of_pos _ (by omega)
      obtain ⟨r, HR⟩ : ∃ r, Hid (val xs % y = r) := ⟨_, hide rfl⟩
      rw [unhide HR] at hr0 hr1 ⊢
      clear hb2 ho2 ha2 hn2 hcy1 hcy
      go_wp2_with fail
      refine (trim_any _ _ _ [r] _ (one_arg w2 r).1).mono ?_
      rintro e w3 ⟨a3, n3, c3, rfl, rfl, harg, hown⟩
      have hal : Below w2.heap.size w2 (w2.alloc (.cells #[.int .i64 r] 3)) := (Below.refl _ _).alloc (Nat.le_refl _) _
      have HF : Hid (Below w.heap.size w (w2.alloc (.cells #[.int .i64 r] 3)) ∧ (Own w.heap.size (w2.alloc (.cells #[.int .i64 r] 3)) a2 zs ∧ Arg (w2.alloc (.cells #[.int .i64 r] 3)) a2 n2 c2 zs) ∧ (Own w2.heap.size (w2.alloc (.cells #[.int .i64 r] 3)) a3 (trim [r]) ∧ Arg (w2.alloc (.cells #[.int .i64 r] 3)) a3 n3 c3 (trim [r])) ∧ Nm (trim [r]) (val xs % val ys) ∧ Nm zs (val xs / val ys)) := by
        refine hide ⟨below_on (below_on (unhide HB1) (unhide H2).1) hal, ⟨((unhide H2).2.1.mono (unhide HB1).size).later hal, (unhide H2).2.2.1.later hal⟩, ⟨hown _ _ (one_arg w2 r).2, harg _ (one_arg w2 r).1⟩, ?_, by rw [unhide HV1]; exact (unhide H2).2.2.2⟩
        rw [unhide HV1, unhide HR]
        have := Nm.trimmed (xs := [r]) (okL_one hr0 (by omega))
        have e : val [r] = r := by simp [val]
        rw [e] at this
        exact this
      have HS := hide (unhide H2).2.1
      clear harg hown hal
      go_wp2
      go_ret2
      exact ⟨a2, n2, c2, _, a3, n3, c3, _, rfl, (unhide HF).1, (unhide HF).2.1.1, (unhide HF).2.1.2, (unhide HF).2.2.2.2, (unhide HF).2.2.1.1.mono (Nat.le_trans (unhide HB1).size (unhide H2).1.size), (unhide HF).2.2.1.2, (unhide HF).2.2.2.1, apart_of (unhide HS) (unhide HF).2.2.1.1⟩
    · have hm1' : ((m : Int) == 1) = false := by simp; omega
      obtain ⟨e0, rfl⟩ : ∃ e0, n = m + e0 := ⟨n - m, by have := unhide HNM; omega⟩
      clear HNM hcy
      go_enter Tryz.func77, Tryz.ntmps77
      go_wp2_with fail
      refine (unhide HC).mono ?_
      rintro e w1 ⟨rfl, hb1⟩
      have HB1 := hide hb1
      clear hb1
      go_wp2_with fail
      refine (longI_any b off a m e0 c c' xs ys w1 ((unhide HX).later (unhide HB1)) ((unhide HY).later (unhide HB1)) ox oy ty (by omega) (by omega)).mono ?_
      rintro e w2 ⟨a2, n2, c2, zs, a3, n3, c3, rs, rfl, hb2, q⟩
      have HF := hide (And.intro (below_on (unhide HB1) hb2) q)
      clear hb2 q
      go_wp2
      go_ret2
      obtain ⟨f0, f1, f2, f3, f4, f5, f6, f7⟩ := unhide HF
      exact ⟨a2, n2, c2, zs, a3, n3, c3, rs, rfl, f0, f1.mono (unhide HB1).size, f2, f3, f4.mono (unhide HB1).size, f5, f6, f7⟩

/-- The greatest common divisor, by quotients. -/
theorem gcd_step (A B : Nat) (h : 0 < B) : Nat.gcd A B = Nat.gcd B (A % B) := by rw [Nat.gcd_comm A B, Nat.gcd_rec B A, Nat.gcd_comm]
theorem Nm.le {zs : List Int} {V : Int} {n : Nat} {W : List Int} (h : Nm zs V) (hW : okL W) (hl : W.length = n) (hv : V ≤ val W) : zs.length ≤ n := by
  rw [← hl]
  exact len_of_val hW h.ok h.tr (by rw [h.v]; exact hv)

/-- The limbs that a slice leads to, read off the world: for the measure of a loop. -/
def rdAt (w : World) (b off i : Nat) : Int := match w.cell? ⟨b, off + i, none⟩ with | some (.int _ x) => x | _ => 0
def rd (w : World) (v : Value) : List Int := match v with | .slice (some ⟨b, off, _⟩) n _ => (List.range n).map (rdAt w b off) | _ => []
theorem rd_arg {w : World} {a : Option Addr} {n c : Nat} {xs : List Int} (h : Arg w a n c xs) : rd w (.slice a n c) = xs := by
  rcases h.sl with rfl | ⟨b, off, rfl, _, hc⟩
  · have : n = 0 := by have := h.len; simpa using this.symm
    subst this
    unfold rd
    split
    · rename_i e; simp only [Value.slice.injEq] at e; obtain ⟨_, e2, _⟩ := e; subst e2; rfl
    · rfl
  · show (List.range n).map (rdAt w b off) = xs
    apply List.ext_getElem?
    intro i
    rw [List.getElem?_map, ← h.len]
    by_cases hi : i < xs.length
    · rw [List.getElem?_range hi]
      simp only [Option.map_some, rdAt, hc i hi]
      simp [hi]
    · rw [List.getElem?_eq_none (by simp; omega), List.getElem?_eq_none (by omega)]; rfl

set_option maxHeartbeats 4000000 in
theorem gcdI_any (a a' : Option Addr) (n m c c' : Nat) (xs ys : List Int) (w : World) (hx : Arg w a n c xs) (hy : Arg w a' m c' ys) (ox : okL xs) (tx : trim xs = xs) (oy : okL ys) (ty : trim ys = ys) (h1 : n ≤ 900000) (h2 : m ≤ 900000) :
    Calls Tryz.prog 45 #[.slice a n c, .slice a' m c'] w (Out w (Nat.gcd (val xs).toNat (val ys).toNat)) := by
  have HX := hide hx
  have HY := hide hy
  clear hx hy
  go_enter Tryz.func45, Tryz.ntmps45
  go_wp2
  go_loopw [0, 1] (fun av bv wr => ∃ (a1 a2 : Option Addr) (n1 n2 c1 c2 : Nat) (us vs : List Int), av = .slice a1 n1 c1 ∧ bv = .slice a2 n2 c2 ∧ n1 ≤ 900000 ∧ n2 ≤ 900000 ∧ Hid (Arg wr a1 n1 c1 us ∧ Arg wr a2 n2 c2 vs) ∧ Hid (okL us ∧ trim us = us ∧ okL vs ∧ trim vs = vs) ∧
      Hid (Nat.gcd (val us).toNat (val vs).toNat = Nat.gcd (val xs).toNat (val ys).toNat) ∧ Hid (Below w.heap.size w wr)) (fun _ bv wr => (val (rd wr bv)).toNat)
  case atStart => exact ⟨a, a', n, m, c, c', xs, ys, rfl, rfl, h1, h2, hide ⟨unhide HX, unhide HY⟩, hide ⟨ox, tx, oy, ty⟩, hide rfl, hide (Below.refl _ _)⟩
  case round =>
    obtain ⟨a1, a2, n1, n2, c1, c2, us, vs, rfl, rfl, hn1, hn2, HA, HO, HG, HB⟩ := hrel
    by_cases h0 : n2 = 0
    · subst h0
      have ev : vs = [] := List.length_eq_zero_iff.1 (unhide HA).2.len
      subst ev
      have hd : decide ((0 : Int) < 0) = false := by simp
      go_wp2_with fail
      refine (clone_any a1 n1 c1 us wr (unhide HA).1 (by omega)).mono ?_
      rintro e w2 ⟨a3, c3, rfl, hb2, ho2, ha2⟩
      have HF : Hid (Below w.heap.size w w2 ∧ Own w.heap.size w2 a3 us ∧ Arg w2 a3 n1 c3 us) := hide ⟨below_on (unhide HB) hb2, ho2.mono (unhide HB).size, ha2⟩
      clear hb2 ho2 ha2
      go_wp2
      go_ret
      refine ⟨a3, n1, c3, us, rfl, (unhide HF).1, (unhide HF).2.1, (unhide HF).2.2, (unhide HO).1, (unhide HO).2.1, ?_⟩
      rw [← unhide HG]
      simp only [val]
      have := val_nonneg (unhide HO).1
      rw [show (0 : Int).toNat = 0 from rfl, Nat.gcd_zero_right]
      omega
    · have hd : decide ((0 : Int) < (n2 : Int)) = true := by rw [decide_eq_true_eq]; omega
      go_wp2_with fail
      refine (divI_any a1 a2 n1 n2 c1 c2 us vs wr (unhide HA).1 (unhide HA).2 (unhide HO).1 (unhide HO).2.1 (unhide HO).2.2.1 (unhide HO).2.2.2 (by omega) hn1 hn2).mono ?_
      rintro e w2 ⟨a3, n3, c3, zs, a4, n4, c4, rs, rfl, hb2, _, _, _, ho4, ha4, hm4, _⟩
      have hvp : 0 < val vs := by
        have := val_nonneg (unhide HO).2.2.1
        rcases Int.lt_or_le 0 (val vs) with h | h
        · exact h
        · have e := (val_zero_iff (unhide HO).2.2.1 (unhide HO).2.2.2).1 (by omega)
          have := (unhide HA).2.len
          rw [e] at this; simp at this; omega
      have hr : val us % val vs < val vs := Int.emod_lt_of_pos _ hvp
      have hr0 : 0 ≤ val us % val vs := Int.emod_nonneg _ (by omega)
      have hl4 : n4 ≤ n2 := by
        rw [← ha4.len]
        exact hm4.le (unhide HO).2.2.1 (unhide HA).2.len (by omega)
      have H4 := hide (And.intro (And.intro ((unhide HA).2.later hb2) ha4) (And.intro hm4 (And.intro hvp (And.intro hr hr0))))
      have HB2 := hide (below_on (unhide HB) hb2)
      clear hb2 ho4 ha4 hm4 hvp hr hr0
      go_wp2
      go_roundw
      case rel =>
        refine ⟨a2, a4, n2, n4, c2, c4, vs, rs, rfl, rfl, hn2, by omega, hide (unhide H4).1, hide ⟨(unhide HO).2.2.1, (unhide HO).2.2.2, (unhide H4).2.1.ok, (unhide H4).2.1.tr⟩, hide ?_, HB2⟩
        have u0 := val_nonneg (unhide HO).1
        have v0 := (unhide H4).2.2.1
        have e := gcd_step (val us).toNat (val vs).toNat (by omega)
        rw [← unhide HG, e, (unhide H4).2.1.v, Int.toNat_emod (by omega) (by omega)]
      case measure =>
        rw [rd_arg (unhide H4).1.2, rd_arg (unhide HA).2, (unhide H4).2.1.v]
        have := (unhide H4).2.2
        omega
end Go.Proofs.YtdgonpbponnnaaaGreatDoor
