/- Quotients of limbs by one number: the program's divByInt and the specification's l1Short. No condition beyond those typed. -/
import Derived.Test.YtdgonpbponnnaaaGreatDoorDivM
namespace Go.Proofs.YtdgonpbponnnaaaGreatDoor
open Go.RowKit
set_option linter.unusedVariables false
set_option maxRecDepth 100000
set_option linter.unusedSimpArgs false

/-- Two slices lie in two blocks, or one of them has nothing. -/
def Apart (a : Option Addr) (zs : List Int) (a' : Option Addr) (rs : List Int) : Prop := zs = [] ∨ rs = [] ∨ ∃ b o b' o', a = some ⟨b, o, none⟩ ∧ a' = some ⟨b', o', none⟩ ∧ b < b'
/-- A call answers limbs of Q and of R, each in memory of its own. -/
def Out2 (w : World) (Q R : Int) (e : Ending) (w' : World) : Prop :=
  ∃ a n c zs a' n' c' rs, e = .returned (.tuple #[.slice a n c, .slice a' n' c']) ∧ Below w.heap.size w w' ∧ Own w.heap.size w' a zs ∧ Arg w' a n c zs ∧ Nm zs Q ∧ Own w.heap.size w' a' rs ∧ Arg w' a' n' c' rs ∧ Nm rs R ∧ Apart a zs a' rs
theorem apart_of {base : Nat} {w w' : World} {a a' : Option Addr} {zs rs : List Int} (h : Own base w a zs) (k : Own w.heap.size w' a' rs) : Apart a zs a' rs := by
  rcases h with h | ⟨b, cur, rfl, h1, hg, hc⟩
  · exact .inl h
  · rcases k with k | ⟨b', cur', rfl, k1, kg, kc⟩
    · exact .inr (.inl k)
    · exact .inr (.inr ⟨b, 0, b', 0, rfl, rfl, by have := (Array.getElem?_eq_some_iff.1 hg).1; omega⟩)
theorem one_arg (w : World) (r : Int) : Arg (w.alloc (.cells #[.int .i64 r] 3)) (some ⟨w.heap.size, 0, none⟩) 1 1 [r] ∧ Own w.heap.size (w.alloc (.cells #[.int .i64 r] 3)) (some ⟨w.heap.size, 0, none⟩) [r] := by
  have ho : Own w.heap.size (w.alloc (.cells #[.int .i64 r] 3)) (some ⟨w.heap.size, 0, none⟩) [r] := by
    refine .inr ⟨w.heap.size, #[.int .i64 r], rfl, Nat.le_refl _, ?_, fun i hi => ?_⟩
    · show (w.heap.push _)[w.heap.size]? = _
      simp
    · have : i = 0 := by simp at hi; omega
      subst this; rfl
  exact ⟨⟨ho.sl, rfl, Nat.le_refl _, by unfold maxLen; omega, .inr ⟨_, _, rfl⟩⟩, ho⟩

set_option maxHeartbeats 4000000 in
theorem divInt_any (a : Option Addr) (n c : Nat) (xs : List Int) (by' : Int) (w : World) (hx : Arg w a n c xs) (ox : okL xs) (h1 : n ≤ 1048576) (hB : 0 < by') (hB1 : by' ≤ 1000000000) :
    Calls Tryz.prog 97 #[.slice a n c, .int .i64 by'] w fun e w' => ∃ a1 n1 c1 zs, e = .returned (.tuple #[.slice a1 n1 c1, .int .i64 (val xs % by')]) ∧ Below w.heap.size w w' ∧ Own w.heap.size w' a1 zs ∧ Arg w' a1 n1 c1 zs ∧ Nm zs (val xs / by') := by
  obtain ⟨i0, hi, hz0, hz1, hz2⟩ := info_parts Tryz.info3
  have HN := hide hx.len
  have HX := hide hx.sl
  clear hx
  go_enter Tryz.func97, Tryz.ntmps97
  go_wp2_with (at_make; refine wpList_make_full _ rfl _ _ 23 rfl w.heap.size 3 i0 (.int .i64 0) 1 Tryz.underlying23 hi hz0 hz1 .i64 .i64 _ _ n rfl rfl (by omega) (by omega) (by rw [hz2]; omega) (by unfold maxLen; omega) (Nat.le_refl _) ?_)
  intro w1 hown hgrow
  have HO0 : Hid (w1.ownsRow w.heap.size 3 1 (.slice (some ⟨w.heap.size, 0, none⟩) n n) n ((rowT n []).map (Value.int .i64))) := by
    rw [made_ints] at hown; exact hide (by unfold rowT; simpa using hown)
  have HB0 : Hid (Below w.heap.size w w1) := hide ((Below.refl _ _).grown hgrow (Nat.le_refl _) (fun k e => by cases e))
  clear hown hgrow
  go_wp2
  go_loopw [7, 8] (fun rv iv wr => ∃ (k : Nat) (r : Int) (zs : List Int), k ≤ n ∧ iv = .int .i64 ((k : Int) - 1) ∧ rv = .int .i64 r ∧ Hid (DivS zs xs k n r by') ∧
      Hid (wr.ownsRow w.heap.size 3 1 (.slice (some ⟨w.heap.size, 0, none⟩) n n) n ((rowT k zs).map (Value.int .i64))) ∧ Hid (Below w.heap.size w wr)) (fun _ iv _ => (intOf iv + 1).toNat)
  case atStart => exact ⟨n, 0, [], Nat.le_refl _, rfl, rfl, hide (DivS.start (unhide HN) hB), HO0, HB0⟩
  case round =>
    obtain ⟨k, r, zs, hk, hiv, rfl, HD, HO, HB⟩ := hrel
    cases k with
    | zero =>
      have e : (((0 : Nat) : Int) - 1) = -1 := by omega
      rw [e] at hiv
      subst hiv
      have hq := (unhide HD).done hB
      have hzl : zs.length = n := by have := (unhide HD).len; omega
      have ho := Own.of_owns (zs := zs) (by have := unhide HO; unfold rowT at this; simpa using this) hzl
      have harg0 : Arg wr (some ⟨w.heap.size, 0, none⟩) n n zs := ⟨ho.sl, hzl, Nat.le_refl _, by unfold maxLen; omega, .inr ⟨_, _, rfl⟩⟩
      have H0 := hide (And.intro ho harg0)
      have HQ := hide hq
      clear ho harg0 hq hzl e
      go_wp2_with fail
      refine (trim_any _ n n zs _ (unhide H0).2).mono ?_
      rintro e w2 ⟨a2, n2, c2, rfl, rfl, harg, hown⟩
      have HF : Hid (Own w.heap.size w2 a2 (trim zs) ∧ Arg w2 a2 n2 c2 (trim zs) ∧ Nm (trim zs) (val xs / by')) := by
        refine hide ⟨hown _ _ (unhide H0).1, harg _ (unhide H0).2, ?_⟩
        rw [← (unhide HQ).1]
        exact Nm.trimmed (unhide HD).ok
      clear harg hown
      go_wp2
      go_ret2
      exact ⟨a2, n2, c2, _, by rw [(unhide HQ).2]; rfl, unhide HB, (unhide HF).1, (unhide HF).2.1, (unhide HF).2.2⟩
    | succ j =>
      have e : (((j + 1 : Nat) : Int) - 1) = j := by omega
      rw [e] at hiv
      subst hiv
      obtain ⟨b, off, rfl, hcx⟩ := ((unhide HX).later (Nat.le_refl _) (unhide HB)).at (k := j) (by rw [unhide HN]; omega)
      have hxb := okL_get ox j
      have HD2 := hide ((unhide HD).step (unhide HN) ox hB)
      have hr0 := (unhide HD).r0
      have hr1 := (unhide HD).r1
      obtain ⟨⟨y, r1⟩, r2, r3⟩ := rowT_owns (unhide HO) (unhide HD).len ((r * 65536 + xs.getD j 0) / by')
      have R3 := hide r3
      clear r3 e
      generalize xs.getD j 0 = x at *
      obtain ⟨hx0, hx1⟩ := hxb
      have hor := or_hi r x hr0 (by omega) hx0 hx1
      have hk1 : (j : Int) < (n : Int) := by omega
      have hk0 : (0 : Int) ≤ (j : Int) := by omega
      have q0 : 0 ≤ (r * 65536 + x) / by' := Int.ediv_nonneg (by omega) (by omega)
      have q1 : (r * 65536 + x) / by' < 65536 := Int.ediv_lt_of_lt_mul hB (by omega)
      have m0 : 0 ≤ (r * 65536 + x) % by' := Int.emod_nonneg _ (by omega)
      have m1 : (r * 65536 + x) % by' < by' := Int.emod_lt_of_pos _ hB
      have hbz : (by' == 0) = false := by simp; omega
      have tq : (r * 65536 + x).tdiv by' = (r * 65536 + x) / by' := Int.tdiv_eq_ediv_of_nonneg (by omega)
      have tm : (r * 65536 + x).tmod by' = (r * 65536 + x) % by' := Int.tmod_eq_emod_of_nonneg (by omega)
      have HB2 := hide ((unhide HB).setCell (p := ⟨w.heap.size, j, none⟩) (Nat.le_refl _) (.int .i64 ((r * 65536 + x) / by')))
      clear HO
      go_wp2
      go_roundw
      case rel => exact ⟨j, _, _, by omega, rfl, rfl, HD2, R3, HB2⟩
      case measure => simp [intOf]
set_option maxHeartbeats 4000000 in
theorem shortS_any (a : Option Addr) (n c : Nat) (xs : List Int) (by' : Int) (w : World) (hx : Arg w a n c xs) (ox : okL xs) (h1 : n ≤ 1048576) (hB : 0 < by') (hB1 : by' ≤ 65535) :
    Calls Tryz.prog 100 #[.slice a n c, .int .i64 by'] w (Out2 w (val xs / by') (val xs % by')) := by
  obtain ⟨i0, hi, hz0, hz1, hz2⟩ := info_parts Tryz.info3
  have HN := hide hx.len
  have HX := hide hx.sl
  clear hx
  go_enter Tryz.func100, Tryz.ntmps100
  go_wp2_with (at_make; refine wpList_make_full _ rfl _ _ 23 rfl w.heap.size 3 i0 (.int .i64 0) 1 Tryz.underlying23 hi hz0 hz1 .i64 .i64 _ _ n rfl rfl (by omega) (by omega) (by rw [hz2]; omega) (by unfold maxLen; omega) (Nat.le_refl _) ?_)
  intro w1 hown hgrow
  have HO0 : Hid (w1.ownsRow w.heap.size 3 1 (.slice (some ⟨w.heap.size, 0, none⟩) n n) n ((rowT n []).map (Value.int .i64))) := by
    rw [made_ints] at hown; exact hide (by unfold rowT; simpa using hown)
  have HB0 : Hid (Below w.heap.size w w1) := hide ((Below.refl _ _).grown hgrow (Nat.le_refl _) (fun k e => by cases e))
  clear hown hgrow
  go_wp2
  go_loopw [7, 8] (fun rv iv wr => ∃ (k : Nat) (r : Int) (zs : List Int), k ≤ n ∧ iv = .int .i64 ((k : Int) - 1) ∧ rv = .int .i64 r ∧ Hid (DivS zs xs k n r by') ∧
      Hid (wr.ownsRow w.heap.size 3 1 (.slice (some ⟨w.heap.size, 0, none⟩) n n) n ((rowT k zs).map (Value.int .i64))) ∧ Hid (Below w.heap.size w wr)) (fun _ iv _ => (intOf iv + 1).toNat)
  case atStart => exact ⟨n, 0, [], Nat.le_refl _, rfl, rfl, hide (DivS.start (unhide HN) hB), HO0, HB0⟩
  case round =>
    obtain ⟨k, r, zs, hk, hiv, rfl, HD, HO, HB⟩ := hrel
    cases k with
    | zero =>
      have e : (((0 : Nat) : Int) - 1) = -1 := by omega
      rw [e] at hiv
      subst hiv
      have hq := (unhide HD).done hB
      have hzl : zs.length = n := by have := (unhide HD).len; omega
      have ho := Own.of_owns (zs := zs) (by have := unhide HO; unfold rowT at this; simpa using this) hzl
      have harg0 : Arg wr (some ⟨w.heap.size, 0, none⟩) n n zs := ⟨ho.sl, hzl, Nat.le_refl _, by unfold maxLen; omega, .inr ⟨_, _, rfl⟩⟩
      have H0 := hide (And.intro ho harg0)
      have HQ := hide hq
      clear ho harg0 hq hzl e
      go_wp2_with fail
      refine (cut_any _ n n zs _ (unhide H0).2 h1).mono ?_
      rintro e w2 ⟨a2, n2, c2, rfl, hb2, hown, harg⟩
      have HF : Hid (Below w.heap.size w w2 ∧ Own w.heap.size w2 a2 (trim zs) ∧ Arg w2 a2 n2 c2 (trim zs) ∧ Nm (trim zs) (val xs / by')) := by
        refine hide ⟨below_on (unhide HB) hb2, hown.mono (unhide HB).size, harg, ?_⟩
        rw [← (unhide HQ).1]
        exact Nm.trimmed (unhide HD).ok
      clear harg hown hb2
      go_wp2_with fail
      have hone := one_arg w2 r
      refine (cut_any _ 1 1 [r] _ hone.1 (by omega)).mono ?_
      rintro e w3 ⟨a3, n3, c3, rfl, hb3, hown, harg⟩
      have hw3 : Below w2.heap.size w2 w3 := ((Below.refl _ _).alloc (Nat.le_refl _) _).trans (hb3.mono (by simp))
      have HG : Hid (Below w.heap.size w w3 ∧ (Own w.heap.size w3 a2 (trim zs) ∧ Arg w3 a2 n2 c2 (trim zs)) ∧ (Own w2.heap.size w3 a3 (trim [r]) ∧ Arg w3 a3 n3 c3 (trim [r])) ∧ Nm (trim [r]) (val xs % by')) := by
        refine hide ⟨below_on (unhide HF).1 hw3, ⟨(unhide HF).2.1.later hw3, (unhide HF).2.2.1.later hw3⟩, ⟨hown.mono (by simp), harg⟩, ?_⟩
        have e : val [r] = r := by simp [val]
        rw [← (unhide HQ).2]
        have := Nm.trimmed (xs := [r]) (okL_one (unhide HD).r0 (by have := (unhide HD).r1; omega))
        rw [e] at this
        exact this
      have HS := hide (unhide HF).2.1
      clear harg hown hb3 hw3 hone
      go_wp2
      go_ret2
      exact ⟨a2, n2, c2, _, a3, n3, c3, _, rfl, (unhide HG).1, (unhide HG).2.1.1, (unhide HG).2.1.2, (unhide HF).2.2.2, (unhide HG).2.2.1.1.mono (unhide HF).1.size, (unhide HG).2.2.1.2, (unhide HG).2.2.2, apart_of (unhide HS) (unhide HG).2.2.1.1⟩
    | succ j =>
      have e : (((j + 1 : Nat) : Int) - 1) = j := by omega
      rw [e] at hiv
      subst hiv
      obtain ⟨b, off, rfl, hcx⟩ := ((unhide HX).later (Nat.le_refl _) (unhide HB)).at (k := j) (by rw [unhide HN]; omega)
      have hxb := okL_get ox j
      have HD2 := hide ((unhide HD).step (unhide HN) ox hB)
      have hr0 := (unhide HD).r0
      have hr1 := (unhide HD).r1
      obtain ⟨⟨y, r1⟩, r2, r3⟩ := rowT_owns (unhide HO) (unhide HD).len ((r * 65536 + xs.getD j 0) / by')
      have R3 := hide r3
      clear r3 e
      generalize xs.getD j 0 = x at *
      obtain ⟨hx0, hx1⟩ := hxb
      have hk1 : (j : Int) < (n : Int) := by omega
      have hk0 : (0 : Int) ≤ (j : Int) := by omega
      have q0 : 0 ≤ (r * 65536 + x) / by' := Int.ediv_nonneg (by omega) (by omega)
      have q1 : (r * 65536 + x) / by' < 65536 := Int.ediv_lt_of_lt_mul hB (by omega)
      have m0 : 0 ≤ (r * 65536 + x) % by' := Int.emod_nonneg _ (by omega)
      have m1 : (r * 65536 + x) % by' < by' := Int.emod_lt_of_pos _ hB
      have hbz : (by' == 0) = false := by simp; omega
      have tq : (r * 65536 + x).tdiv by' = (r * 65536 + x) / by' := Int.tdiv_eq_ediv_of_nonneg (by omega)
      have tm : (r * 65536 + x).tmod by' = (r * 65536 + x) % by' := Int.tmod_eq_emod_of_nonneg (by omega)
      have HB2 := hide ((unhide HB).setCell (p := ⟨w.heap.size, j, none⟩) (Nat.le_refl _) (.int .i64 ((r * 65536 + x) / by')))
      clear HO
      go_wp2
      go_roundw
      case rel => exact ⟨j, _, _, by omega, rfl, rfl, HD2, R3, HB2⟩
      case measure => simp [intOf]
end Go.Proofs.YtdgonpbponnnaaaGreatDoor
