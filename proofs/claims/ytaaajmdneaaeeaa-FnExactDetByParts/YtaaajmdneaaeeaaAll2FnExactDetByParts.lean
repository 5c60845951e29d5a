/- The law FnExactDetByParts returns true for every argument and leaves it as it was: the given statement FnExactDetByPartsSaid. No condition. -/
import Derived.Test.YtaaajmdneaaeeaaPackD7
import Derived.Test.YtaaajmdneaaeeaaPackE7
import Derived.Test.YtaaajmdneaaeeaaLaw2
import Derived.Test.YtaaajmdneaaeeaaEq
import Derived.Test.YtaaajmdneaaeeaaMark
import Derived.Test.YtaaajmdneaaeeaaOpenQ
import Derived.Deep.Slices
import Derived.Test.YtaaajmdneaaeeaaIo
namespace Go.Proofs.Ytaaajmdneaaeeaa
open Go.RowKit
set_option linter.unusedVariables false
set_option maxRecDepth 100000
set_option linter.unusedSimpArgs false

set_option maxRecDepth 100000 in
set_option maxHeartbeats 16000000 in
theorem lawPart7_walk (a0 : Option Addr) (n0 c0 : Nat) (xs0 : List RB) (w : World) (h0 : MSl w a0 xs0) (hn0 : xs0.length = n0) (hm0 : n0 ≤ maxLen) (ml0 : MLn xs0) :
    Calls Try.prog 5 #[.slice a0 n0 c0] w fun e w' => e = .returned (.bool true) ∧ Below w.heap.size w w' := by
  obtain ⟨U, HU⟩ : ∃ U : BD → Bool → Prop, Hid (U = (fun d ok => Ans (gD (dM xs0)) (dP (mD (dM xs0)) n0) d.g d.xs ok)) := ⟨_, hide rfl⟩
  have US : Hid (∀ d ok d' ok', U d ok → U d' ok' → d = d' ∧ ok = ok') := hide (by rw [unhide HU]; exact fun d ok d' ok' h k => ans_bd h k)
  have UL : Hid (∀ d ok, U d ok → d.xs.length ≤ 40) := hide (by rw [unhide HU]; exact fun d ok h => ans_len h)
  have CS : Hid (∀ (a0 : Option Addr) (c0 : Nat) (ys0 : List RB) (w : World), MAr w a0 n0 c0 ys0 → dM ys0 = dM xs0 → Calls Try.prog 21 #[.slice a0 n0 c0] w (RetB w U)) := hide (by rw [unhide HU]; exact fun a0 c0 ys0 w h0 e0 => by rw [← e0]; exact partOfS_v a0 n0 c0 ys0 w h0)
  have CI : Hid (∀ (a0 : Option Addr) (c0 : Nat) (ys0 : List RB) (w : World), MAr w a0 n0 c0 ys0 → dM ys0 = dM xs0 → Calls Try.prog 20 #[.slice a0 n0 c0] w (RetB w U)) := hide (by rw [unhide HU]; exact fun a0 c0 ys0 w h0 e0 => by rw [← e0]; exact partOfI_v a0 n0 c0 ys0 w h0)
  clear HU
  have HS0 := hide h0
  have HN0 := hide hn0
  clear h0 hn0
  have ML0 := hide ml0
  clear ml0
  have HB := hide (Below.refl w.heap.size w)
  go_enter Try.func5, Try.ntmps5
  have SQ0 := hide (fun wx (k : MSl wx a0 xs0) => szM a0 n0 c0 xs0 1048576 wx k (unhide HN0) hm0 (unhide ML0) (by omega) (by omega))
  go_wp2_with fail
  refine (unhide SQ0 _ (unhide HS0)).mono ?_
  rintro e wsz ⟨r, rfl, hb, hr⟩
  replace HB := hide (below_on (unhide HB) hb)
  have HR := hide hr
  have s_wsz0 := hb.size
  clear hb hr SQ0
  by_cases hneg : r < 0
  · go_wp2
    go_ret
    exact ⟨rfl, unhide HB⟩
  have SZ0 : Hid (szM1 xs0 ≤ 1048576) := hide (by rcases unhide HR with e | ⟨e1, e2⟩; omega; omega)
  have hs0 : n0 ≤ 1048576 := by have h1 := unhide SZ0; have h2 := unhide HN0; have h3 := szM1_len xs0; omega
  clear HR
  go_wp2_with fail
  refine (toM_own a0 n0 c0 xs0 _ ((unhide HS0).later (unhide HB)) (unhide HN0) hs0 (unhide SZ0)).mono ?_
  rintro e ws0 ⟨gs0, yss0, rfl, hb, es0, os0⟩
  replace HB := hide (below_on (unhide HB) hb)
  have s_ws0 := hb.size
  have Es0 := hide es0
  have Os0 := hide os0
  clear es0 os0
  clear hb
  go_wp2_with fail
  refine (unhide CS _ _ _ _ (unhide Os0).arg (unhide Es0)).mono ?_
  rintro e wv ⟨vr, dr, okr, rfl, hb, hown, hu⟩
  clear Os0
  clear Es0
  have UR := hide hu
  have V0 := hide (VarB.start 27 hown)
  have s_wv := hb.size
  replace HB := hide ((below_on (unhide HB) hb).alloc (below_on (unhide HB) hb).size (.cells #[.bool vr.g, .slice vr.a vr.n vr.c] 27))
  clear hb hown hu
  have r0 : vr.n ≤ 40 := by rw [← ((unhide V0).own.own (vr, dr) (by simp)).len]; exact unhide UL _ _ (unhide UR)
  have rm : vr.n ≤ maxLen := by unfold maxLen; omega
  have zv : (wv.alloc (.cells #[.bool vr.g, .slice vr.a vr.n vr.c] 27)).heap.size = wv.heap.size + 1 := by simp
  go_wp2_with fail
  refine (toM_own a0 n0 c0 xs0 _ ((unhide HS0).later (unhide HB)) (unhide HN0) hs0 (unhide SZ0)).mono ?_
  rintro e wx0 ⟨gx0, ysx0, rfl, hb, ex0, ox0⟩
  replace V0 := hide ((unhide V0).later hb)
  replace HB := hide (below_on (unhide HB) hb)
  have s_wx0 := hb.size
  have Ex0 := hide ex0
  have Ox0 := hide ox0
  clear ex0 ox0
  clear hb
  rw [zv] at s_wx0
  go_wp2_with fail
  refine (unhide CI _ _ _ _ (unhide Ox0).arg (unhide Ex0)).mono ?_
  rintro e wg ⟨vg, dg, okg, rfl, hb, hown, hu⟩
  obtain ⟨e1, e2⟩ := unhide US _ _ _ _ (unhide UR) hu
  subst e1 e2
  replace V0 := hide (((unhide V0).later hb).later ((Below.refl _ _).alloc (Nat.le_refl _) (.cells #[.bool vg.g, .slice vg.a vg.n vg.c] 27)))
  replace Ox0 := hide (((unhide Ox0).later hb).later ((Below.refl _ _).alloc (Nat.le_refl _) (.cells #[.bool vg.g, .slice vg.a vg.n vg.c] 27)))
  have VG := hide (VarB.start 27 hown)
  have s_wg := hb.size
  replace HB := hide ((below_on (unhide HB) hb).alloc (below_on (unhide HB) hb).size (.cells #[.bool vg.g, .slice vg.a vg.n vg.c] 27))
  clear hb hown hu
  have en : vg.n = vr.n := by rw [← ((unhide VG).own.own (vg, dr) (by simp)).len, ← ((unhide V0).own.own (vr, dr) (by simp)).len]
  have q0 : vg.n ≤ 40 := by omega
  have qm : vg.n ≤ maxLen := by omega
  have ql : vg.n ≤ 1048576 := by omega
  have enh := hide en
  clear en
  have zg : (wg.alloc (.cells #[.bool vg.g, .slice vg.a vg.n vg.c] 27)).heap.size = wg.heap.size + 1 := by simp
  have p0 := (unhide VG).c0
  have p1 := (unhide VG).c1
  have p2 := (unhide V0).c0
  have p3 := (unhide V0).c1
  go_wp2_with fail
  refine (eqB_at vg vr dr _ (unhide VG).own.sl.head (unhide V0).own.sl.head qm).mono ?_
  rintro e wq1 ⟨rfl, hb⟩
  replace V0 := hide ((unhide V0).later hb)
  replace Ox0 := hide ((unhide Ox0).later hb)
  replace VG := hide ((unhide VG).later hb)
  replace HB := hide (below_on (unhide HB) hb)
  have s_wq1 := hb.size
  clear hb
  clear p0 p1 p2 p3
  rw [zg] at s_wq1
  go_wp2_with fail
  refine (toM_own a0 n0 c0 xs0 _ ((unhide HS0).later (unhide HB)) (unhide HN0) hs0 (unhide SZ0)).mono ?_
  rintro e wy0 ⟨gy0, ysy0, rfl, hb, ey0, oy0⟩
  replace V0 := hide ((unhide V0).later hb)
  replace Ox0 := hide ((unhide Ox0).later hb)
  replace VG := hide ((unhide VG).later hb)
  replace HB := hide (below_on (unhide HB) hb)
  have s_wy0 := hb.size
  have Ey0 := hide ey0
  have Oy0 := hide oy0
  clear ey0 oy0
  clear hb
  go_wp2_with fail
  refine (eqM _ _ n0 _ _ ysx0 ysy0 _ (unhide Ox0).arg.sl (unhide Oy0).arg.sl (by rw [unhide Ex0, unhide Ey0]) (unhide Ox0).arg.len hm0 (unhide Ox0).mln).mono ?_
  rintro e we0 ⟨rfl, hb⟩
  replace V0 := hide ((unhide V0).later hb)
  replace Ox0 := hide ((unhide Ox0).later hb)
  replace VG := hide ((unhide VG).later hb)
  replace Oy0 := hide ((unhide Oy0).later hb)
  replace HB := hide (below_on (unhide HB) hb)
  have s_we0 := hb.size
  clear hb
  clear Oy0
  clear Ey0
  go_wp2_with fail
  refine (markM_own _ n0 _ ysx0 _ _ _ _ (unhide Ox0) (by omega) (by have h1 := unhide SZ0; have h2 := szM1_same (unhide Ox0).arg.sl (unhide HS0) (unhide Ex0); omega)).mono ?_
  rintro e wm0 ⟨km0, rfl, km00, km10, hbt⟩
  clear Ox0
  replace V0 := hide ((unhide V0).but hbt (by omega) (by omega))
  replace VG := hide ((unhide VG).but hbt (by omega) (by omega))
  replace HB := hide (hbt.below (unhide HB) (by omega) (unhide HB).size)
  have s_wm0 := hbt.size
  clear hbt
  have hk0 : decide (km0 < 0) = false := decide_eq_false (by omega)
  have p0 := (unhide VG).c0
  have p1 := (unhide VG).c1
  have p2 := (unhide V0).c0
  have p3 := (unhide V0).c1
  go_wp2_with fail
  refine (eqB_at vg vr dr _ (unhide VG).own.sl.head (unhide V0).own.sl.head qm).mono ?_
  rintro e wq2 ⟨rfl, hb⟩
  replace V0 := hide ((unhide V0).later hb)
  replace VG := hide ((unhide VG).later hb)
  replace HB := hide (below_on (unhide HB) hb)
  have s_wq2 := hb.size
  clear hb
  clear p0 p1 p2 p3
  clear hk0
  have p0 := (unhide VG).c0
  have p1 := (unhide VG).c1
  go_wp2_with fail
  refine (markB_at vg dr [] [] 1 _ _ _ (unhide VG).own ql (by omega) (by omega)).mono ?_
  rintro e wn ⟨rfl, hbt, hmk⟩
  replace V0 := hide ((unhide V0).but hbt (by omega) (by omega))
  replace HB := hide (hbt.below (unhide HB) (by omega) (unhide HB).size)
  have s_wn := hbt.size
  replace VG := hide ((unhide VG).mark (d' := ⟨dr.g, marks 1 vg.n⟩) hbt (by omega) hmk)
  clear p0 p1 hbt hmk
  have p0 := (unhide VG).c0
  have p1 := (unhide VG).c1
  go_wp2_with fail
  refine (heldB_at vg 1 _ ((unhide VG).own.sl (vg, ⟨dr.g, marks 1 vg.n⟩) (by simp)).sl ql (by omega) (by omega)).mono ?_
  rintro e wh1 ⟨rfl, hb⟩
  replace V0 := hide ((unhide V0).later hb)
  replace VG := hide ((unhide VG).later hb)
  replace HB := hide (below_on (unhide HB) hb)
  have s_wh1 := hb.size
  clear hb
  clear p0 p1
  have hr0 : ¬ ((1 : Int) + (vg.n : Int) < 0) := by omega
  go_wp2_with fail
  refine (toM_own a0 n0 c0 xs0 _ ((unhide HS0).later (unhide HB)) (unhide HN0) hs0 (unhide SZ0)).mono ?_
  rintro e wz0 ⟨gz0, ysz0, rfl, hb, ez0, oz0⟩
  replace V0 := hide ((unhide V0).later hb)
  replace VG := hide ((unhide VG).later hb)
  replace HB := hide (below_on (unhide HB) hb)
  have s_wz0 := hb.size
  have Ez0 := hide ez0
  have Oz0 := hide oz0
  clear ez0 oz0
  clear hb
  go_wp2_with fail
  refine (unhide CI _ _ _ _ (unhide Oz0).arg (unhide Ez0)).mono ?_
  rintro e wk ⟨vh, dh, okh, rfl, hb, hown, hu⟩
  obtain ⟨e1, e2⟩ := unhide US _ _ _ _ (unhide UR) hu
  subst e1 e2
  clear Oz0
  clear Ez0
  replace V0 := hide (((unhide V0).later hb).later ((Below.refl _ _).alloc (Nat.le_refl _) (.cells #[.bool vh.g, .slice vh.a vh.n vh.c] 27)))
  replace VG := hide (((unhide VG).later hb).later ((Below.refl _ _).alloc (Nat.le_refl _) (.cells #[.bool vh.g, .slice vh.a vh.n vh.c] 27)))
  have VH := hide (VarB.start 27 hown)
  replace HB := hide ((below_on (unhide HB) hb).alloc (below_on (unhide HB) hb).size (.cells #[.bool vh.g, .slice vh.a vh.n vh.c] 27))
  clear hb hown hu
  have hmh : vh.n ≤ maxLen := by rw [← ((unhide VH).own.own (vh, dr) (by simp)).len, ((unhide V0).own.own (vr, dr) (by simp)).len]; exact rm
  have p0 := (unhide VH).c0
  have p1 := (unhide VH).c1
  have p2 := (unhide V0).c0
  have p3 := (unhide V0).c1
  go_wp2_with fail
  refine (eqB_at vh vr dr _ (unhide VH).own.sl.head (unhide V0).own.sl.head hmh).mono ?_
  rintro e wq3 ⟨rfl, hb⟩
  replace V0 := hide ((unhide V0).later hb)
  replace VG := hide ((unhide VG).later hb)
  replace VH := hide ((unhide VH).later hb)
  replace HB := hide (below_on (unhide HB) hb)
  have s_wq3 := hb.size
  clear hb
  clear p0 p1 p2 p3
  clear VH
  have p0 := (unhide VG).c0
  have p1 := (unhide VG).c1
  go_wp2_with fail
  refine (heldB_at vg 1 _ ((unhide VG).own.sl (vg, ⟨dr.g, marks 1 vg.n⟩) (by simp)).sl ql (by omega) (by omega)).mono ?_
  rintro e wh2 ⟨rfl, hb⟩
  replace V0 := hide ((unhide V0).later hb)
  replace VG := hide ((unhide VG).later hb)
  replace HB := hide (below_on (unhide HB) hb)
  have s_wh2 := hb.size
  clear hb
  clear p0 p1
  go_wp2
  go_ret
  exact ⟨rfl, unhide HB⟩
end Go.Proofs.Ytaaajmdneaaeeaa
namespace Go.Proofs.Ytaaajmdneaaeeaa
open Go.ChangeShapes Go.WideShapes Go.ChangeAt Go.RowKit Go.Joins
set_option linter.unusedVariables false
set_option maxRecDepth 100000
set_option linter.unusedSimpArgs false

theorem addr_add (b off k : Nat) : (⟨b, off, none⟩ : Addr).add k = ⟨b, off + k, none⟩ := by
  unfold Addr.add
  split
  · rename_i h; subst h; rfl
  · rfl
end Go.Proofs.Ytaaajmdneaaeeaa
namespace Go.Proofs.Ytaaajmdneaaeeaa
open Go.ChangeShapes Go.WideShapes Go.ChangeAt Go.RowKit Go.Joins
set_option linter.unusedVariables false
set_option maxRecDepth 100000
set_option linter.unusedSimpArgs false

theorem open_bigc {H : Type} {enc : TypeId × Value → H} {W : World} {m : Nat} {c0 c1 : Value} {x : DataW H × List MemPlace}
    (hf : DataW.trod enc Try.prog W 0 (fun _ => true) true m 88 [c0, c1] = some x) :
    ∃ p : BV × BD, (c0 = .bool p.1.g ∧ c1 = .slice p.1.a p.1.n p.1.c) ∧ AllSl W [(p.1, p.2)] ∧ p.1.n ≤ maxLen := by
  obtain ⟨z0, z1, n1, _, _, p0, p1⟩ := trod_struct2 Try.underlying88 hf
  have c_b : Try.prog.cellsOf 4 = 1 := by kernel_rfl
  have c_s : Try.prog.cellsOf 25 = 1 := by kernel_rfl
  obtain ⟨g, a, n', c, xs, rfl, rfl, s1, s2, s3, _⟩ := open_two (c0 := c0) (c1 := c1) (by simpa [c_b] using p0) (by simpa [c_s] using p1)
  exact ⟨(⟨g, a, n', c⟩, ⟨g, xs⟩), ⟨rfl, rfl⟩, AllSl.cons ⟨rfl, s1, s2⟩ (AllSl.nil _), s3⟩
end Go.Proofs.Ytaaajmdneaaeeaa
namespace Go.Proofs.Ytaaajmdneaaeeaa
open Go.ChangeShapes Go.WideShapes Go.ChangeAt Go.RowKit Go.Joins
set_option linter.unusedVariables false
set_option maxRecDepth 100000
set_option linter.unusedSimpArgs false

theorem open_PBc {H : Type} {enc : TypeId × Value → H} {W : World} {f0 : Nat} {v : Value} {x : DataW H × List MemPlace}
    (hf : DataW.trod enc Try.prog W 0 (fun _ => true) true f0 65 [v] = some x) :
    ∃ (a : Option Addr) (n c : Nat) (l : List (BV × BD)), v = .slice a n c ∧ PSlB W a l ∧ l.length = n ∧ n ≤ maxLen ∧ ∀ p ∈ l, p.1.n ≤ maxLen := by
  rcases Go.Deep.open_slice Try.underlying65 hf with ⟨hcs, _⟩ | ⟨a', len, cap, m, n', D, Pl, hcs, _, hl, hm, hmm, _, hx⟩
  · simp only [List.cons.injEq, and_true] at hcs
    obtain rfl := hcs
    exact ⟨none, 0, 0, [], rfl, ⟨.inl rfl, fun p hp => by cases hp⟩, rfl, Nat.zero_le _, fun p hp => by cases hp⟩
  · simp only [List.cons.injEq, and_true] at hcs
    obtain rfl := hcs
    obtain ⟨n, hnn⟩ : ∃ z, z = len := ⟨_, rfl⟩
    subst hnn
    simp only [if_true] at hmm
    subst hmm
    have each : ∀ i, i < n → ∃ p : BV × BD, (W.cell? ((a'.add (i * 2)).add 0) = some (.bool p.1.g) ∧ W.cell? ((a'.add (i * 2)).add 1) = some (.slice p.1.a p.1.n p.1.c)) ∧ AllSl W [(p.1, p.2)] ∧ p.1.n ≤ maxLen := by
      intro i hi
      obtain ⟨cs, h1, h2⟩ := hx i (by omega)
      rw [Try.cells88] at h1
      obtain ⟨_, h3, h4⟩ := World.cells?_some h1
      match cs, h3 with
      | [c0, c1], _ =>
        obtain ⟨p, ⟨rfl, rfl⟩, hp⟩ := open_bigc h2
        exact ⟨p, ⟨h4 0 (by omega), h4 1 (by omega)⟩, hp⟩
    have inh : Inhabited (BV × BD) := ⟨(⟨false, none, 0, 0⟩, ⟨false, []⟩)⟩
    obtain ⟨f, hf⟩ := Go.Deep.choose_lt each
    refine ⟨some a', n, m, (List.range n).map f, rfl, ⟨?_, ?_⟩, by simp, Nat.le_trans hl hm, ?_⟩
    · by_cases h0 : n = 0
      · subst h0; exact .inl rfl
      · obtain ⟨b, off, spot⟩ := a'
        have hc := (hf 0 (by omega)).1.1
        have hspot : spot = none := by simpa [Addr.add] using World.cell?_spot hc
        subst hspot
        refine .inr ⟨b, off, rfl, ?_, fun i hi => ?_⟩
        · have := World.block_lt_of_cell? _ _ hc
          rw [addr_add, addr_add] at this
          exact this
        · have hi' : i < n := by simpa using hi
          have h1 := (hf i hi').1
          rw [addr_add, addr_add, addr_add] at h1
          simpa using h1
    · intro p hp
      obtain ⟨i, hi, rfl⟩ := List.mem_map.1 hp
      exact (hf i (List.mem_range.1 hi)).2.1
    · intro p hp
      obtain ⟨i, hi, rfl⟩ := List.mem_map.1 hp
      exact (hf i (List.mem_range.1 hi)).2.2
theorem open_MM {H : Type} {enc : TypeId × Value → H} {W : World} {r : Reach} {b0 : Nat} {v : Value} {d : DataW H} {p : List MemPlace}
    (hv : Value.okWide Try.prog W r b0 38 v) (h : DataW.Trod enc Try.prog W 0 (fun _ => true) true 38 v d p) :
    ∃ (a : Option Addr) (n c : Nat) (rs : List RB), v = .slice a n c ∧ MSl W a rs ∧ rs.length = n ∧ n ≤ maxLen ∧ MLn rs := by
  obtain ⟨a, n, c, rfl⟩ := okWide_slice Try.underlying38 hv
  obtain ⟨fuel, hf⟩ := h
  rcases Go.Deep.open_slice Try.underlying38 hf with ⟨hcs, _⟩ | ⟨a', len, cap, m, n', D, Pl, hcs, _, hl, hm, hmm, _, hx⟩
  · simp only [Value.cells, List.cons.injEq, Value.slice.injEq, and_true] at hcs
    obtain ⟨rfl, rfl, rfl⟩ := hcs
    exact ⟨none, 0, 0, [], rfl, ⟨.inl rfl, fun p hp => by cases hp⟩, rfl, Nat.zero_le _, fun p hp => by cases hp⟩
  · simp only [Value.cells, List.cons.injEq, Value.slice.injEq, and_true] at hcs
    obtain ⟨rfl, rfl, rfl⟩ := hcs
    simp only [if_true] at hmm
    subst hmm
    have one : Try.prog.cellsOf 65 = 1 := by kernel_rfl
    have each : ∀ i, i < n → ∃ q : RB, W.cell? ((a'.add (i * 1)).add 0) = some (.slice q.a q.n q.c) ∧ PSlB W q.a q.l ∧ q.l.length = q.n ∧ q.n ≤ maxLen ∧ ∀ p ∈ q.l, p.1.n ≤ maxLen := by
      intro i hi
      obtain ⟨cs, h1, h2⟩ := hx i (by omega)
      rw [one] at h1
      obtain ⟨_, h3, h4⟩ := World.cells?_some h1
      match cs, h3 with
      | [c0], _ =>
        obtain ⟨a2, n2, c2, l2, rfl, g1, g2, g3, g4⟩ := open_PBc h2
        exact ⟨⟨a2, n2, c2, l2⟩, h4 0 (by omega), g1, g2, g3, g4⟩
    have inh : Inhabited RB := ⟨⟨none, 0, 0, []⟩⟩
    obtain ⟨f, hf⟩ := Go.Deep.choose_lt each
    refine ⟨some a', n, m, (List.range n).map f, rfl, ⟨?_, ?_⟩, by simp, Nat.le_trans hl hm, ?_⟩
    · by_cases h0 : n = 0
      · subst h0; exact .inl rfl
      · obtain ⟨b, off, spot⟩ := a'
        have hc := (hf 0 (by omega)).1
        have hspot : spot = none := by simpa [Addr.add] using World.cell?_spot hc
        subst hspot
        refine .inr ⟨b, off, rfl, ?_, fun i hi => ?_⟩
        · have := World.block_lt_of_cell? _ _ hc
          rw [addr_add, addr_add] at this
          exact this
        · have hi' : i < n := by simpa using hi
          have h1 := (hf i hi').1
          rw [addr_add, addr_add] at h1
          simpa using h1
    · intro q hq
      obtain ⟨i, hi, rfl⟩ := List.mem_map.1 hq
      exact ⟨(hf i (List.mem_range.1 hi)).2.1, (hf i (List.mem_range.1 hi)).2.2.1⟩
    · intro q hq
      obtain ⟨i, hi, rfl⟩ := List.mem_map.1 hq
      exact (hf i (List.mem_range.1 hi)).2.2.2
end Go.Proofs.Ytaaajmdneaaeeaa
namespace Go.Proofs.Ytaaajmdneaaeeaa
open Go.ChangeShapes Go.WideShapes Go.ChangeAt Go.RowKit Go.Joins
set_option linter.unusedVariables false
set_option maxRecDepth 100000
set_option linter.unusedSimpArgs false

set_option maxRecDepth 100000 in
theorem part7_holds_lifted (os : Os) (started : os.Started) (H : Type) (enc : TypeId × Value → H) :
    ReturnsInHanded {} Try.checked os 5 .any (Rows.fnExactDetByPartsSpec.pre6 enc Try.prog Try.f5 Rows.fnExactDetByPartsRow.domain false) (Rows.fnExactDetByPartsSpec.post enc Try.prog Try.f5 false true false false) := by
  refine returnsInHanded_of_change (C := Try.checked) own started (by kernel_rfl) Try.func5
    (ChangeSpec.witness6 (enc := enc) (C := Try.checked) false ⟨#[], #[.slice none 0 0], []⟩ 8 (by kernel_rfl) (by kernel_rfl) (by kernel_rfl) (by kernel_rfl)) ?_
  intro W base args ds gs before hval0 hW hcnd _
  have hval : ∀ (j : Nat) t v, Try.f5.params[j]? = some t → args[j]? = some v → Value.okWide Try.prog W .any base t v := hval0
  have hW' := hW
  obtain ⟨p, q, hA0, hV, rfl, hfz, hnd⟩ := hW
  have hA : DataW.TrodAll enc Try.prog W 0 (fun _ => true) true Try.f5.params.toList args.toList ds p := hA0
  rw [Try.params5] at hA hval
  obtain ⟨v0, vs0, d0, ds0, p0, q0, hargs, rfl, rfl, h0, r0⟩ := trodAll_cons hA
  obtain ⟨rfl, rfl, rfl⟩ := trodAll_nil r0
  obtain rfl : args = #[v0] := by cases args; simp_all
  obtain ⟨rfl, rfl⟩ := trodVars_none hV
  have lt0 : ∀ x ∈ p0, x.block < W.heap.size := by obtain ⟨m, hm⟩ := h0; exact DataW.trod_lt m _ _ _ hm
  obtain ⟨a0, n0, c0, xs0, rfl, sl0, hn0, hm0, ml0⟩ := open_MM (hval 0 38 v0 rfl rfl) h0
  clear hA0 hval0
  refine (lawPart7_walk a0 n0 c0 xs0 W sl0 hn0 hm0 ml0).mono fun e W' ⟨he, bel⟩ => ?_
  subst he
  exact ⟨_, rfl, _, _, _, [], _, [], hW', trodAll_mk1 (shut_bool Try.underlying4 _), (trodAll_cons_mk (Below.trod laidOut (by kernel_rfl) (of_decide_eq_true (by kernel_rfl)) h0 bel lt0) trodAll_mk0), rfl, bel.frame _, fun h => by cases h⟩

theorem part7_holds_c0 : (Rows.fnExactDetByPartsRow.wf (OpenSpec.ofChange Rows.fnExactDetByPartsSpec)) = true := by kernel_rfl
theorem part7_holds_c1 : (laidOutB Try.pinned.checked.prog) = true := by kernel_rfl
theorem part7_holds_c2 : (mapsRowed Try.pinned.checked.prog) = true := by kernel_rfl
theorem part7_holds_c3 : (Try.f5.params.all (Try.pinned.checked.prog.readableRec ·)) = true := by kernel_rfl
theorem part7_holds_c4 : (namedTie Try.pinned.checked.prog Rows.fnExactDetByPartsRow.named Rows.fnExactDetByPartsSpec.vars) = true := by kernel_rfl
theorem part7_holds_c5 : (Rows.fnExactDetByPartsRow.stops == []) = true := by kernel_rfl
theorem part7_holds_c6 : (Try.pinned.checked.prog.stops == []) = true := by kernel_rfl
theorem part7_holds_c7 : (Rows.fnExactDetByPartsRow.knobs == []) = true := by kernel_rfl
theorem part7_holds_c8 : (Try.pinned.checked.prog.stopKnobs == []) = true := by kernel_rfl
theorem part7_holds_c9 : (Rows.fnExactDetByPartsRow.inPlace == Try.pinned.checked.prog.inPlace 5) = true := by kernel_rfl
theorem part7_holds_c10 : (Rows.fnExactDetByPartsRow.unfollowed == Try.pinned.checked.prog.unfollowed 5) = true := by kernel_rfl
theorem part7_holds_c11 : (Rows.fnExactDetByPartsRow.recurses == Try.pinned.checked.prog.recurses 5) = true := by kernel_rfl
theorem part7_holds_c12 : (Rows.fnExactDetByPartsRow.named == Try.pinned.checked.prog.varsNamed 5) = true := by kernel_rfl
theorem part7_holds_c13 : (Rows.fnExactDetByPartsRow.maps == (Try.f5.params.toList ++ Rows.fnExactDetByPartsSpec.plain.varTypes Try.pinned.checked.prog).any (Try.pinned.checked.prog.mapsRec ·)) = true := by kernel_rfl
theorem part7_holds_c14 : (Rows.fnExactDetByPartsRow.ifaces == (Try.f5.params.toList ++ Rows.fnExactDetByPartsSpec.plain.varTypes Try.pinned.checked.prog).any (Try.pinned.checked.prog.ifacesRec ·)) = true := by kernel_rfl
theorem part7_holds_c15 : (Rows.fnExactDetByPartsRow.mapsOut == Try.pinned.checked.prog.mapsAmong Try.f5.resultTypes.toList) = true := by kernel_rfl
theorem part7_holds_c16 : (Rows.fnExactDetByPartsRow.loops == (Try.f5.params.toList ++ Rows.fnExactDetByPartsSpec.plain.varTypes Try.pinned.checked.prog).any (Try.pinned.checked.prog.loopsFrom ·)) = true := by kernel_rfl
theorem part7_holds_c17 : (Rows.fnExactDetByPartsRow.wideKeys == (Try.f5.params.toList ++ Rows.fnExactDetByPartsSpec.plain.varTypes Try.pinned.checked.prog ++ Try.f5.resultTypes.toList).any (Try.pinned.checked.prog.wideKeysFrom ·)) = true := by kernel_rfl
theorem part7_holds_c18 : (Rows.fnExactDetByPartsSpec.vars.all (Try.pinned.checked.prog.varReadable ·)) = true := by kernel_rfl
theorem part7_holds_c19 : (Try.f5.resultTypes.all (fun t => Try.pinned.checked.prog.readableRec t && decide (t < Try.pinned.checked.prog.types.size))) = true := by kernel_rfl
theorem part7_holds_c20 : (Rows.fnExactDetByPartsRow.ifacesOut == Try.f5.resultTypes.toList.any (Try.pinned.checked.prog.ifacesRec ·)) = true := by kernel_rfl
theorem part7_holds_c21 : (Rows.fnExactDetByPartsRow.loopsOut == Try.f5.resultTypes.toList.any (Try.pinned.checked.prog.loopsFrom ·)) = true := by kernel_rfl
theorem part7_holds_c22 : (Rows.fnExactDetByPartsRow.plainKeys == Try.pinned.checked.prog.plainKeys) = true := by kernel_rfl
theorem part7_holds_c23 : (Rows.fnExactDetByPartsRow.shortTexts.isNone) = true := by kernel_rfl
theorem part7_holds_c24 : (Try.pinned.checked.prog.stopsHeard) = true := by kernel_rfl
theorem part7_holds_c25 : (Try.pinned.checked.prog.mayEnter) = true := io_enter
theorem part7_holds_c26 : (Rows.fnExactDetByPartsRow.lifted == Try.pinned.checked.prog.liftsFinal) = true := by rw [io_lifts]; kernel_rfl
theorem part7_holds_c27 : (Try.pinned.checked.prog.make == some Rows.fnExactDetByPartsRow.make) = true := by rw [io_make]; kernel_rfl
theorem part7_holds_c28 : (Rows.fnExactDetByPartsRow.kinds == (if Rows.fnExactDetByPartsRow.domain.isEmpty then [] else Try.f5.params.toList.map fun t => match Try.pinned.checked.prog.underlying t with | some (.int k) => some k | _ => none)) = true := by kernel_rfl
theorem part7_holds_c29 : (Rows.fnExactDetByPartsRow.pinned == Rows.fnExactDetByPartsRow.pinnedBy) = true := by kernel_rfl
theorem part7_holds_c30 : (Rows.fnExactDetByPartsRow.veiled == (Try.f5.params.toList ++ Rows.fnExactDetByPartsSpec.plain.varTypes Try.pinned.checked.prog ++ Try.f5.resultTypes.toList).any (Try.pinned.checked.prog.veiledRec ·)) = true := by kernel_rfl
theorem part7_holds_c31 : (Rows.fnExactDetByPartsRow.veiledFits Try.pinned.checked.prog Try.f5.params.toList (Try.f5.params.toList ++ Rows.fnExactDetByPartsSpec.plain.varTypes Try.pinned.checked.prog ++ Try.f5.resultTypes.toList)) = true := by kernel_rfl
theorem part7_holds_and {a b : Bool} (h : a = true) (k : b = true) : (a && b) = true := by rw [h, k]; rfl
theorem part7_holds_closed : joinedFacts Try.pinned.checked.prog 5 Try.f5 Rows.fnExactDetByPartsSpec Rows.fnExactDetByPartsRow = true := (part7_holds_and (part7_holds_and (part7_holds_and (part7_holds_and (part7_holds_and (part7_holds_and (part7_holds_and (part7_holds_and (part7_holds_and (part7_holds_and (part7_holds_and (part7_holds_and (part7_holds_and (part7_holds_and (part7_holds_and (part7_holds_and (part7_holds_and (part7_holds_and (part7_holds_and (part7_holds_and (part7_holds_and (part7_holds_and (part7_holds_and (part7_holds_and (part7_holds_and (part7_holds_and (part7_holds_and (part7_holds_and (part7_holds_and (part7_holds_and (part7_holds_and part7_holds_c0 part7_holds_c1) part7_holds_c2) part7_holds_c3) part7_holds_c4) part7_holds_c5) part7_holds_c6) part7_holds_c7) part7_holds_c8) part7_holds_c9) part7_holds_c10) part7_holds_c11) part7_holds_c12) part7_holds_c13) part7_holds_c14) part7_holds_c15) part7_holds_c16) part7_holds_c17) part7_holds_c18) part7_holds_c19) part7_holds_c20) part7_holds_c21) part7_holds_c22) part7_holds_c23) part7_holds_c24) part7_holds_c25) part7_holds_c26) part7_holds_c27) part7_holds_c28) part7_holds_c29) part7_holds_c30) part7_holds_c31)
theorem part7_holds_named : Try.pinned.checked.prog.funcNamed Rows.fnExactDetByPartsRow.func = some 5 := by kernel_rfl
theorem part7_holds_inst : Try.f5.isInstance Try.pinned.checked.prog Rows.fnExactDetByPartsRow.origin Rows.fnExactDetByPartsRow.targs := of_decide_eq_true (by kernel_rfl)
theorem part7_holds_wrap : Try.f5.isWrapper Try.pinned.checked.prog Rows.fnExactDetByPartsRow.wrapper Rows.fnExactDetByPartsRow.mainSum := by unfold Func.isWrapper; first | (rw [if_pos (by decide +kernel)]; kernel_rfl) | (rw [if_neg (by decide +kernel)]; exact ⟨rfl, rfl⟩)
theorem part7_holds : Rows.FnExactDetByPartsSaid :=
  OpenClaim.holds_of_wide 5 Try.f5 rfl rfl rfl rfl rfl rfl rfl ⟨rfl, rfl, rfl, rfl, rfl⟩ rfl rfl rfl rfl rfl part7_holds_named Try.func5 part7_holds_closed part7_holds_inst part7_holds_wrap
    (fun os started H enc _ => part7_holds_lifted os started H enc)
#print axioms part7_holds
end Go.Proofs.Ytaaajmdneaaeeaa
