/- The walk through the law FnHulls: it returns true. No condition beyond those typed. Written by mkhulls.py. -/
import Derived.Test.YtgoiodhofbkkdaaPkD11
import Derived.Deep.Cut
namespace Go.Proofs.Ytgoiodhofbkkdaa
open Go.RowKit
set_option linter.unusedVariables false
set_option maxRecDepth 100000
set_option linter.unusedSimpArgs false

set_option maxHeartbeats 16000000 in
theorem lawHulls_walk (a : Option Addr) (n c : Nat) (b : Option Addr) (m d : Nat) (w : World) (h : ArY w a n) (h' : ArY w b m) :
    Calls Try.prog 3 #[.slice a n c, .slice b m d] w fun e w' => e = .returned (.bool true) ∧ Below w.heap.size w w' := by
  by_cases big : 1048576 < wrap64 ((n : Int) + (m : Int))
  · have d1 : decide (1048576 < wrap64 ((n : Int) + (m : Int))) = true := decide_eq_true big
    go_enter Try.func3, Try.ntmps3
    go_wp2_with fail
    go_ret
    exact ⟨rfl, Below.refl _ _⟩
  have d1 : decide (1048576 < wrap64 ((n : Int) + (m : Int))) = false := decide_eq_false big
  have Y1 := hide h
  have Y2 := hide h'
  have BW : Hid (Below w.heap.size w w) := hide (Below.refl _ _)
  clear h h'
  go_enter Try.func3, Try.ntmps3
  go_wp2_with fail
  refine (drawHO a n c _ (unhide Y1)).mono ?_
  rintro e w1 ⟨a0, n0, c0, l, rfl, ar, nl, hn, hb⟩
  replace Y2 := hide ((unhide Y2).later hb)
  replace BW := hide (below_on (unhide BW) hb)
  clear hb
  clear Y1 d1 big nl
  have AR := hide ar
  have LN0 := hide ar.len
  clear ar
  have CHI := hide (fun w (k : ArP w a0 n0 c0 l) => HullOfI a0 n0 c0 l w k (by omega))
  have CHS := hide (fun w (k : ArP w a0 n0 c0 l) => HullOfS a0 n0 c0 l w k (by omega))
  have CSI := hide (fun w (k : ArP w a0 n0 c0 l) => SortPtsI a0 n0 c0 l w k (by omega))
  have CSS := hide (fun w (k : ArP w a0 n0 c0 l) => SortPtsS a0 n0 c0 l w k (by omega))
  have CWI := hide (fun w (k : ArP w a0 n0 c0 l) => WidestInI a0 n0 c0 l w k (by omega))
  have HF := hide (hull_facts l)
  have CIH := hide (fun (b : Option Addr) (m d : Nat) (r : List (Int × Int)) w (k : ArP w a0 n0 c0 l) (k' : ArP w b m d r) (h2 : m ≤ 1048576) => IsHullI a0 n0 c0 l b m d r w k k' (by omega) h2)
  generalize huV l = V at *
  generalize srV l = S at *
  generalize cloB l = ok at *
  generalize fitB l = sk at *
  have x1 : (ok != ok) = false := by simp
  have x2 : (sk != sk) = false := by simp
  go_wp2_with fail
  refine (unhide CHI _ (unhide AR)).mono ?_
  rintro e w2 ⟨a1, n1, c1, rfl, hb, rt1, m1⟩
  replace Y2 := hide ((unhide Y2).later hb)
  replace AR := hide ((unhide AR).later hb)
  replace BW := hide (below_on (unhide BW) hb)
  clear hb
  have R1 := hide (rt1)
  have LN1 := hide rt1.len
  clear rt1
  go_wp2_with fail
  refine (unhide CHS _ (unhide AR)).mono ?_
  rintro e w3 ⟨a2, n2, c2, rfl, hb, rt2, m2⟩
  replace Y2 := hide ((unhide Y2).later hb)
  replace AR := hide ((unhide AR).later hb)
  replace R1 := hide ((unhide R1).later hb)
  replace BW := hide (below_on (unhide BW) hb)
  clear hb
  have R2 := hide (rt2)
  obtain rfl : n2 = n1 := rt2.len.symm.trans (unhide LN1)
  clear rt2
  go_wp2_with fail
  refine (unhide CSI _ (unhide AR)).mono ?_
  rintro e w4 ⟨a3, n3, c3, rfl, hb, rt3, m3⟩
  replace Y2 := hide ((unhide Y2).later hb)
  replace AR := hide ((unhide AR).later hb)
  replace R1 := hide ((unhide R1).later hb)
  replace R2 := hide ((unhide R2).later hb)
  replace BW := hide (below_on (unhide BW) hb)
  clear hb
  have R3 := hide (rt3)
  have LN3 := hide rt3.len
  clear rt3
  go_wp2_with fail
  refine (unhide CSS _ (unhide AR)).mono ?_
  rintro e w5 ⟨a4, n4, c4, rfl, hb, rt4, m4⟩
  replace Y2 := hide ((unhide Y2).later hb)
  replace AR := hide ((unhide AR).later hb)
  replace R1 := hide ((unhide R1).later hb)
  replace R2 := hide ((unhide R2).later hb)
  replace R3 := hide ((unhide R3).later hb)
  replace BW := hide (below_on (unhide BW) hb)
  clear hb
  have R4 := hide (rt4)
  obtain rfl : n4 = n3 := rt4.len.symm.trans (unhide LN3)
  clear rt4 CHI CHS CSI CSS m3
  go_wp2_with fail
  refine (samePts_v a1 a2 n2 c1 c2 V _ (unhide R1).sl (unhide R2).sl (unhide LN1) (by omega)).mono ?_
  rintro e w6 ⟨rfl, hb⟩
  replace Y2 := hide ((unhide Y2).later hb)
  replace AR := hide ((unhide AR).later hb)
  replace R1 := hide ((unhide R1).later hb)
  replace R2 := hide ((unhide R2).later hb)
  replace R3 := hide ((unhide R3).later hb)
  replace R4 := hide ((unhide R4).later hb)
  replace BW := hide (below_on (unhide BW) hb)
  clear hb
  go_wp2_with fail
  refine (samePts_v a3 a4 n4 c3 c4 S _ (unhide R3).sl (unhide R4).sl (unhide LN3) (by omega)).mono ?_
  rintro e w7 ⟨rfl, hb⟩
  replace Y2 := hide ((unhide Y2).later hb)
  replace AR := hide ((unhide AR).later hb)
  replace R1 := hide ((unhide R1).later hb)
  replace R2 := hide ((unhide R2).later hb)
  replace R3 := hide ((unhide R3).later hb)
  replace R4 := hide ((unhide R4).later hb)
  replace BW := hide (below_on (unhide BW) hb)
  clear hb
  clear R2 R4
  go_upto_if 86 with fail
  have FB0 : Hid (Below w7.heap.size w7 w7) := hide (Below.refl _ _)
  go_cut [] (fun wx => Hid (Below w7.heap.size w7 wx))
  case first => as_aux_lemma =>
    cases ok
    · skip
      go_wp2_with fail
      go_meet
      exact FB0
    · skip
      obtain ⟨⟨v1, v2, v3⟩, cV, hV, ib, iv, ⟨f0, s1⟩, lf, wd⟩ := unhide HF rfl
      have LNP : Hid (1 ≤ l.length) := hide v3
      have ln1 := unhide LN1
      have ln3 := unhide LN3
      have ln0 := unhide LN0
      have p1 : 0 < n2 := by omega
      have p3 : 0 < n4 := by omega
      have CH2 := hide (fun w (k : ArP w a1 n2 c1 V) => HullOfI a1 n2 c1 V w k (by omega))
      rw [cV, hV] at CH2
      have CI := hide (fun w (k : ArP w a0 n0 c0 l) (k' : ArP w a1 n2 c1 V) => unhide CIH a1 n2 c1 V w k k' (by omega))
      rw [ib, iv] at CI
      have CW2 := hide (fun w (k : ArP w a1 n2 c1 V) => WidestInI a1 n2 c1 V w k (by omega))
      rw [cV, ← wd] at CW2
      generalize wdV l = wl at *
      have xw : (wl != wl) = false := by simp
      have LF := hide lf
      have F0 := hide f0
      clear cV hV ib iv f0 lf wd HF CIH
      go_wp2_with fail
      refine (unhide CH2 _ (rt_ar (unhide R1) p1)).mono ?_
      rintro e w8 ⟨a5, n5, c5, rfl, hb, rt5, m5⟩
      replace Y2 := hide ((unhide Y2).later hb)
      replace AR := hide ((unhide AR).later hb)
      replace R1 := hide ((unhide R1).later hb)
      replace R3 := hide ((unhide R3).later hb)
      replace BW := hide (below_on (unhide BW) hb)
      replace FB0 := hide (below_on (unhide FB0) hb)
      clear hb
      have R5 := hide (rt5)
      obtain rfl : n5 = n2 := rt5.len.symm.trans (unhide LN1)
      clear rt5 CH2
      go_wp2_with fail
      refine (unhide CI _ (unhide AR) (rt_ar (unhide R1) p1)).mono ?_
      rintro e w9 ⟨rfl, hb⟩
      replace Y2 := hide ((unhide Y2).later hb)
      replace AR := hide ((unhide AR).later hb)
      replace R1 := hide ((unhide R1).later hb)
      replace R3 := hide ((unhide R3).later hb)
      replace R5 := hide ((unhide R5).later hb)
      replace BW := hide (below_on (unhide BW) hb)
      replace FB0 := hide (below_on (unhide FB0) hb)
      clear hb
      clear CI
      obtain ⟨G1, e1, g1⟩ := rt_at (unhide R1) p1
      subst e1
      obtain ⟨G3, e3, g3⟩ := rt_at (unhide R3) p3
      subst e3
      have i0 := (unhide R1).cell (i := 0) p1
      have i1 : w9.cell? ⟨G1, 0, none⟩ = some (.int .i64 (V.getD 0 (0, 0)).1) := by simpa using i0.1
      have i2 : w9.cell? ⟨G1, 1, none⟩ = some (.int .i64 (V.getD 0 (0, 0)).2) := by simpa using i0.2
      have j0 := (unhide R3).cell (i := 0) p3
      have j1 : w9.cell? ⟨G3, 0, none⟩ = some (.int .i64 (S.getD 0 (0, 0)).1) := by simpa using j0.1
      have j2 : w9.cell? ⟨G3, 1, none⟩ = some (.int .i64 (S.getD 0 (0, 0)).2) := by simpa using j0.2
      rw [← unhide F0] at j1 j2
      generalize V.getD 0 (0, 0) = q at *
      have q1 : (q.1 == q.1) = true := by simp
      have q2 : (q.2 == q.2) = true := by simp
      have z5 : ((n5 : Int) == 0) = false := by simp; omega
      have l5 : (0 : Int) < (n5 : Int) := by omega
      have l4 : (0 : Int) < (n4 : Int) := by omega
      clear i0 j0 F0
      go_upto_region 13 with fail
      go_region_held3 (fun w' => w'.cell? ⟨G1, 0, none⟩ = some (.int .i64 q.1) ∧ w'.cell? ⟨G1, 1, none⟩ = some (.int .i64 q.2) ∧ w'.cell? ⟨G3, 0, none⟩ = some (.int .i64 q.1) ∧ w'.cell? ⟨G3, 1, none⟩ = some (.int .i64 q.2))
        (with_reducible (first | exact ⟨i1, i2, j1, j2⟩ | exact ⟨cdP i1, cdP i2, cdP j1, cdP j2⟩ | fail))
        (first
        | (go_at_call 17; refine (samePts_v a5 (some ⟨G1, 0, none⟩) n5 c5 c1 V _ ((unhide R5).sl.later (Below.refl _ _).drew) ((unhide R1).sl.later (Below.refl _ _).drew) (unhide LN1) (by omega)).mono ?_; rintro e w10 ⟨rfl, hb1⟩; have hbx := below_of_drew hb1; replace i1 := cell_later hbx i1; replace i2 := cell_later hbx i2; replace j1 := cell_later hbx j1; replace j2 := cell_later hbx j2; replace Y2 := hide ((unhide Y2).later hbx); replace AR := hide ((unhide AR).later hbx); replace R1 := hide ((unhide R1).later hbx); replace R3 := hide ((unhide R3).later hbx); replace R5 := hide ((unhide R5).later hbx); replace BW := hide (below_on (unhide BW) hbx); replace FB0 := hide (below_on (unhide FB0) hbx); clear hb1 hbx)
        | fail)
      clear i1 i2 j1 j2 q1 q2
      clear R5 R3
      have LU := hide (And.intro ln1 ln0)
      rcases (unhide AR).sl with e | ⟨bl, ol, el, hbl, hcl⟩
      · -- no point
        exact absurd e (by intro e; have := unhide LNP; rw [e] at this; simp at this)
      subst el
      have HCL := hide hcl
      have HR1 := hide (unhide R1)
      clear hcl
      go_wp2
      go_loopw [130] (fun iv wr => ∃ i : Nat, i ≤ n5 ∧ iv = .int .i64 i ∧ Hid (Below w10.heap.size w10 wr)) (fun iv _ => n5 - (intOf iv).toNat)
      case atStart => exact ⟨0, Nat.zero_le _, rfl, hide (Below.refl _ _)⟩
      case round =>
        obtain ⟨i, hi, rfl, HB⟩ := hrel
        by_cases hlt : i < n5
        · have hlt' : (i : Int) < (n5 : Int) := by omega
          obtain ⟨wo, hwo⟩ : ∃ x, x = wr := ⟨_, rfl⟩
          subst hwo
          go_wp2
          go_loopw [135] (fun jv wr => ∃ j : Nat, j ≤ n0 ∧ jv = .int .i64 j ∧ Hid (Below w10.heap.size w10 wr)) (fun jv _ => n0 - (intOf jv).toNat)
          case atStart => exact ⟨0, Nat.zero_le _, rfl, HB⟩
          case round =>
            clear HB
            obtain ⟨j, hj, rfl, HB⟩ := hrel
            by_cases hjl : j < n0
            · have hjl' : (j : Int) < (n0 : Int) := by omega
              have jl : j < l.length := by rw [(unhide LU).2]; exact hjl
              have x0 := unhide HCL j jl
              have mx : l[j] ∈ l := List.getElem_mem jl
              have OF := hide (unhide LF i (by rw [(unhide LU).1]; exact hlt) _ mx)
              generalize l[j] = p at *
              have E0 : wr.cell? ⟨bl, ol + j * 2, none⟩ = some (.int .i64 p.1) := ((unhide HB).cell (p := ⟨bl, ol + j * 2, none⟩) hbl).trans x0.1
              have E1 : wr.cell? ⟨bl, ol + j * 2 + 1, none⟩ = some (.int .i64 p.2) := ((unhide HB).cell (p := ⟨bl, ol + j * 2 + 1, none⟩) hbl).trans x0.2
              have r1 := ((unhide HR1).later (unhide HB)).cell hlt
              obtain ⟨i', hi'⟩ : ∃ i', i' = (i + 1) % n5 := ⟨_, rfl⟩
              have il : i' < n5 := by rw [hi']; exact Nat.mod_lt _ p1
              have r2 := ((unhide HR1).later (unhide HB)).cell il
              have im : ((i : Int) + 1).tmod (n5 : Int) = (i' : Int) := by rw [hi', ← Int.natCast_one, ← Int.natCast_add]; rfl
              have im2 : ((i : Int) + 1) % (n5 : Int) = (i' : Int) := by rw [hi', ← Int.natCast_one, ← Int.natCast_add]; rfl
              have nx : nxt V i = V.getD i' (0, 0) := by unfold nxt; rw [(unhide LU).1, hi']
              rw [nx] at OF
              have CO := hide (fun w => OrientI (V.getD i (0, 0)) (V.getD i' (0, 0)) p w)
              obtain ⟨og, o1, o2⟩ := unhide OF
              rw [og] at CO
              generalize orV (V.getD i (0, 0)) (V.getD i' (0, 0)) p = ov at *
              generalize V.getD i (0, 0) = u at *
              generalize V.getD i' (0, 0) = v at *
              clear OF og nx hi' x0 mx jl
              rw [(unhide LU).1] at o1 o2
              have al : Below wr.heap.size wr (wr.alloc (.cells #[.int .i64 p.1, .int .i64 p.2] 31)) := (Below.refl _ _).alloc (Nat.le_refl _) _
              have HB2 := hide (below_on (unhide HB) al)
              have c0 := cell_later al r1.1
              have c1' := cell_later al r1.2
              have c2' := cell_later al r2.1
              have c3' := cell_later al r2.2
              have k0 : (wr.alloc (.cells #[.int .i64 p.1, .int .i64 p.2] 31)).cell? ⟨wr.heap.size, 0, none⟩ = some (.int .i64 p.1) := by simp [go_sem]
              have k1 : (wr.alloc (.cells #[.int .i64 p.1, .int .i64 p.2] 31)).cell? ⟨wr.heap.size, 1, none⟩ = some (.int .i64 p.2) := by simp [go_sem]
              have wi : IntKind.i64.wrap ((i : Int) + 1) = (i : Int) + 1 := by rw [IntKind.wrap_i64]; omega
              have il' : (i' : Int) < (n5 : Int) := by omega
              have nz2 : (n5 : Int) ≠ 0 := by omega
              have nz3 : ¬ (n5 = 0) := by omega
              have nz4 : ¬ ((n5 : Int) = -1) := by omega
              have wi' : IntKind.i64.wrap (i' : Int) = (i' : Int) := by rw [IntKind.wrap_i64]; omega
              have i0' : (0 : Int) ≤ (i' : Int) := by omega
              clear r1 r2 al HB
              go_upto_region 21 with fail
              clear E0 E1
              generalize wr.alloc (.cells #[.int .i64 p.1, .int .i64 p.2] 31) = w30 at *
              go_region_held3 (fun w' => w'.cell? ⟨G1, i * 2, none⟩ = some (.int .i64 u.1) ∧ w'.cell? ⟨G1, i * 2 + 1, none⟩ = some (.int .i64 u.2) ∧ w'.cell? ⟨G1, i' * 2, none⟩ = some (.int .i64 v.1) ∧ w'.cell? ⟨G1, i' * 2 + 1, none⟩ = some (.int .i64 v.2) ∧ w'.cell? ⟨wr.heap.size, 0, none⟩ = some (.int .i64 p.1) ∧ w'.cell? ⟨wr.heap.size, 1, none⟩ = some (.int .i64 p.2))
                (with_reducible (first | exact ⟨c0, c1', c2', c3', k0, k1⟩ | exact ⟨cdP c0, cdP c1', cdP c2', cdP c3', cdP k0, cdP k1⟩ | fail))
                (first
                | (go_at_call 19; refine (unhide CO _).mono ?_; rintro e w31 ⟨rfl, hb1⟩; have hbx := below_of_drew hb1; replace c0 := cell_later hbx c0; replace c1' := cell_later hbx c1'; replace c2' := cell_later hbx c2'; replace c3' := cell_later hbx c3'; replace k0 := cell_later hbx k0; replace k1 := cell_later hbx k1; replace HB2 := hide (below_on (unhide HB2) hbx); clear hb1 hbx)
                | fail)
              clear c0 c1' c2' c3' k0 k1 im im2 wi CO
              by_cases h2 : 2 < n5
              · have h2' : (2 : Int) < (n5 : Int) := by omega
                have h3 : ((n5 : Int) == 2) = false := by simp; omega
                have on : ¬ ov < 0 := by have := o1 h2; omega
                clear o1 o2
                go_wp2
                go_roundw
                case rel => exact ⟨j + 1, by omega, by go_num, HB2⟩
                case measure => simp [intOf]; omega
              · have h2' : ¬ (2 : Int) < (n5 : Int) := by omega
                by_cases he : n5 = 2
                · have h3 : ((n5 : Int) == 2) = true := by simp; omega
                  have on : (ov != 0) = false := by simp [o2 he]
                  clear o1 o2 he h2
                  go_wp2
                  go_roundw
                  case rel => exact ⟨j + 1, by omega, by go_num, HB2⟩
                  case measure => simp [intOf]; omega
                · have h3 : ((n5 : Int) == 2) = false := by simp; omega
                  clear o1 o2 he h2
                  go_wp2
                  go_roundw
                  case rel => exact ⟨j + 1, by omega, by go_num, HB2⟩
                  case measure => simp [intOf]; omega
            · obtain rfl : j = n0 := by omega
              go_wp2
              go_roundw
              case rel => exact ⟨i + 1, by omega, by go_num, HB⟩
              case measure => simp [intOf]; omega
        · obtain rfl : i = n5 := by omega
          obtain ⟨w40, hw40⟩ : ∃ x, x = wr := ⟨_, rfl⟩
          subst hw40
          have hb := unhide HB
          clear HB LF
          replace Y2 := hide ((unhide Y2).later hb)
          replace AR := hide ((unhide AR).later hb)
          replace R1 := hide ((unhide R1).later hb)
          replace BW := hide (below_on (unhide BW) hb)
          replace FB0 := hide (below_on (unhide FB0) hb)
          clear hb
          go_wp2_with fail
          refine (unhide CWI _ (unhide AR)).mono ?_
          rintro e w11 ⟨rfl, hb⟩
          replace Y2 := hide ((unhide Y2).later hb)
          replace AR := hide ((unhide AR).later hb)
          replace R1 := hide ((unhide R1).later hb)
          replace BW := hide (below_on (unhide BW) hb)
          replace FB0 := hide (below_on (unhide FB0) hb)
          clear hb
          go_wp2_with fail
          refine (unhide CW2 _ (rt_ar (unhide R1) p1)).mono ?_
          rintro e w12 ⟨rfl, hb⟩
          replace Y2 := hide ((unhide Y2).later hb)
          replace AR := hide ((unhide AR).later hb)
          replace R1 := hide ((unhide R1).later hb)
          replace BW := hide (below_on (unhide BW) hb)
          replace FB0 := hide (below_on (unhide FB0) hb)
          clear hb
          go_wp2_with fail
          go_meet
          exact FB0
  case rest => as_aux_lemma =>
    obtain hcut := hcut
    obtain ⟨w13, hwc⟩ : ∃ x, x = wc := ⟨_, rfl⟩
    subst hwc
    have hb := unhide hcut
    clear hcut FB0
    replace Y2 := hide ((unhide Y2).later hb)
    replace AR := hide ((unhide AR).later hb)
    replace R1 := hide ((unhide R1).later hb)
    replace R3 := hide ((unhide R3).later hb)
    replace BW := hide (below_on (unhide BW) hb)
    clear hb
    clear AR R1 R3
    clear HF x1 x2 LN0 LN1 LN3 hn m1 m2 m4 CWI CIH
    go_wp2_with fail
    refine (drawIH b m d _ (unhide Y2)).mono ?_
    rintro e w14 ⟨a6, n6, c6, l6, b6, m6, d6, r6, rfl, ar6, br6, h6, k6, hb⟩
    replace Y2 := hide ((unhide Y2).later hb)
    replace BW := hide (below_on (unhide BW) hb)
    clear hb
    have AR := hide (ar6)
    have BR := hide (br6)
    clear ar6 br6
    have C1 := hide (fun w (k : ArP w a6 n6 c6 l6) (k' : ArP w b6 m6 d6 r6) => IsHullI a6 n6 c6 l6 b6 m6 d6 r6 w k k' (by omega) (by omega))
    have C2 := hide (fun w (k : ArP w a6 n6 c6 l6) (k' : ArP w b6 m6 d6 r6) => IsHullS a6 n6 c6 l6 b6 m6 d6 r6 w k k' (by omega) (by omega))
    generalize ihV l6 r6 = iv at *
    generalize ihB l6 r6 = ib at *
    have q1 : (iv == iv) = true := by simp
    have q2 : (ib == ib) = true := by simp
    go_wp2_with fail
    refine (unhide C1 _ (unhide AR) (unhide BR)).mono ?_
    rintro e w15 ⟨rfl, hb⟩
    replace Y2 := hide ((unhide Y2).later hb)
    replace AR := hide ((unhide AR).later hb)
    replace BR := hide ((unhide BR).later hb)
    replace BW := hide (below_on (unhide BW) hb)
    clear hb
    go_wp2_with fail
    refine (unhide C2 _ (unhide AR) (unhide BR)).mono ?_
    rintro e w16 ⟨rfl, hb⟩
    replace Y2 := hide ((unhide Y2).later hb)
    replace AR := hide ((unhide AR).later hb)
    replace BR := hide ((unhide BR).later hb)
    replace BW := hide (below_on (unhide BW) hb)
    clear hb
    clear AR BR
    clear C1 C2 h6 k6
    go_wp2_with fail
    refine (drawWI b m d _ (unhide Y2)).mono ?_
    rintro e w17 ⟨a7, n7, c7, l7, rfl, ar7, nl7, h7, hb⟩
    replace Y2 := hide ((unhide Y2).later hb)
    replace BW := hide (below_on (unhide BW) hb)
    clear hb
    clear Y2
    have AR := hide (ar7)
    clear ar7 nl7
    have C1 := hide (fun w (k : ArP w a7 n7 c7 l7) => WidestInI a7 n7 c7 l7 w k (by omega))
    have C2 := hide (fun w (k : ArP w a7 n7 c7 l7) => WidestInS a7 n7 c7 l7 w k (by omega))
    generalize wdV l7 = wv at *
    generalize cloB l7 = wb at *
    have q3 : (wv == wv) = true := by simp
    have q4 : (wb == wb) = true := by simp
    go_wp2_with fail
    refine (unhide C1 _ (unhide AR)).mono ?_
    rintro e w18 ⟨rfl, hb⟩
    replace AR := hide ((unhide AR).later hb)
    replace BW := hide (below_on (unhide BW) hb)
    clear hb
    go_wp2_with fail
    refine (unhide C2 _ (unhide AR)).mono ?_
    rintro e w19 ⟨rfl, hb⟩
    replace AR := hide ((unhide AR).later hb)
    replace BW := hide (below_on (unhide BW) hb)
    clear hb
    go_wp2_with fail
    go_ret
    exact ⟨rfl, unhide BW⟩
end Go.Proofs.Ytgoiodhofbkkdaa
