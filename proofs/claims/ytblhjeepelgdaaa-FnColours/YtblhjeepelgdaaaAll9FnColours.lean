/- The law FnColours returns true for every argument and leaves it as it was: the given statement FnColoursSaid. No condition. -/
import Derived.Test.YtblhjeepelgdaaaPkG12
import Derived.Test.YtblhjeepelgdaaaPkH12
import Derived.Test.YtblhjeepelgdaaaOpen
import Derived.Test.YtblhjeepelgdaaaCurY
import Derived.Test.YtblhjeepelgdaaaIo
namespace Go.Proofs.Ytblhjeepelgdaaa
open Go.RowKit
set_option linter.unusedVariables false
set_option maxRecDepth 100000
set_option linter.unusedSimpArgs false

theorem fc_one {l : List (Int × Int)} {n : Nat} (hn : l.length = n) (h : ipB l = true) : (coV l).length = n ∧ 3 * (guV l).length ≤ n := ⟨by rw [coV_gu h, guC_len, hn], by rw [← hn]; exact gua_third h⟩
theorem fc_two {l : List (Int × Int)} {n : Nat} (hn : l.length = n) (h : ipB l = true) : ∀ x ∈ trV l, ∃ i j k : Nat, x = ((i : Int), (j : Int), (k : Int)) ∧ (i < n ∧ j < n ∧ k < n) ∧ (coV l).getD i 0 ≠ (coV l).getD j 0 ∧ (coV l).getD j 0 ≠ (coV l).getD k 0 ∧ (coV l).getD i 0 ≠ (coV l).getD k 0 := by
  rw [← hn, coV_gu h]
  exact col_facts h
theorem fc_three {l : List (Int × Int)} (h : ipB l = true) : ∀ x ∈ trV l, ∃ g ∈ guV l, seV l g x = true ∧ seB l g x = true := by
  intro x hx
  obtain ⟨t, g, hg, hs⟩ := gua_sees h x hx
  have b : seB l g x = true := by unfold seB; rw [(ip_parts h).1, gua_range g hg, t]; rfl
  exact ⟨g, hg, by unfold seV; rw [b, hs]; rfl, b⟩
theorem sl_at {w : World} {a : Option Addr} {L : List Int} (h : Sl w a L) (h0 : 0 < L.length) : ∃ b off, a = some ⟨b, off, none⟩ ∧ b < w.heap.size ∧ ∀ i, i < L.length → w.cell? ⟨b, off + i, none⟩ = some (.int .i64 (L.getD i 0)) := by
  rcases h with e | k
  · rw [e] at h0; simp at h0
  · exact k
set_option maxHeartbeats 16000000 in
theorem lawColours_walk (a : Option Addr) (n c : Nat) (b : Option Addr) (m d : Nat) (w : World) (h : ArY w a n) (h' : ArY w b m) :
    Calls Try.prog 3 #[.slice a n c, .slice b m d] w fun e w' => e = .returned (.bool true) ∧ Below w.heap.size w w' := by
  by_cases big : 1048576 < wrap64 ((n : Int) + (m : Int))
  · have d1 : decide (1048576 < wrap64 ((n : Int) + (m : Int))) = true := decide_eq_true big
    go_enter Try.func3, Try.ntmps3
    go_wp2_with fail
    go_ret
    exact ⟨rfl, Below.refl _ _⟩
  have d1 : decide (1048576 < wrap64 ((n : Int) + (m : Int))) = false := decide_eq_false big
  have Y1 := hide h
  have Y2 := hide h'
  have BW : Hid (Below w.heap.size w w) := hide (Below.refl _ _)
  clear h h'
  go_enter Try.func3, Try.ntmps3
  go_wp2_with fail
  refine (drawCo a n c _ (unhide Y1)).mono ?_
  rintro e w1 ⟨a0, n0, c0, l, rfl, ar, hn, hb⟩
  replace Y2 := hide ((unhide Y2).later hb)
  replace BW := hide (below_on (unhide BW) hb)
  clear hb Y1 d1 big
  have AR := hide ar
  have LN := hide ar.len
  have F1 := hide (fun h => fc_one (l := l) ar.len h)
  have F2 := hide (fun h => fc_two (l := l) ar.len h)
  have F3 := hide (fun h => fc_three (l := l) h)
  have C1 := hide (fun w (k : ArP w a0 n0 c0 l) => ColourThreeI a0 n0 c0 l w k (by omega))
  have C2 := hide (fun w (k : ArP w a0 n0 c0 l) => ColourThreeS a0 n0 c0 l w k (by omega))
  have C3 := hide (fun w (k : ArP w a0 n0 c0 l) => GuardsOfI a0 n0 c0 l w k (by omega))
  have C4 := hide (fun w (k : ArP w a0 n0 c0 l) => GuardsOfS a0 n0 c0 l w k (by omega))
  have C5 := hide (fun w (k : ArP w a0 n0 c0 l) => TriangulateI a0 n0 c0 l w k (by omega))
  have C6 := hide (fun g x w (k : ArP w a0 n0 c0 l) => SeesI a0 n0 c0 l g x w k (by omega))
  clear ar
  generalize coV l = CV at *
  generalize guV l = GV at *
  generalize trV l = TV at *
  generalize ipB l = q at *
  have x0 : (q != q) = false := by simp
  go_wp2_with fail
  refine (unhide C1 _ (unhide AR)).mono ?_
  rintro e w2 ⟨a1, n1, c1, rfl, hb, rt, le1⟩
  replace Y2 := hide ((unhide Y2).later hb)
  replace AR := hide ((unhide AR).later hb)
  replace BW := hide (below_on (unhide BW) hb)
  have R1 := hide rt
  have E1 := hide rt.len
  clear hb rt C1
  go_wp2_with fail
  refine (unhide C2 _ (unhide AR)).mono ?_
  rintro e w3 ⟨a2, n2, c2, rfl, hb, rt, le2⟩
  replace Y2 := hide ((unhide Y2).later hb)
  replace AR := hide ((unhide AR).later hb)
  replace R1 := hide ((unhide R1).later hb)
  replace BW := hide (below_on (unhide BW) hb)
  obtain rfl : n1 = n2 := by rw [← rt.len]; exact (unhide E1).symm
  have R2 := hide rt
  clear hb rt C2
  go_wp2_with fail
  refine (unhide C3 _ (unhide AR)).mono ?_
  rintro e w4 ⟨a3, n3, c3, rfl, hb, rt, le3⟩
  replace Y2 := hide ((unhide Y2).later hb)
  replace AR := hide ((unhide AR).later hb)
  replace R1 := hide ((unhide R1).later hb)
  replace R2 := hide ((unhide R2).later hb)
  replace BW := hide (below_on (unhide BW) hb)
  have R3 := hide rt
  have E3 := hide rt.len
  clear hb rt C3
  go_wp2_with fail
  refine (unhide C4 _ (unhide AR)).mono ?_
  rintro e w5 ⟨a4, n4, c4, rfl, hb, rt, le4⟩
  replace Y2 := hide ((unhide Y2).later hb)
  replace AR := hide ((unhide AR).later hb)
  replace R1 := hide ((unhide R1).later hb)
  replace R2 := hide ((unhide R2).later hb)
  replace R3 := hide ((unhide R3).later hb)
  replace BW := hide (below_on (unhide BW) hb)
  obtain rfl : n3 = n4 := by rw [← rt.len]; exact (unhide E3).symm
  have R4 := hide rt
  clear hb rt C4
  go_wp2_with fail
  refine (sameI11 _ _ n1 c1 c2 CV _ (unhide R1).sl (unhide R2).sl (unhide E1) le1).mono ?_
  rintro e w6 ⟨rfl, hb⟩
  replace Y2 := hide ((unhide Y2).later hb)
  replace AR := hide ((unhide AR).later hb)
  replace R1 := hide ((unhide R1).later hb)
  replace R2 := hide ((unhide R2).later hb)
  replace R3 := hide ((unhide R3).later hb)
  replace R4 := hide ((unhide R4).later hb)
  replace BW := hide (below_on (unhide BW) hb)
  clear hb
  go_wp2_with fail
  refine (sameI11 _ _ n3 c3 c4 GV _ (unhide R3).sl (unhide R4).sl (unhide E3) le3).mono ?_
  rintro e w7 ⟨rfl, hb⟩
  replace Y2 := hide ((unhide Y2).later hb)
  replace AR := hide ((unhide AR).later hb)
  replace R1 := hide ((unhide R1).later hb)
  replace R2 := hide ((unhide R2).later hb)
  replace R3 := hide ((unhide R3).later hb)
  replace R4 := hide ((unhide R4).later hb)
  replace BW := hide (below_on (unhide BW) hb)
  clear hb
  clear R2 R4
  cases q
  · clear F1 F2 F3 C5 C6 R1 R3 E1 E3
    go_wp2_with fail
    refine (drawSe b m d _ (unhide Y2)).mono ?_
    rintro e wy ⟨a5, n5, c5, l5, g5, t5, rfl, ar, hn5, hb⟩
    replace BW := hide (below_on (unhide BW) hb)
    have AR5 := hide ar
    clear hb ar
    have bx := (Below.refl wy.heap.size wy).alloc (Nat.le_refl _) (.cells #[.int .i64 t5.1, .int .i64 t5.2.1, .int .i64 t5.2.2] 33)
    have X0 : (wy.alloc (.cells #[.int .i64 t5.1, .int .i64 t5.2.1, .int .i64 t5.2.2] 33)).cell? ⟨wy.heap.size, 0, none⟩ = some (.int .i64 t5.1) := by simp [go_sem]
    have X1 : (wy.alloc (.cells #[.int .i64 t5.1, .int .i64 t5.2.1, .int .i64 t5.2.2] 33)).cell? ⟨wy.heap.size, 1, none⟩ = some (.int .i64 t5.2.1) := by simp [go_sem]
    have X2 : (wy.alloc (.cells #[.int .i64 t5.1, .int .i64 t5.2.1, .int .i64 t5.2.2] 33)).cell? ⟨wy.heap.size, 2, none⟩ = some (.int .i64 t5.2.2) := by simp [go_sem]
    replace BW := hide (below_on (unhide BW) bx)
    replace AR5 := hide ((unhide AR5).later bx)
    have K1 := hide (fun w (k : ArP w a5 n5 c5 l5) => SeesI a5 n5 c5 l5 g5 t5 w k (by omega))
    have K2 := hide (fun w (k : ArP w a5 n5 c5 l5) => SeesS a5 n5 c5 l5 g5 t5 w k (by omega))
    generalize seV l5 g5 t5 = v5 at *
    generalize seB l5 g5 t5 = b5 at *
    have x1 : (b5 == b5) = true := by simp
    have x2 : (v5 == v5) = true := by simp
    go_upto_region 30 with fail
    generalize wy.alloc (.cells #[.int .i64 t5.1, .int .i64 t5.2.1, .int .i64 t5.2.2] 33) = wz at *
    clear bx
    generalize wy.heap.size = PX at *
    go_wp2_with fail
    refine (unhide K1 _ (unhide AR5)).mono ?_
    rintro e wq ⟨rfl, hb⟩
    replace X0 := cell_later hb X0
    replace X1 := cell_later hb X1
    replace X2 := cell_later hb X2
    replace AR5 := hide ((unhide AR5).later hb)
    replace BW := hide (below_on (unhide BW) hb)
    clear hb
    go_wp2_with fail
    refine (unhide K2 _ (unhide AR5)).mono ?_
    rintro e wq2 ⟨rfl, hb⟩
    replace BW := hide (below_on (unhide BW) hb)
    clear hb
    cases b5
    · go_wp2_with fail
      go_ret
      exact ⟨by simp, unhide BW⟩
    · go_wp2_with fail
      go_ret
      exact ⟨by simp, unhide BW⟩
  · have f1 := unhide F1 rfl
    have LC := hide f1.1
    have e13 : Hid (GV.length = n3) := E3
    have g3 : 3 * n3 ≤ n0 := by have := unhide E3; have := f1.2; omega
    obtain rfl : n0 = n1 := by have := unhide E1; have := f1.1; omega
    replace F2 := hide (unhide F2 rfl)
    replace F3 := hide (unhide F3 rfl)
    clear f1 F1
    go_wp2_with fail
    refine (unhide C5 _ (unhide AR)).mono ?_
    rintro e w8 ⟨a7, n7, c7, rfl, hb, rt, le7⟩
    replace Y2 := hide ((unhide Y2).later hb)
    replace AR := hide ((unhide AR).later hb)
    replace R1 := hide ((unhide R1).later hb)
    replace R3 := hide ((unhide R3).later hb)
    replace BW := hide (below_on (unhide BW) hb)
    have RT := hide rt
    have E7 := hide rt.len
    clear hb rt C5
    have iw3 : IntKind.i64.wrap (3 * (n3 : Int)) = 3 * (n3 : Int) := by rw [IntKind.wrap_i64]; omega
    have dg : decide ((n0 : Int) < 3 * (n3 : Int)) = false := decide_eq_false (by omega)
    have dg2 : decide (n0 < 3 * n3) = false := decide_eq_false (by omega)
    go_wp2_with fail
    go_loopw [100] (fun iv wr => ∃ i : Nat, i ≤ n7 ∧ iv = .int .i64 i ∧ Hid (Below w8.heap.size w8 wr)) (fun iv _ => n7 - (intOf iv).toNat)
    case atStart => exact ⟨0, Nat.zero_le _, rfl, hide (Below.refl _ _)⟩
    case round =>
      obtain ⟨i, hi, rfl, HB⟩ := hrel
      by_cases hlt : i < n7
      · have hlt' : (i : Int) < (n7 : Int) := by omega
        have iT : i < TV.length := by rw [unhide E7]; exact hlt
        have F3x := hide (unhide F3 _ (List.getElem_mem iT))
        have TR : ∃ b off, a7 = some ⟨b, off, none⟩ ∧ wr.cell? ⟨b, off + i * 3, none⟩ = some (.int .i64 TV[i].1) ∧ wr.cell? ⟨b, off + i * 3 + 1, none⟩ = some (.int .i64 TV[i].2.1) ∧ wr.cell? ⟨b, off + i * 3 + 2, none⟩ = some (.int .i64 TV[i].2.2) := by
          rcases ((unhide RT).later (unhide HB)).sl with e | ⟨b, off, e, hb, hc⟩
          · rw [e] at iT; simp at iT
          · exact ⟨b, off, e, hc i iT⟩
        obtain ⟨i0, j0, k0, ex, ⟨li, lj, lk⟩, ne1, ne2, ne3⟩ := unhide F2 _ (List.getElem_mem iT)
        have CR := sl_at ((unhide R1).later (unhide HB)).sl (by rw [unhide LC]; omega)
        rw [ex] at TR F3x
        obtain ⟨bt, ot, rfl, T0, T1, T2⟩ := TR
        obtain ⟨bc, oc, rfl, hbc, hcc⟩ := CR
        have I0 := hcc i0 (by rw [unhide LC]; exact li)
        have J0 := hcc j0 (by rw [unhide LC]; exact lj)
        have K0 := hcc k0 (by rw [unhide LC]; exact lk)
        generalize CV.getD i0 0 = ci at *
        generalize CV.getD j0 0 = cj at *
        generalize CV.getD k0 0 = ck at *
        have b1 : (ci == cj) = false := by simp [ne1]
        have b2 : (cj == ck) = false := by simp [ne2]
        have b3 : (ci == ck) = false := by simp [ne3]
        have li' : (i0 : Int) < (n0 : Int) := by omega
        have lj' : (j0 : Int) < (n0 : Int) := by omega
        have lk' : (k0 : Int) < (n0 : Int) := by omega
        have R3r := hide ((unhide R3).later (unhide HB))
        have ARr := hide ((unhide AR).later (unhide HB))
        clear hcc ne1 ne2 ne3 ex
        dsimp only at T0 T1 T2
        have bx := (Below.refl wr.heap.size wr).alloc (Nat.le_refl _) (.cells #[.int .i64 (i0 : Int), .int .i64 (j0 : Int), .int .i64 (k0 : Int)] 33)
        have X0 : (wr.alloc (.cells #[.int .i64 (i0 : Int), .int .i64 (j0 : Int), .int .i64 (k0 : Int)] 33)).cell? ⟨wr.heap.size, 0, none⟩ = some (.int .i64 (i0 : Int)) := by simp [go_sem]
        have X1 : (wr.alloc (.cells #[.int .i64 (i0 : Int), .int .i64 (j0 : Int), .int .i64 (k0 : Int)] 33)).cell? ⟨wr.heap.size, 1, none⟩ = some (.int .i64 (j0 : Int)) := by simp [go_sem]
        have X2 : (wr.alloc (.cells #[.int .i64 (i0 : Int), .int .i64 (j0 : Int), .int .i64 (k0 : Int)] 33)).cell? ⟨wr.heap.size, 2, none⟩ = some (.int .i64 (k0 : Int)) := by simp [go_sem]
        replace HB := hide (below_on (unhide HB) bx)
        replace R3r := hide ((unhide R3r).later bx)
        replace ARr := hide ((unhide ARr).later bx)
        replace I0 := cell_later bx I0
        replace J0 := cell_later bx J0
        replace K0 := cell_later bx K0
        go_upto_region 17 with fail
        generalize wr.alloc (.cells #[.int .i64 (i0 : Int), .int .i64 (j0 : Int), .int .i64 (k0 : Int)] 33) = wb at *
        clear bx T0 T1 T2
        generalize wr.heap.size = PX at *
        go_quiet (fail)
        replace HB := hide (below_drewN (unhide HB) nq)
        have dr := below_drewN (Below.refl wb.heap.size wb) nq
        replace R3r := hide ((unhide R3r).later dr)
        replace ARr := hide ((unhide ARr).later dr)
        replace X0 := cell_later dr X0
        replace X1 := cell_later dr X1
        replace X2 := cell_later dr X2
        clear dr I0 J0 K0 b1 b2 b3
        generalize wb.drewN nq = wd at *
        go_wp2_with fail
        go_loopw [18, 143] (fun sv jv wv => ∃ (j : Nat) (s : Bool), j ≤ n3 ∧ jv = .int .i64 j ∧ sv = .bool s ∧ Hid ((∃ g ∈ GV.take j, seV l g ((i0 : Int), (j0 : Int), (k0 : Int)) = true ∧ seB l g ((i0 : Int), (j0 : Int), (k0 : Int)) = true) → s = true) ∧ Hid (Below wd.heap.size wd wv)) (fun _ jv _ => n3 - (intOf jv).toNat)
        case atStart => exact ⟨0, false, Nat.zero_le _, rfl, rfl, hide (by rintro ⟨g, hg, _⟩; simp at hg), hide (Below.refl _ _)⟩
        case round =>
          obtain ⟨j, s, hj, rfl, rfl, HS, HV⟩ := hrel
          by_cases hlj : j < n3
          · have hlj' : (j : Int) < (n3 : Int) := by omega
            have jG : j < GV.length := by rw [unhide e13]; exact hlj
            obtain ⟨bg, og, eg, hbg, hcg⟩ := sl_at ((unhide R3r).later (unhide HV)).sl (by omega)
            subst eg
            have G0 := hcg j jG
            have HS2 : Hid (∀ s' : Bool, (s = true → s' = true) → (seV l (GV.getD j 0) ((i0 : Int), (j0 : Int), (k0 : Int)) = true → seB l (GV.getD j 0) ((i0 : Int), (j0 : Int), (k0 : Int)) = true → s' = true) → ((∃ g ∈ GV.take (j + 1), seV l g ((i0 : Int), (j0 : Int), (k0 : Int)) = true ∧ seB l g ((i0 : Int), (j0 : Int), (k0 : Int)) = true) → s' = true)) := hide (by
              rintro s' k1 k2 ⟨g, hg, h1, h2⟩
              rw [List.take_succ_eq_append_getElem jG, List.mem_append] at hg
              rcases hg with hg | hg
              · exact k1 (unhide HS ⟨g, hg, h1, h2⟩)
              · simp at hg
                have e : GV.getD j 0 = GV[j] := by rw [List.getD_eq_getElem?_getD, List.getElem?_eq_getElem jG]; rfl
                rw [← e] at hg
                subst hg
                exact k2 h1 h2)
            have ARv := hide ((unhide ARr).later (unhide HV))
            have X0v := cell_later (unhide HV) X0
            have X1v := cell_later (unhide HV) X1
            have X2v := cell_later (unhide HV) X2
            have C6x := hide (fun w (k : ArP w a0 n0 c0 l) => unhide C6 (GV.getD j 0) ((i0 : Int), (j0 : Int), (k0 : Int)) w k)
            dsimp only at C6x
            generalize seV l (GV.getD j 0) ((i0 : Int), (j0 : Int), (k0 : Int)) = v at *
            generalize seB l (GV.getD j 0) ((i0 : Int), (j0 : Int), (k0 : Int)) = bb at *
            generalize GV.getD j 0 = g at *
            clear hcg HS F3x
            go_wp2_with fail
            refine (unhide C6x _ (unhide ARv)).mono ?_
            rintro e wv2 ⟨rfl, hb⟩
            have HV2 := hide (below_on (unhide HV) hb)
            clear hb HV ARv C6x
            cases s
            · cases v
              · go_wp2_with fail
                go_roundw
                case rel => exact ⟨j + 1, false, by omega, by go_num, rfl, hide (unhide HS2 _ (fun h => h) (fun h => by cases h)), HV2⟩
                case measure => simp [intOf]; omega
              · cases bb
                · go_wp2_with fail
                  go_roundw
                  case rel => exact ⟨j + 1, false, by omega, by go_num, rfl, hide (unhide HS2 _ (fun h => h) (fun _ h => by cases h)), HV2⟩
                  case measure => simp [intOf]; omega
                · go_wp2_with fail
                  go_roundw
                  case rel => exact ⟨j + 1, true, by omega, by go_num, rfl, hide (fun _ => rfl), HV2⟩
                  case measure => simp [intOf]; omega
            · go_wp2_with fail
              go_roundw
              case rel => exact ⟨j + 1, true, by omega, by go_num, rfl, hide (fun _ => rfl), HV2⟩
              case measure => simp [intOf]; omega
          · obtain rfl : j = n3 := by omega
            have st : s = true := unhide HS (by
              obtain ⟨g, hg, h1, h2⟩ := unhide F3x
              exact ⟨g, by rw [List.take_of_length_le (by rw [unhide e13]; omega)]; exact hg, h1, h2⟩)
            subst st
            clear HS F3x
            go_wp2_with fail
            go_roundw
            case rel => exact ⟨i + 1, by omega, by go_num, hide (below_on (unhide HB) (unhide HV))⟩
            case measure => simp [intOf]; omega
      · obtain rfl : i = n7 := by omega
        replace Y2 := hide ((unhide Y2).later (unhide HB))
        replace BW := hide (below_on (unhide BW) (unhide HB))
        clear F2 F3 C6 R1 R3 RT HB AR
        go_wp2_with fail
        refine (drawSe b m d _ (unhide Y2)).mono ?_
        rintro e wy ⟨a5, n5, c5, l5, g5, t5, rfl, ar, hn5, hb⟩
        replace BW := hide (below_on (unhide BW) hb)
        have AR5 := hide ar
        clear hb ar
        have bx := (Below.refl wy.heap.size wy).alloc (Nat.le_refl _) (.cells #[.int .i64 t5.1, .int .i64 t5.2.1, .int .i64 t5.2.2] 33)
        have X0 : (wy.alloc (.cells #[.int .i64 t5.1, .int .i64 t5.2.1, .int .i64 t5.2.2] 33)).cell? ⟨wy.heap.size, 0, none⟩ = some (.int .i64 t5.1) := by simp [go_sem]
        have X1 : (wy.alloc (.cells #[.int .i64 t5.1, .int .i64 t5.2.1, .int .i64 t5.2.2] 33)).cell? ⟨wy.heap.size, 1, none⟩ = some (.int .i64 t5.2.1) := by simp [go_sem]
        have X2 : (wy.alloc (.cells #[.int .i64 t5.1, .int .i64 t5.2.1, .int .i64 t5.2.2] 33)).cell? ⟨wy.heap.size, 2, none⟩ = some (.int .i64 t5.2.2) := by simp [go_sem]
        replace BW := hide (below_on (unhide BW) bx)
        replace AR5 := hide ((unhide AR5).later bx)
        have K1 := hide (fun w (k : ArP w a5 n5 c5 l5) => SeesI a5 n5 c5 l5 g5 t5 w k (by omega))
        have K2 := hide (fun w (k : ArP w a5 n5 c5 l5) => SeesS a5 n5 c5 l5 g5 t5 w k (by omega))
        generalize seV l5 g5 t5 = v5 at *
        generalize seB l5 g5 t5 = b5 at *
        have x1 : (b5 == b5) = true := by simp
        have x2 : (v5 == v5) = true := by simp
        go_upto_region 30 with fail
        generalize wy.alloc (.cells #[.int .i64 t5.1, .int .i64 t5.2.1, .int .i64 t5.2.2] 33) = wz at *
        clear bx
        generalize wy.heap.size = PX at *
        go_wp2_with fail
        refine (unhide K1 _ (unhide AR5)).mono ?_
        rintro e wq ⟨rfl, hb⟩
        replace X0 := cell_later hb X0
        replace X1 := cell_later hb X1
        replace X2 := cell_later hb X2
        replace AR5 := hide ((unhide AR5).later hb)
        replace BW := hide (below_on (unhide BW) hb)
        clear hb
        go_wp2_with fail
        refine (unhide K2 _ (unhide AR5)).mono ?_
        rintro e wq2 ⟨rfl, hb⟩
        replace BW := hide (below_on (unhide BW) hb)
        clear hb
        cases b5
        · go_wp2_with fail
          go_ret
          exact ⟨by simp, unhide BW⟩
        · go_wp2_with fail
          go_ret
          exact ⟨by simp, unhide BW⟩
end Go.Proofs.Ytblhjeepelgdaaa
namespace Go.Proofs.Ytblhjeepelgdaaa
open Go.ChangeShapes Go.WideShapes Go.ChangeAt Go.RowKit Go.Joins
set_option linter.unusedVariables false
set_option maxRecDepth 100000
set_option linter.unusedSimpArgs false

theorem byte_wf {n : Int} (h : (Lit.int .u8 n).wf = true) : 0 ≤ n ∧ n ≤ 255 := by
  simp [Lit.wf, IntKind.min, IntKind.max, IntKind.signed, IntKind.bits] at h
  omega
theorem open_Y {H : Type} {enc : TypeId × Value → H} {W : World} {r : Reach} {b0 : Nat} {v : Value} {d : DataW H} {p : List MemPlace}
    (hv : Value.okWide Try.prog W r b0 22 v) (h : DataW.Trod enc Try.prog W 0 (fun _ => true) true 22 v d p) :
    ∃ (a : Option Addr) (n c : Nat), v = .slice a n c ∧ ArY W a n := by
  obtain ⟨a, n, c, rfl⟩ := okWide_slice Try.underlying22 hv
  obtain ⟨fuel, hf⟩ := h
  rcases open_ints Try.underlying22 Try.underlying5 (by kernel_rfl) hf with ⟨hcs, _⟩ | ⟨x, l, c', zs, hcs, _, hl, hm, hz, _, hcell, hwz⟩
  · simp only [Value.cells, List.cons.injEq, Value.slice.injEq, and_true] at hcs
    obtain ⟨rfl, rfl, rfl⟩ := hcs
    exact ⟨none, 0, 0, rfl, .inl rfl, Nat.zero_le _⟩
  · simp only [Value.cells, List.cons.injEq, Value.slice.injEq, and_true] at hcs
    obtain ⟨rfl, rfl, rfl⟩ := hcs
    simp only [if_true] at hz
    refine ⟨some x, n, c, rfl, ?_, ?_⟩
    · by_cases h0 : n = 0
      · exact .inl h0
      · obtain ⟨b, off, spot⟩ := x
        have hc := hcell 0 (by omega)
        have hspot : spot = none := by simpa [Addr.add] using World.cell?_spot hc
        subst hspot
        refine .inr ⟨b, off, rfl, ?_, fun i hi => ?_⟩
        · exact World.block_lt_of_cell? _ _ hc
        · have h1 := hcell i (by omega)
          have hi2 : i < zs.length := by omega
          have hw := byte_wf (hwz (zs.getD i 0) (by rw [List.getD_eq_getElem?_getD, List.getElem?_eq_getElem hi2]; exact List.getElem_mem _))
          refine ⟨zs.getD i 0, hw.1, hw.2, ?_⟩
          by_cases hi0 : i = 0
          · subst hi0; simpa [Addr.add] using h1
          · simpa [Addr.add, hi0] using h1
    · have := Nat.le_trans hl hm
      unfold maxLen at this
      omega
end Go.Proofs.Ytblhjeepelgdaaa
namespace Go.Proofs.Ytblhjeepelgdaaa
open Go.ChangeShapes Go.WideShapes Go.ChangeAt Go.RowKit Go.Joins
set_option linter.unusedVariables false
set_option maxRecDepth 100000
set_option linter.unusedSimpArgs false

set_option maxRecDepth 100000 in
theorem fcl_holds_lifted (os : Os) (started : os.Started) (H : Type) (enc : TypeId × Value → H) :
    ReturnsInHanded {} Try.checked os 3 .any (Rows.fnColoursSpec.pre6 enc Try.prog Try.f3 Rows.fnColoursRow.domain false) (Rows.fnColoursSpec.post enc Try.prog Try.f3 false true false false) := by
  refine returnsInHanded_of_change (C := Try.checked) own started (by kernel_rfl) Try.func3
    (ChangeSpec.witness6 (enc := enc) (C := Try.checked) false ⟨#[], #[.slice none 0 0, .slice none 0 0], []⟩ 8 (by kernel_rfl) (by kernel_rfl) (by kernel_rfl) (by kernel_rfl)) ?_
  intro W base args ds gs before hval0 hW hcnd _
  have hval : ∀ (j : Nat) t v, Try.f3.params[j]? = some t → args[j]? = some v → Value.okWide Try.prog W .any base t v := hval0
  have hW' := hW
  obtain ⟨p, q, hA0, hV, rfl, hfz, hnd⟩ := hW
  have hA : DataW.TrodAll enc Try.prog W 0 (fun _ => true) true Try.f3.params.toList args.toList ds p := hA0
  rw [Try.params3] at hA hval
  obtain ⟨v0, vs0, d0, ds0, p0, q0, hargs, rfl, rfl, h0, r0⟩ := trodAll_cons hA
  obtain ⟨v1, vs1, d1, ds1, p1, q1, rfl, rfl, rfl, h1, r1⟩ := trodAll_cons r0
  obtain ⟨rfl, rfl, rfl⟩ := trodAll_nil r1
  obtain rfl : args = #[v0, v1] := by cases args; simp_all
  obtain ⟨rfl, rfl⟩ := trodVars_none hV
  have lt0 : ∀ x ∈ p0, x.block < W.heap.size := by obtain ⟨m, hm⟩ := h0; exact DataW.trod_lt m _ _ _ hm
  obtain ⟨a0, n0, c0, rfl, y0⟩ := open_Y (hval 0 22 v0 rfl rfl) h0
  have lt1 : ∀ x ∈ p1, x.block < W.heap.size := by obtain ⟨m, hm⟩ := h1; exact DataW.trod_lt m _ _ _ hm
  obtain ⟨a1, n1, c1, rfl, y1⟩ := open_Y (hval 1 22 v1 rfl rfl) h1
  clear hA0 hval0
  refine (lawColours_walk a0 n0 c0 a1 n1 c1 W y0 y1).mono fun e W' ⟨he, bel⟩ => ?_
  subst he
  exact ⟨_, rfl, _, _, _, [], _, [], hW', trodAll_mk1 (shut_bool Try.underlying4 _), (trodAll_cons_mk (Below.trod laidOut (by kernel_rfl) (of_decide_eq_true (by kernel_rfl)) h0 bel lt0) (trodAll_cons_mk (Below.trod laidOut (by kernel_rfl) (of_decide_eq_true (by kernel_rfl)) h1 bel lt1) trodAll_mk0)), rfl, bel.frame _, fun h => by cases h⟩

theorem fcl_holds_c0 : (Rows.fnColoursRow.wf (OpenSpec.ofChange Rows.fnColoursSpec)) = true := by kernel_rfl
theorem fcl_holds_c1 : (laidOutB Try.pinned.checked.prog) = true := by kernel_rfl
theorem fcl_holds_c2 : (mapsRowed Try.pinned.checked.prog) = true := by kernel_rfl
theorem fcl_holds_c3 : (Try.f3.params.all (Try.pinned.checked.prog.readableRec ·)) = true := by kernel_rfl
theorem fcl_holds_c4 : (namedTie Try.pinned.checked.prog Rows.fnColoursRow.named Rows.fnColoursSpec.vars) = true := by kernel_rfl
theorem fcl_holds_c5 : (Rows.fnColoursRow.stops == []) = true := by kernel_rfl
theorem fcl_holds_c6 : (Try.pinned.checked.prog.stops == []) = true := by kernel_rfl
theorem fcl_holds_c7 : (Rows.fnColoursRow.knobs == []) = true := by kernel_rfl
theorem fcl_holds_c8 : (Try.pinned.checked.prog.stopKnobs == []) = true := by kernel_rfl
theorem fcl_holds_c9 : (Rows.fnColoursRow.inPlace == Try.pinned.checked.prog.inPlace 3) = true := by kernel_rfl
theorem fcl_holds_c10 : (Rows.fnColoursRow.unfollowed == Try.pinned.checked.prog.unfollowed 3) = true := by kernel_rfl
theorem fcl_holds_c11 : (Rows.fnColoursRow.recurses == Try.pinned.checked.prog.recurses 3) = true := by kernel_rfl
theorem fcl_holds_c12 : (Rows.fnColoursRow.named == Try.pinned.checked.prog.varsNamed 3) = true := by kernel_rfl
theorem fcl_holds_c13 : (Rows.fnColoursRow.maps == (Try.f3.params.toList ++ Rows.fnColoursSpec.plain.varTypes Try.pinned.checked.prog).any (Try.pinned.checked.prog.mapsRec ·)) = true := by kernel_rfl
theorem fcl_holds_c14 : (Rows.fnColoursRow.ifaces == (Try.f3.params.toList ++ Rows.fnColoursSpec.plain.varTypes Try.pinned.checked.prog).any (Try.pinned.checked.prog.ifacesRec ·)) = true := by kernel_rfl
theorem fcl_holds_c15 : (Rows.fnColoursRow.mapsOut == Try.pinned.checked.prog.mapsAmong Try.f3.resultTypes.toList) = true := by kernel_rfl
theorem fcl_holds_c16 : (Rows.fnColoursRow.loops == (Try.f3.params.toList ++ Rows.fnColoursSpec.plain.varTypes Try.pinned.checked.prog).any (Try.pinned.checked.prog.loopsFrom ·)) = true := by kernel_rfl
theorem fcl_holds_c17 : (Rows.fnColoursRow.wideKeys == (Try.f3.params.toList ++ Rows.fnColoursSpec.plain.varTypes Try.pinned.checked.prog ++ Try.f3.resultTypes.toList).any (Try.pinned.checked.prog.wideKeysFrom ·)) = true := by kernel_rfl
theorem fcl_holds_c18 : (Rows.fnColoursSpec.vars.all (Try.pinned.checked.prog.varReadable ·)) = true := by kernel_rfl
theorem fcl_holds_c19 : (Try.f3.resultTypes.all (fun t => Try.pinned.checked.prog.readableRec t && decide (t < Try.pinned.checked.prog.types.size))) = true := by kernel_rfl
theorem fcl_holds_c20 : (Rows.fnColoursRow.ifacesOut == Try.f3.resultTypes.toList.any (Try.pinned.checked.prog.ifacesRec ·)) = true := by kernel_rfl
theorem fcl_holds_c21 : (Rows.fnColoursRow.loopsOut == Try.f3.resultTypes.toList.any (Try.pinned.checked.prog.loopsFrom ·)) = true := by kernel_rfl
theorem fcl_holds_c22 : (Rows.fnColoursRow.plainKeys == Try.pinned.checked.prog.plainKeys) = true := by kernel_rfl
theorem fcl_holds_c23 : (Rows.fnColoursRow.shortTexts.isNone) = true := by kernel_rfl
theorem fcl_holds_c24 : (Try.pinned.checked.prog.stopsHeard) = true := by kernel_rfl
theorem fcl_holds_c25 : (Try.pinned.checked.prog.mayEnter) = true := io_enter
theorem fcl_holds_c26 : (Rows.fnColoursRow.lifted == Try.pinned.checked.prog.liftsFinal) = true := by rw [io_lifts]; kernel_rfl
theorem fcl_holds_c27 : (Try.pinned.checked.prog.make == some Rows.fnColoursRow.make) = true := by rw [io_make]; kernel_rfl
theorem fcl_holds_c28 : (Rows.fnColoursRow.kinds == (if Rows.fnColoursRow.domain.isEmpty then [] else Try.f3.params.toList.map fun t => match Try.pinned.checked.prog.underlying t with | some (.int k) => some k | _ => none)) = true := by kernel_rfl
theorem fcl_holds_c29 : (Rows.fnColoursRow.pinned == Rows.fnColoursRow.pinnedBy) = true := by kernel_rfl
theorem fcl_holds_c30 : (Rows.fnColoursRow.veiled == (Try.f3.params.toList ++ Rows.fnColoursSpec.plain.varTypes Try.pinned.checked.prog ++ Try.f3.resultTypes.toList).any (Try.pinned.checked.prog.veiledRec ·)) = true := by kernel_rfl
theorem fcl_holds_c31 : (Rows.fnColoursRow.veiledFits Try.pinned.checked.prog Try.f3.params.toList (Try.f3.params.toList ++ Rows.fnColoursSpec.plain.varTypes Try.pinned.checked.prog ++ Try.f3.resultTypes.toList)) = true := by kernel_rfl
theorem fcl_holds_and {a b : Bool} (h : a = true) (k : b = true) : (a && b) = true := by rw [h, k]; rfl
theorem fcl_holds_closed : joinedFacts Try.pinned.checked.prog 3 Try.f3 Rows.fnColoursSpec Rows.fnColoursRow = true := (fcl_holds_and (fcl_holds_and (fcl_holds_and (fcl_holds_and (fcl_holds_and (fcl_holds_and (fcl_holds_and (fcl_holds_and (fcl_holds_and (fcl_holds_and (fcl_holds_and (fcl_holds_and (fcl_holds_and (fcl_holds_and (fcl_holds_and (fcl_holds_and (fcl_holds_and (fcl_holds_and (fcl_holds_and (fcl_holds_and (fcl_holds_and (fcl_holds_and (fcl_holds_and (fcl_holds_and (fcl_holds_and (fcl_holds_and (fcl_holds_and (fcl_holds_and (fcl_holds_and (fcl_holds_and (fcl_holds_and fcl_holds_c0 fcl_holds_c1) fcl_holds_c2) fcl_holds_c3) fcl_holds_c4) fcl_holds_c5) fcl_holds_c6) fcl_holds_c7) fcl_holds_c8) fcl_holds_c9) fcl_holds_c10) fcl_holds_c11) fcl_holds_c12) fcl_holds_c13) fcl_holds_c14) fcl_holds_c15) fcl_holds_c16) fcl_holds_c17) fcl_holds_c18) fcl_holds_c19) fcl_holds_c20) fcl_holds_c21) fcl_holds_c22) fcl_holds_c23) fcl_holds_c24) fcl_holds_c25) fcl_holds_c26) fcl_holds_c27) fcl_holds_c28) fcl_holds_c29) fcl_holds_c30) fcl_holds_c31)
theorem fcl_holds_named : Try.pinned.checked.prog.funcNamed Rows.fnColoursRow.func = some 3 := by kernel_rfl
theorem fcl_holds_inst : Try.f3.isInstance Try.pinned.checked.prog Rows.fnColoursRow.origin Rows.fnColoursRow.targs := of_decide_eq_true (by kernel_rfl)
theorem fcl_holds_wrap : Try.f3.isWrapper Try.pinned.checked.prog Rows.fnColoursRow.wrapper Rows.fnColoursRow.mainSum := by unfold Func.isWrapper; first | (rw [if_pos (by decide +kernel)]; kernel_rfl) | (rw [if_neg (by decide +kernel)]; exact ⟨rfl, rfl⟩)
theorem fcl_holds : Rows.FnColoursSaid :=
  OpenClaim.holds_of_wide 3 Try.f3 rfl rfl rfl rfl rfl rfl rfl ⟨rfl, rfl, rfl, rfl, rfl⟩ rfl rfl rfl rfl rfl fcl_holds_named Try.func3 fcl_holds_closed fcl_holds_inst fcl_holds_wrap
    (fun os started H enc _ => fcl_holds_lifted os started H enc)
#print axioms fcl_holds
end Go.Proofs.Ytblhjeepelgdaaa
