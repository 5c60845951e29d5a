/- The law FnTriangles returns true for every argument and leaves it as it was: the given statement FnTrianglesSaid. No condition. -/
import Derived.Test.YtomekmhonfofkaaGreatPkT142
import Derived.Test.YtomekmhonfofkaaGreatPkT141
import Derived.Test.YtomekmhonfofkaaGreatPkT140
import Derived.Deep.Cut
namespace Go.Proofs.YtomekmhonfofkaaGreat
open Go.RowKit
set_option linter.unusedVariables false
set_option maxRecDepth 100000
set_option linter.unusedSimpArgs false

theorem sp_at {w : World} {a : Option Addr} {l : List (Int × Int)} (h : SlP w a l) (h0 : 0 < l.length) : ∃ b off, a = some ⟨b, off, none⟩ ∧ b < w.heap.size ∧ ∀ i, i < l.length → w.cell? ⟨b, off + i * 2, none⟩ = some (.int .i64 (l.getD i (0, 0)).1) ∧ w.cell? ⟨b, off + i * 2 + 1, none⟩ = some (.int .i64 (l.getD i (0, 0)).2) := by
  rcases h with e | ⟨b, off, e, hb, hc⟩
  · rw [e] at h0; simp at h0
  · refine ⟨b, off, e, hb, fun i hi => ?_⟩
    have g : l.getD i (0, 0) = l[i] := by rw [List.getD_eq_getElem?_getD, List.getElem?_eq_getElem hi]; rfl
    rw [g]
    exact hc i hi
theorem pAt_nat (l : List (Int × Int)) (i : Nat) : pAt l (i : Int) = l.getD i (0, 0) := by unfold pAt; rw [Int.toNat_natCast]
set_option maxHeartbeats 16000000 in
theorem lawTriangles_walk (a : Option Addr) (n c : Nat) (b : Option Addr) (m d : Nat) (w : World) (h : ArY w a n) (h' : ArY w b m) :
    Calls Tryz.prog 3 #[.slice a n c, .slice b m d] w fun e w' => e = .returned (.bool true) ∧ Below w.heap.size w w' := by
  by_cases big : 1048576 < wrap64 ((n : Int) + (m : Int))
  · have d1 : decide (1048576 < wrap64 ((n : Int) + (m : Int))) = true := decide_eq_true big
    go_enter Tryz.func3, Tryz.ntmps3
    go_wp2_with fail
    go_ret
    exact ⟨rfl, Below.refl _ _⟩
  have d1 : decide (1048576 < wrap64 ((n : Int) + (m : Int))) = false := decide_eq_false big
  have Y1 := hide h
  have Y2 := hide h'
  have BW : Hid (Below w.heap.size w w) := hide (Below.refl _ _)
  clear h h'
  go_enter Tryz.func3, Tryz.ntmps3
  go_wp2_with fail
  refine (drawTr a n c _ (unhide Y1)).mono ?_
  rintro e w1 ⟨a0, n0, c0, l, rfl, ar, hn, hb⟩
  replace Y2 := hide ((unhide Y2).later hb)
  replace BW := hide (below_on (unhide BW) hb)
  clear hb
  clear Y1 d1 big
  have LN0 := hide ar.len
  have AR := hide (ar)
  clear ar
  have C1 := hide (fun w (k : ArP w a0 n0 c0 l) => TriangulateI a0 n0 c0 l w k (by omega))
  have C2 := hide (fun w (k : ArP w a0 n0 c0 l) => TriangulateS a0 n0 c0 l w k (by omega))
  have C3 := hide (fun w (k : ArP w a0 n0 c0 l) => EarsOfI a0 n0 c0 l w k (by omega))
  have C4 := hide (fun w (k : ArP w a0 n0 c0 l) => EarsOfS a0 n0 c0 l w k (by omega))
  have CI := hide (fun b m d w (k : ArP w a0 n0 c0 l) (k' : SlA w b m (trV l)) (h2 : m ≤ 1048576) => IsTriangulationI2 a0 n0 c0 l b m d (trV l) w k k' (by omega) h2)
  have CN := hide (fun q w (k : ArP w a0 n0 c0 l) => InsideI a0 n0 c0 l q true w k (by omega))
  have F1 := hide (@tri_one l)
  have F2 := hide (@tri_two l)
  have F3 := hide (fun q => @tri_inside l q)
  generalize itgV l (trV l) = ig at *
  generalize eaV l = EV at *
  generalize trV l = TV at *
  generalize ipB l = ok at *
  have x0 : (ok != ok) = false := by simp
  go_wp2_with fail
  refine (unhide C1 _ (unhide AR)).mono ?_
  rintro e w2 ⟨a1, n1, c1, rfl, hb, rt, le1⟩
  replace Y2 := hide ((unhide Y2).later hb)
  replace AR := hide ((unhide AR).later hb)
  replace BW := hide (below_on (unhide BW) hb)
  clear hb
  have R1 := hide rt
  have E1 := hide rt.len
  clear rt
  go_wp2_with fail
  refine (unhide C2 _ (unhide AR)).mono ?_
  rintro e w3 ⟨a2, n2, c2, rfl, hb, rt, le2⟩
  replace Y2 := hide ((unhide Y2).later hb)
  replace AR := hide ((unhide AR).later hb)
  replace R1 := hide ((unhide R1).later hb)
  replace BW := hide (below_on (unhide BW) hb)
  clear hb
  have R2 := hide rt
  obtain rfl : n1 = n2 := by rw [← rt.len]; exact (unhide E1).symm
  clear rt le2
  go_wp2_with fail
  refine (unhide C3 _ (unhide AR)).mono ?_
  rintro e w4 ⟨a3, n3, c3, rfl, hb, rt, le3⟩
  replace Y2 := hide ((unhide Y2).later hb)
  replace AR := hide ((unhide AR).later hb)
  replace R1 := hide ((unhide R1).later hb)
  replace R2 := hide ((unhide R2).later hb)
  replace BW := hide (below_on (unhide BW) hb)
  clear hb
  have R3 := hide rt
  have E3 := hide rt.len
  clear rt
  go_wp2_with fail
  refine (unhide C4 _ (unhide AR)).mono ?_
  rintro e w5 ⟨a4, n4, c4, rfl, hb, rt, le4⟩
  replace Y2 := hide ((unhide Y2).later hb)
  replace AR := hide ((unhide AR).later hb)
  replace R1 := hide ((unhide R1).later hb)
  replace R2 := hide ((unhide R2).later hb)
  replace R3 := hide ((unhide R3).later hb)
  replace BW := hide (below_on (unhide BW) hb)
  clear hb
  have R4 := hide rt
  obtain rfl : n3 = n4 := by rw [← rt.len]; exact (unhide E3).symm
  clear rt le4 C1 C2 C3 C4
  go_wp2_with fail
  refine (sameTris_v _ _ n1 c1 c2 TV _ (unhide R1).sl (unhide R2).sl (unhide E1) le1).mono ?_
  rintro e w6 ⟨rfl, hb⟩
  replace Y2 := hide ((unhide Y2).later hb)
  replace AR := hide ((unhide AR).later hb)
  replace R1 := hide ((unhide R1).later hb)
  replace R2 := hide ((unhide R2).later hb)
  replace R3 := hide ((unhide R3).later hb)
  replace R4 := hide ((unhide R4).later hb)
  replace BW := hide (below_on (unhide BW) hb)
  clear hb
  go_wp2_with fail
  refine (sameI11 _ _ n3 c3 c4 EV _ (unhide R3).sl (unhide R4).sl (unhide E3) le3).mono ?_
  rintro e w7 ⟨rfl, hb⟩
  replace Y2 := hide ((unhide Y2).later hb)
  replace AR := hide ((unhide AR).later hb)
  replace R1 := hide ((unhide R1).later hb)
  replace R2 := hide ((unhide R2).later hb)
  replace R3 := hide ((unhide R3).later hb)
  replace R4 := hide ((unhide R4).later hb)
  replace BW := hide (below_on (unhide BW) hb)
  clear hb
  clear R2 R4 R3
  go_upto_if 86 with fail
  have FB0 : Hid (Below w7.heap.size w7 w7) := hide (Below.refl _ _)
  go_cut [] (fun wx => Hid (Below w7.heap.size w7 wx))
  case first => as_aux_lemma =>
    cases ok
    · clear F1 F2 F3 CI CN
      go_wp2_with fail
      go_meet
      exact FB0
    · skip
      obtain ⟨rfl, e2, e3⟩ := unhide F1 rfl
      replace F2 := hide (unhide F2 rfl)
      have n13 : n1 + 2 = n0 := by have := unhide E1; have := unhide LN0; omega
      have n32 : 2 ≤ n3 := by have := unhide E3; omega
      clear e2 e3 F1 x0
      have SA := hide (SlA.mk (unhide R1).sl (unhide E1))
      go_wp2_with fail
      refine (unhide CI _ _ _ _ (unhide AR) (unhide SA) le1).mono ?_
      rintro e w8 ⟨rfl, hb⟩
      replace Y2 := hide ((unhide Y2).later hb)
      replace AR := hide ((unhide AR).later hb)
      replace R1 := hide ((unhide R1).later hb)
      replace SA := hide ((unhide SA).later hb)
      replace BW := hide (below_on (unhide BW) hb)
      replace FB0 := hide (below_on (unhide FB0) hb)
      clear hb
      clear SA
      have q1 : decide ((n3 : Int) < 2) = false := decide_eq_false (by omega)
      have q2 : IntKind.i64.wrap ((n0 : Int) - 2) = (n1 : Int) := by rw [IntKind.wrap_i64]; omega
      have q3 : ((n1 : Int) != (n1 : Int)) = false := by simp
      have q4 : decide (n3 < 2) = false := decide_eq_false (by omega)
      have H13 := hide n13
      clear CI n13
      go_upto_region 14 with fail
      clear q1 q2 q3 q4
      go_upto_region 14 with fail
      have FB1 : Hid (Below w8.heap.size w8 w8) := hide (Below.refl _ _)
      go_cut [16] (fun v wx => ∃ (G : Nat) (x y : Int), v = .pointer (some ⟨G, 0, none⟩) ∧ Hid (BxP wx G x y) ∧ Hid (Below w8.heap.size w8 wx))
      case first => as_aux_lemma =>
        go_wp2_with fail
        refine (number_v b m d _ (unhide Y2)).mono ?_
        rintro e w9 ⟨v1, rfl, hb⟩
        replace Y2 := hide ((unhide Y2).later hb)
        replace AR := hide ((unhide AR).later hb)
        replace R1 := hide ((unhide R1).later hb)
        replace BW := hide (below_on (unhide BW) hb)
        replace FB0 := hide (below_on (unhide FB0) hb)
        replace FB1 := hide (below_on (unhide FB1) hb)
        clear hb
        go_wp2_with fail
        refine (number_v b m d _ (unhide Y2)).mono ?_
        rintro e w10 ⟨v2, rfl, hb⟩
        replace Y2 := hide ((unhide Y2).later hb)
        replace AR := hide ((unhide AR).later hb)
        replace R1 := hide ((unhide R1).later hb)
        replace BW := hide (below_on (unhide BW) hb)
        replace FB0 := hide (below_on (unhide FB0) hb)
        replace FB1 := hide (below_on (unhide FB1) hb)
        clear hb
        go_wp2_with fail
        go_meet
        exact ⟨_, _, _, rfl, hide BxP.new, hide (below_on (unhide FB1) ((Below.refl _ _).alloc (Nat.le_refl _) _))⟩
      case rest => as_aux_lemma =>
        obtain ⟨G, x, y, rfl, Kp, hcut⟩ := hcut
        obtain ⟨w11, hwc⟩ : ∃ x, x = wc := ⟨_, rfl⟩
        subst hwc
        have hb := unhide hcut
        clear hcut FB1
        replace Y2 := hide ((unhide Y2).later hb)
        replace AR := hide ((unhide AR).later hb)
        replace R1 := hide ((unhide R1).later hb)
        replace BW := hide (below_on (unhide BW) hb)
        replace FB0 := hide (below_on (unhide FB0) hb)
        clear hb
        have F3x := hide (unhide F3 (x, y) (by first | exact rfl | trivial))
        have CN2 := hide (fun w k => unhide CN (x, y) w k)
        dsimp only at CN2
        generalize inV l (x, y) true = iv at *
        generalize offB l (x, y) = off at *
        have Kp_0 := (unhide Kp).c0
        have Kp_1 := (unhide Kp).c1
        go_wp2_with fail
        refine (unhide CN2 _ (unhide AR)).mono ?_
        rintro e w12 ⟨rfl, hb⟩
        clear Kp_0 Kp_1
        replace Kp := hide ((unhide Kp).later hb)
        replace Y2 := hide ((unhide Y2).later hb)
        replace AR := hide ((unhide AR).later hb)
        replace R1 := hide ((unhide R1).later hb)
        replace BW := hide (below_on (unhide BW) hb)
        replace FB0 := hide (below_on (unhide FB0) hb)
        clear hb
        clear CN CN2 F3
        go_upto_if 130 with fail
        have FB2 : Hid (Below w12.heap.size w12 w12) := hide (Below.refl _ _)
        go_cut [] (fun wx => Hid (Below w12.heap.size w12 wx))
        case first => as_aux_lemma =>
          cases off
          · clear F3x
            go_wp2_with fail
            go_meet
            exact FB2
          · obtain ⟨hb1, hi1⟩ := unhide F3x rfl
            have HB1 := hide hb1
            have HI := hide hi1
            clear F3x hb1 hi1
            have Kp_0 := (unhide Kp).c0
            have Kp_1 := (unhide Kp).c1
            go_wp2_with fail
            go_loopw [19, 133] (fun sv jv wr => ∃ (i : Nat) (s : Bool), i ≤ n1 ∧ jv = .int .i64 i ∧ sv = .bool s ∧ Hid (s = true ↔ ∃ z ∈ TV.take i, itV (pAt l z.1) (pAt l z.2.1) (pAt l z.2.2) (x, y) = true) ∧ Hid (Below w12.heap.size w12 wr)) (fun _ jv _ => n1 - (intOf jv).toNat)
            case atStart => exact ⟨0, false, Nat.zero_le _, rfl, rfl, hide (by simp), hide (Below.refl _ _)⟩
            case round =>
              obtain ⟨i, s, hi, rfl, rfl, HS, HB⟩ := hrel
              by_cases hlt : i < n1
              · have hlt' : (i : Int) < (n1 : Int) := by omega
                have iT : i < TV.length := by rw [unhide E1]; exact hlt
                have TR : ∃ b off, a1 = some ⟨b, off, none⟩ ∧ wr.cell? ⟨b, off + i * 3, none⟩ = some (.int .i64 TV[i].1) ∧ wr.cell? ⟨b, off + i * 3 + 1, none⟩ = some (.int .i64 TV[i].2.1) ∧ wr.cell? ⟨b, off + i * 3 + 2, none⟩ = some (.int .i64 TV[i].2.2) := by
                  rcases ((unhide R1).later (unhide HB)).sl with e | ⟨b, off, e, hb, hc⟩
                  · rw [e] at iT; simp at iT
                  · exact ⟨b, off, e, hc i iT⟩
                obtain ⟨i0, j0, k0, ex, li, lj, lk⟩ := unhide F2 _ (List.getElem_mem iT)
                have hB1 := unhide HB1 _ (List.getElem_mem iT)
                have TK : TV.take (i + 1) = TV.take i ++ [TV[i]] := List.take_succ_eq_append_getElem iT
                have CR := sp_at ((unhide AR).later (unhide HB)).sl (by omega)
                rw [ex] at TR hB1 TK
                dsimp only at TR hB1
                rw [pAt_nat, pAt_nat, pAt_nat] at hB1
                obtain ⟨bt, ot, rfl, T0, T1, T2⟩ := TR
                obtain ⟨bc, oc, rfl, hbc, hcc⟩ := CR
                have I0 := hcc i0 li
                have J0 := hcc j0 lj
                have K0 := hcc k0 lk
                have HS2 : Hid (∀ s' : Bool, (s' = true ↔ (s = true ∨ itV (l.getD i0 (0, 0)) (l.getD j0 (0, 0)) (l.getD k0 (0, 0)) (x, y) = true)) → (s' = true ↔ ∃ z ∈ TV.take (i + 1), itV (pAt l z.1) (pAt l z.2.1) (pAt l z.2.2) (x, y) = true)) := hide (fun s' hs' => by
                  rw [hs', unhide HS, TK]
                  constructor
                  · rintro (⟨z, hz, hv⟩ | hv)
                    · exact ⟨z, List.mem_append_left _ hz, hv⟩
                    · exact ⟨_, List.mem_append_right _ (List.mem_singleton.2 rfl), by dsimp only; rw [pAt_nat, pAt_nat, pAt_nat]; exact hv⟩
                  · rintro ⟨z, hz, hv⟩
                    rcases List.mem_append.1 hz with hz | hz
                    · exact .inl ⟨z, hz, hv⟩
                    · obtain rfl := List.mem_singleton.1 hz
                      dsimp only at hv
                      rw [pAt_nat, pAt_nat, pAt_nat] at hv
                      exact .inr hv)
                have li' : (i0 : Int) < (n0 : Int) := by have := unhide LN0; omega
                have lj' : (j0 : Int) < (n0 : Int) := by have := unhide LN0; omega
                have lk' : (k0 : Int) < (n0 : Int) := by have := unhide LN0; omega
                have P0 := cell_later (unhide HB) Kp_0
                have P1 := cell_later (unhide HB) Kp_1
                clear hcc ex TK HS
                generalize l.getD i0 (0, 0) = pa at *
                generalize l.getD j0 (0, 0) = pb at *
                generalize l.getD k0 (0, 0) = pc at *
                have I1 := I0.2
                have J1 := J0.2
                have K1 := K0.2
                replace I0 := I0.1
                replace J0 := J0.1
                replace K0 := K0.1
                have bx := (Below.refl wr.heap.size wr).alloc (Nat.le_refl _) (.cells #[.int .i64 (i0 : Int), .int .i64 (j0 : Int), .int .i64 (k0 : Int)] 40)
                have X0 : (wr.alloc (.cells #[.int .i64 (i0 : Int), .int .i64 (j0 : Int), .int .i64 (k0 : Int)] 40)).cell? ⟨wr.heap.size, 0, none⟩ = some (.int .i64 (i0 : Int)) := by simp [go_sem]
                have X1 : (wr.alloc (.cells #[.int .i64 (i0 : Int), .int .i64 (j0 : Int), .int .i64 (k0 : Int)] 40)).cell? ⟨wr.heap.size, 1, none⟩ = some (.int .i64 (j0 : Int)) := by simp [go_sem]
                have X2 : (wr.alloc (.cells #[.int .i64 (i0 : Int), .int .i64 (j0 : Int), .int .i64 (k0 : Int)] 40)).cell? ⟨wr.heap.size, 2, none⟩ = some (.int .i64 (k0 : Int)) := by simp [go_sem]
                replace I0 := cell_later bx I0
                replace J0 := cell_later bx J0
                replace K0 := cell_later bx K0
                replace I1 := cell_later bx I1
                replace J1 := cell_later bx J1
                replace K1 := cell_later bx K1
                replace P0 := cell_later bx P0
                replace P1 := cell_later bx P1
                replace HB := hide (below_on (unhide HB) bx)
                have CT := hide (fun w => InTriangleI pa pb pc (x, y) w)
                rw [hB1] at CT
                generalize itV pa pb pc (x, y) = v at *
                go_upto_region 21 with fail
                generalize wr.alloc (.cells #[.int .i64 (i0 : Int), .int .i64 (j0 : Int), .int .i64 (k0 : Int)] 40) = wb at *
                clear bx T0 T1 T2 hB1
                generalize wr.heap.size = PX at *
                have KS : wb.cell? ⟨PX, 0, none⟩ = some (.int .i64 (i0 : Int)) ∧ wb.cell? ⟨PX, 1, none⟩ = some (.int .i64 (j0 : Int)) ∧ wb.cell? ⟨PX, 2, none⟩ = some (.int .i64 (k0 : Int)) ∧ wb.cell? ⟨bc, oc + i0 * 2, none⟩ = some (.int .i64 pa.1) ∧ wb.cell? ⟨bc, oc + i0 * 2 + 1, none⟩ = some (.int .i64 pa.2) ∧ wb.cell? ⟨bc, oc + j0 * 2, none⟩ = some (.int .i64 pb.1) ∧ wb.cell? ⟨bc, oc + j0 * 2 + 1, none⟩ = some (.int .i64 pb.2) ∧ wb.cell? ⟨bc, oc + k0 * 2, none⟩ = some (.int .i64 pc.1) ∧ wb.cell? ⟨bc, oc + k0 * 2 + 1, none⟩ = some (.int .i64 pc.2) ∧ wb.cell? ⟨G, 0, none⟩ = some (.int .i64 x) ∧ wb.cell? ⟨G, 1, none⟩ = some (.int .i64 y) := ⟨X0, X1, X2, I0, I1, J0, J1, K0, K1, P0, P1⟩
                clear X0 X1 X2 I0 I1 J0 J1 K0 K1 P0 P1
                obtain ⟨X0, X1, X2, I0, I1, J0, J1, K0, K1, P0, P1⟩ := KS
                go_region_held3 (fun w' => w'.cell? ⟨PX, 0, none⟩ = some (.int .i64 (i0 : Int)) ∧ w'.cell? ⟨PX, 1, none⟩ = some (.int .i64 (j0 : Int)) ∧ w'.cell? ⟨PX, 2, none⟩ = some (.int .i64 (k0 : Int)) ∧ w'.cell? ⟨bc, oc + i0 * 2, none⟩ = some (.int .i64 pa.1) ∧ w'.cell? ⟨bc, oc + i0 * 2 + 1, none⟩ = some (.int .i64 pa.2) ∧ w'.cell? ⟨bc, oc + j0 * 2, none⟩ = some (.int .i64 pb.1) ∧ w'.cell? ⟨bc, oc + j0 * 2 + 1, none⟩ = some (.int .i64 pb.2) ∧ w'.cell? ⟨bc, oc + k0 * 2, none⟩ = some (.int .i64 pc.1) ∧ w'.cell? ⟨bc, oc + k0 * 2 + 1, none⟩ = some (.int .i64 pc.2) ∧ w'.cell? ⟨G, 0, none⟩ = some (.int .i64 x) ∧ w'.cell? ⟨G, 1, none⟩ = some (.int .i64 y)) (with_reducible (first | exact ⟨X0, X1, X2, I0, I1, J0, J1, K0, K1, P0, P1⟩ | exact ⟨cdP X0, cdP X1, cdP X2, cdP I0, cdP I1, cdP J0, cdP J1, cdP K0, cdP K1, cdP P0, cdP P1⟩ | fail))
                  (first
                  | (go_at_call 14; refine (unhide CT _).mono ?_; rintro e wv ⟨rfl, hb1⟩; have hbx := below_of_drew hb1; replace HB := hide (below_on (unhide HB) hbx); replace X0 := cell_later hbx X0; replace X1 := cell_later hbx X1; replace X2 := cell_later hbx X2; replace I0 := cell_later hbx I0; replace I1 := cell_later hbx I1; replace J0 := cell_later hbx J0; replace J1 := cell_later hbx J1; replace K0 := cell_later hbx K0; replace K1 := cell_later hbx K1; replace P0 := cell_later hbx P0; replace P1 := cell_later hbx P1; clear hb1 hbx)
                  | fail)
                clear X0 X1 X2 I0 I1 J0 J1 K0 K1 P0 P1 CT
                cases s
                · cases v
                  · go_wp2_with fail
                    go_roundw
                    case rel => exact ⟨i + 1, false, by omega, by go_num, rfl, hide (unhide HS2 _ (by simp)), HB⟩
                    case measure => simp [intOf]; omega
                  · go_wp2_with fail
                    go_roundw
                    case rel => exact ⟨i + 1, true, by omega, by go_num, rfl, hide (unhide HS2 _ (by simp)), HB⟩
                    case measure => simp [intOf]; omega
                · go_wp2_with fail
                  go_roundw
                  case rel => exact ⟨i + 1, true, by omega, by go_num, rfl, hide (unhide HS2 _ (by simp)), HB⟩
                  case measure => simp [intOf]; omega
              · obtain rfl : i = n1 := by omega
                have es : s = iv := by
                  have k := unhide HS
                  rw [List.take_of_length_le (by rw [unhide E1]; exact Nat.le_refl _), ← unhide HI] at k
                  exact Bool.eq_iff_iff.2 k
                subst es
                have z1 : (s != s) = false := by simp
                replace FB2 := hide (below_on (unhide FB2) (unhide HB))
                clear HS HB
                go_wp2_with fail
                go_meet
                exact FB2
        case rest => as_aux_lemma =>
          obtain hcut := hcut
          obtain ⟨w13, hwc⟩ : ∃ x, x = wc := ⟨_, rfl⟩
          subst hwc
          have hb := unhide hcut
          clear hcut FB2
          replace Kp := hide ((unhide Kp).later hb)
          replace Y2 := hide ((unhide Y2).later hb)
          replace AR := hide ((unhide AR).later hb)
          replace R1 := hide ((unhide R1).later hb)
          replace BW := hide (below_on (unhide BW) hb)
          replace FB0 := hide (below_on (unhide FB0) hb)
          clear hb
          clear Kp
          clear F3x F2 H13
          go_wp2_with fail
          go_meet
          exact FB0
  case rest => as_aux_lemma =>
    obtain hcut := hcut
    obtain ⟨w14, hwc⟩ : ∃ x, x = wc := ⟨_, rfl⟩
    subst hwc
    have hb := unhide hcut
    clear hcut FB0
    replace Y2 := hide ((unhide Y2).later hb)
    replace AR := hide ((unhide AR).later hb)
    replace R1 := hide ((unhide R1).later hb)
    replace BW := hide (below_on (unhide BW) hb)
    clear hb
    clear AR R1
    clear F1 F2 F3 CI CN E1 E3 LN0 x0 le1 le3 hn
    go_wp2_with fail
    refine (drawIsT b m d _ (unhide Y2)).mono ?_
    rintro e w15 ⟨a6, n6, c6, l6, b6, m6, d6, T6, rfl, ar6, hn6, sa6, hm6, hb⟩
    replace Y2 := hide ((unhide Y2).later hb)
    replace BW := hide (below_on (unhide BW) hb)
    clear hb
    have AR := hide (ar6)
    have SA := hide (sa6)
    clear ar6 sa6
    have C1 := hide (fun w (k : ArP w a6 n6 c6 l6) (k' : SlA w b6 m6 T6) => IsTriangulationI2 a6 n6 c6 l6 b6 m6 d6 T6 w k k' (by omega) hm6)
    have C2 := hide (fun w (k : ArP w a6 n6 c6 l6) (k' : SlA w b6 m6 T6) => IsTriangulationS2 a6 n6 c6 l6 b6 m6 d6 T6 w k k' (by omega) hm6)
    generalize itgV l6 T6 = ig at *
    generalize ipB l6 = ok at *
    have q1 : (ok == ok) = true := by simp
    have q2 : (ig == ig) = true := by simp
    go_wp2_with fail
    refine (unhide C1 _ (unhide AR) (unhide SA)).mono ?_
    rintro e w16 ⟨rfl, hb⟩
    replace Y2 := hide ((unhide Y2).later hb)
    replace AR := hide ((unhide AR).later hb)
    replace SA := hide ((unhide SA).later hb)
    replace BW := hide (below_on (unhide BW) hb)
    clear hb
    go_wp2_with fail
    refine (unhide C2 _ (unhide AR) (unhide SA)).mono ?_
    rintro e w17 ⟨rfl, hb⟩
    replace Y2 := hide ((unhide Y2).later hb)
    replace AR := hide ((unhide AR).later hb)
    replace SA := hide ((unhide SA).later hb)
    replace BW := hide (below_on (unhide BW) hb)
    clear hb
    clear AR SA
    clear C1 C2
    go_wp2_with fail
    refine (drawIT b m d _ (unhide Y2)).mono ?_
    rintro e w18 ⟨p1, p2, p3, p4, rfl, nr, hb⟩
    replace Y2 := hide ((unhide Y2).later hb)
    replace BW := hide (below_on (unhide BW) hb)
    clear hb
    clear Y2
    clear nr
    have al : Below w18.heap.size w18 ((((w18.alloc (.cells #[.int .i64 p1.1, .int .i64 p1.2] 37)).alloc (.cells #[.int .i64 p2.1, .int .i64 p2.2] 37)).alloc (.cells #[.int .i64 p3.1, .int .i64 p3.2] 37)).alloc (.cells #[.int .i64 p4.1, .int .i64 p4.2] 37)) := (((((Below.refl _ _).alloc (Nat.le_refl _) _).alloc (by simp) _).alloc (by simp; omega) _).alloc (by simp; omega) _)
    replace BW := hide (below_on (unhide BW) al)
    clear al
    have Ka : Hid (BxP ((((w18.alloc (.cells #[.int .i64 p1.1, .int .i64 p1.2] 37)).alloc (.cells #[.int .i64 p2.1, .int .i64 p2.2] 37)).alloc (.cells #[.int .i64 p3.1, .int .i64 p3.2] 37)).alloc (.cells #[.int .i64 p4.1, .int .i64 p4.2] 37)) (w18.heap.size) p1.1 p1.2) := hide (((((BxP.new (w := w18) (x := p1.1) (y := p1.2) (t := 37)).later ((Below.refl _ _).alloc (Nat.le_refl _) _)).later ((Below.refl _ _).alloc (Nat.le_refl _) _)).later ((Below.refl _ _).alloc (Nat.le_refl _) _)))
    have zz : (w18.alloc (.cells #[.int .i64 p1.1, .int .i64 p1.2] 37)).heap.size = w18.heap.size + 1 := by simp
    have Kb : Hid (BxP ((((w18.alloc (.cells #[.int .i64 p1.1, .int .i64 p1.2] 37)).alloc (.cells #[.int .i64 p2.1, .int .i64 p2.2] 37)).alloc (.cells #[.int .i64 p3.1, .int .i64 p3.2] 37)).alloc (.cells #[.int .i64 p4.1, .int .i64 p4.2] 37)) (w18.heap.size + 1) p2.1 p2.2) := hide (zz ▸ (((BxP.new (w := (w18.alloc (.cells #[.int .i64 p1.1, .int .i64 p1.2] 37))) (x := p2.1) (y := p2.2) (t := 37)).later ((Below.refl _ _).alloc (Nat.le_refl _) _)).later ((Below.refl _ _).alloc (Nat.le_refl _) _)))
    clear zz
    have zz : ((w18.alloc (.cells #[.int .i64 p1.1, .int .i64 p1.2] 37)).alloc (.cells #[.int .i64 p2.1, .int .i64 p2.2] 37)).heap.size = w18.heap.size + 1 + 1 := by simp
    have Kc : Hid (BxP ((((w18.alloc (.cells #[.int .i64 p1.1, .int .i64 p1.2] 37)).alloc (.cells #[.int .i64 p2.1, .int .i64 p2.2] 37)).alloc (.cells #[.int .i64 p3.1, .int .i64 p3.2] 37)).alloc (.cells #[.int .i64 p4.1, .int .i64 p4.2] 37)) (w18.heap.size + 1 + 1) p3.1 p3.2) := hide (zz ▸ ((BxP.new (w := ((w18.alloc (.cells #[.int .i64 p1.1, .int .i64 p1.2] 37)).alloc (.cells #[.int .i64 p2.1, .int .i64 p2.2] 37))) (x := p3.1) (y := p3.2) (t := 37)).later ((Below.refl _ _).alloc (Nat.le_refl _) _)))
    clear zz
    have zz : (((w18.alloc (.cells #[.int .i64 p1.1, .int .i64 p1.2] 37)).alloc (.cells #[.int .i64 p2.1, .int .i64 p2.2] 37)).alloc (.cells #[.int .i64 p3.1, .int .i64 p3.2] 37)).heap.size = w18.heap.size + 1 + 1 + 1 := by simp
    have Kd : Hid (BxP ((((w18.alloc (.cells #[.int .i64 p1.1, .int .i64 p1.2] 37)).alloc (.cells #[.int .i64 p2.1, .int .i64 p2.2] 37)).alloc (.cells #[.int .i64 p3.1, .int .i64 p3.2] 37)).alloc (.cells #[.int .i64 p4.1, .int .i64 p4.2] 37)) (w18.heap.size + 1 + 1 + 1) p4.1 p4.2) := hide (zz ▸ (BxP.new (w := (((w18.alloc (.cells #[.int .i64 p1.1, .int .i64 p1.2] 37)).alloc (.cells #[.int .i64 p2.1, .int .i64 p2.2] 37)).alloc (.cells #[.int .i64 p3.1, .int .i64 p3.2] 37))) (x := p4.1) (y := p4.2) (t := 37)))
    clear zz
    have C3 := hide (fun w => InTriangleI p1 p2 p3 p4 w)
    have C4 := hide (fun w => InTriangleS p1 p2 p3 p4 w)
    generalize itV p1 p2 p3 p4 = tv at *
    generalize itB p1 p2 p3 p4 = tb at *
    have q3 : (tb == tb) = true := by simp
    have q4 : (tv == tv) = true := by simp
    go_upto_region 30 with fail
    generalize ((((w18.alloc (.cells #[.int .i64 p1.1, .int .i64 p1.2] 37)).alloc (.cells #[.int .i64 p2.1, .int .i64 p2.2] 37)).alloc (.cells #[.int .i64 p3.1, .int .i64 p3.2] 37)).alloc (.cells #[.int .i64 p4.1, .int .i64 p4.2] 37)) = w19 at *
    have Ka_0 := (unhide Ka).c0
    have Ka_1 := (unhide Ka).c1
    have Kb_0 := (unhide Kb).c0
    have Kb_1 := (unhide Kb).c1
    have Kc_0 := (unhide Kc).c0
    have Kc_1 := (unhide Kc).c1
    have Kd_0 := (unhide Kd).c0
    have Kd_1 := (unhide Kd).c1
    go_wp2_with fail
    refine (unhide C3 _).mono ?_
    rintro e w20 ⟨rfl, hb⟩
    clear Ka_0 Ka_1 Kb_0 Kb_1 Kc_0 Kc_1 Kd_0 Kd_1
    replace Ka := hide ((unhide Ka).later hb)
    replace Kb := hide ((unhide Kb).later hb)
    replace Kc := hide ((unhide Kc).later hb)
    replace Kd := hide ((unhide Kd).later hb)
    replace BW := hide (below_on (unhide BW) hb)
    clear hb
    have Ka_0 := (unhide Ka).c0
    have Ka_1 := (unhide Ka).c1
    have Kb_0 := (unhide Kb).c0
    have Kb_1 := (unhide Kb).c1
    have Kc_0 := (unhide Kc).c0
    have Kc_1 := (unhide Kc).c1
    have Kd_0 := (unhide Kd).c0
    have Kd_1 := (unhide Kd).c1
    go_wp2_with fail
    refine (unhide C4 _).mono ?_
    rintro e w21 ⟨rfl, hb⟩
    clear Ka_0 Ka_1 Kb_0 Kb_1 Kc_0 Kc_1 Kd_0 Kd_1
    replace Ka := hide ((unhide Ka).later hb)
    replace Kb := hide ((unhide Kb).later hb)
    replace Kc := hide ((unhide Kc).later hb)
    replace Kd := hide ((unhide Kd).later hb)
    replace BW := hide (below_on (unhide BW) hb)
    clear hb
    go_wp2_with fail
    go_ret
    exact ⟨rfl, unhide BW⟩
end Go.Proofs.YtomekmhonfofkaaGreat
namespace Go.Proofs.YtomekmhonfofkaaGreat
open Go.ChangeShapes Go.WideShapes Go.ChangeAt Go.RowKit Go.Joins
set_option linter.unusedVariables false
set_option maxRecDepth 100000
set_option linter.unusedSimpArgs false

set_option maxRecDepth 100000 in
theorem triangles_holds_lifted (os : Os) (started : os.Started) (H : Type) (enc : TypeId × Value → H) :
    ReturnsInHanded {} Tryz.checked os 3 .any (Rows.fnTrianglesSpec.pre6 enc Tryz.prog Tryz.f3 Rows.fnTrianglesRow.domain false) (Rows.fnTrianglesSpec.post enc Tryz.prog Tryz.f3 false true false false) := by
  refine returnsInHanded_of_change (C := Tryz.checked) own started (by kernel_rfl) Tryz.func3
    (ChangeSpec.witness6 (enc := enc) (C := Tryz.checked) false ⟨#[], #[.slice none 0 0, .slice none 0 0], []⟩ 8 (by kernel_rfl) (by kernel_rfl) (by kernel_rfl) (by kernel_rfl)) ?_
  intro W base args ds gs before hval0 hW hcnd _
  have hval : ∀ (j : Nat) t v, Tryz.f3.params[j]? = some t → args[j]? = some v → Value.okWide Tryz.prog W .any base t v := hval0
  have hW' := hW
  obtain ⟨p, q, hA0, hV, rfl, hfz, hnd⟩ := hW
  have hA : DataW.TrodAll enc Tryz.prog W 0 (fun _ => true) true Tryz.f3.params.toList args.toList ds p := hA0
  rw [Tryz.params3] at hA hval
  obtain ⟨v0, vs0, d0, ds0, p0, q0, hargs, rfl, rfl, h0, r0⟩ := trodAll_cons hA
  obtain ⟨v1, vs1, d1, ds1, p1, q1, rfl, rfl, rfl, h1, r1⟩ := trodAll_cons r0
  obtain ⟨rfl, rfl, rfl⟩ := trodAll_nil r1
  obtain rfl : args = #[v0, v1] := by cases args; simp_all
  obtain ⟨rfl, rfl⟩ := trodVars_none hV
  have lt0 : ∀ x ∈ p0, x.block < W.heap.size := by obtain ⟨m, hm⟩ := h0; exact DataW.trod_lt m _ _ _ hm
  obtain ⟨a0, n0, c0, rfl, y0⟩ := open_Y (hval 0 22 v0 rfl rfl) h0
  have lt1 : ∀ x ∈ p1, x.block < W.heap.size := by obtain ⟨m, hm⟩ := h1; exact DataW.trod_lt m _ _ _ hm
  obtain ⟨a1, n1, c1, rfl, y1⟩ := open_Y (hval 1 22 v1 rfl rfl) h1
  clear hA0 hval0
  refine (lawTriangles_walk a0 n0 c0 a1 n1 c1 W y0 y1).mono fun e W' ⟨he, bel⟩ => ?_
  subst he
  exact ⟨_, rfl, _, _, _, [], _, [], hW', trodAll_mk1 (shut_bool Tryz.underlying4 _), (trodAll_cons_mk (Below.trod laidOut (by kernel_rfl) (of_decide_eq_true (by kernel_rfl)) h0 bel lt0) (trodAll_cons_mk (Below.trod laidOut (by kernel_rfl) (of_decide_eq_true (by kernel_rfl)) h1 bel lt1) trodAll_mk0)), rfl, bel.frame _, fun h => by cases h⟩

theorem triangles_holds_c0 : (Rows.fnTrianglesRow.wf (OpenSpec.ofChange Rows.fnTrianglesSpec)) = true := by kernel_rfl
theorem triangles_holds_c1 : (laidOutB Tryz.pinned.checked.prog) = true := by kernel_rfl
theorem triangles_holds_c2 : (mapsRowed Tryz.pinned.checked.prog) = true := by kernel_rfl
theorem triangles_holds_c3 : (Tryz.f3.params.all (Tryz.pinned.checked.prog.readableRec ·)) = true := by kernel_rfl
theorem triangles_holds_c4 : (namedTie Tryz.pinned.checked.prog Rows.fnTrianglesRow.named Rows.fnTrianglesSpec.vars) = true := by kernel_rfl
theorem triangles_holds_c5 : (Rows.fnTrianglesRow.stops == []) = true := by kernel_rfl
theorem triangles_holds_c6 : (Tryz.pinned.checked.prog.stops == []) = true := by kernel_rfl
theorem triangles_holds_c7 : (Rows.fnTrianglesRow.knobs == []) = true := by kernel_rfl
theorem triangles_holds_c8 : (Tryz.pinned.checked.prog.stopKnobs == []) = true := by kernel_rfl
theorem triangles_holds_c9 : (Rows.fnTrianglesRow.inPlace == Tryz.pinned.checked.prog.inPlace 3) = true := by kernel_rfl
theorem triangles_holds_c10 : (Rows.fnTrianglesRow.unfollowed == Tryz.pinned.checked.prog.unfollowed 3) = true := by kernel_rfl
theorem triangles_holds_c11 : (Rows.fnTrianglesRow.recurses == Tryz.pinned.checked.prog.recurses 3) = true := by kernel_rfl
theorem triangles_holds_c12 : (Rows.fnTrianglesRow.named == Tryz.pinned.checked.prog.varsNamed 3) = true := by kernel_rfl
theorem triangles_holds_c13 : (Rows.fnTrianglesRow.maps == (Tryz.f3.params.toList ++ Rows.fnTrianglesSpec.plain.varTypes Tryz.pinned.checked.prog).any (Tryz.pinned.checked.prog.mapsRec ·)) = true := by kernel_rfl
theorem triangles_holds_c14 : (Rows.fnTrianglesRow.ifaces == (Tryz.f3.params.toList ++ Rows.fnTrianglesSpec.plain.varTypes Tryz.pinned.checked.prog).any (Tryz.pinned.checked.prog.ifacesRec ·)) = true := by kernel_rfl
theorem triangles_holds_c15 : (Rows.fnTrianglesRow.mapsOut == Tryz.pinned.checked.prog.mapsAmong Tryz.f3.resultTypes.toList) = true := by kernel_rfl
theorem triangles_holds_c16 : (Rows.fnTrianglesRow.loops == (Tryz.f3.params.toList ++ Rows.fnTrianglesSpec.plain.varTypes Tryz.pinned.checked.prog).any (Tryz.pinned.checked.prog.loopsFrom ·)) = true := by kernel_rfl
theorem triangles_holds_c17 : (Rows.fnTrianglesRow.wideKeys == (Tryz.f3.params.toList ++ Rows.fnTrianglesSpec.plain.varTypes Tryz.pinned.checked.prog ++ Tryz.f3.resultTypes.toList).any (Tryz.pinned.checked.prog.wideKeysFrom ·)) = true := by kernel_rfl
theorem triangles_holds_c18 : (Rows.fnTrianglesSpec.vars.all (Tryz.pinned.checked.prog.varReadable ·)) = true := by kernel_rfl
theorem triangles_holds_c19 : (Tryz.f3.resultTypes.all (fun t => Tryz.pinned.checked.prog.readableRec t && decide (t < Tryz.pinned.checked.prog.types.size))) = true := by kernel_rfl
theorem triangles_holds_c20 : (Rows.fnTrianglesRow.ifacesOut == Tryz.f3.resultTypes.toList.any (Tryz.pinned.checked.prog.ifacesRec ·)) = true := by kernel_rfl
theorem triangles_holds_c21 : (Rows.fnTrianglesRow.loopsOut == Tryz.f3.resultTypes.toList.any (Tryz.pinned.checked.prog.loopsFrom ·)) = true := by kernel_rfl
theorem triangles_holds_c22 : (Rows.fnTrianglesRow.plainKeys == Tryz.pinned.checked.prog.plainKeys) = true := by kernel_rfl
theorem triangles_holds_c23 : (Rows.fnTrianglesRow.shortTexts.isNone) = true := by kernel_rfl
theorem triangles_holds_c24 : (Tryz.pinned.checked.prog.stopsHeard) = true := by kernel_rfl
theorem triangles_holds_c25 : (Tryz.pinned.checked.prog.mayEnter) = true := io_enter
theorem triangles_holds_c26 : (Rows.fnTrianglesRow.lifted == Tryz.pinned.checked.prog.liftsFinal) = true := by rw [io_lifts]; kernel_rfl
theorem triangles_holds_c27 : (Tryz.pinned.checked.prog.make == some Rows.fnTrianglesRow.make) = true := by rw [io_make]; kernel_rfl
theorem triangles_holds_c28 : (Rows.fnTrianglesRow.kinds == (if Rows.fnTrianglesRow.domain.isEmpty then [] else Tryz.f3.params.toList.map fun t => match Tryz.pinned.checked.prog.underlying t with | some (.int k) => some k | _ => none)) = true := by kernel_rfl
theorem triangles_holds_c29 : (Rows.fnTrianglesRow.pinned == Rows.fnTrianglesRow.pinnedBy) = true := by kernel_rfl
theorem triangles_holds_c30 : (Rows.fnTrianglesRow.veiled == (Tryz.f3.params.toList ++ Rows.fnTrianglesSpec.plain.varTypes Tryz.pinned.checked.prog ++ Tryz.f3.resultTypes.toList).any (Tryz.pinned.checked.prog.veiledRec ·)) = true := by kernel_rfl
theorem triangles_holds_c31 : (Rows.fnTrianglesRow.veiledFits Tryz.pinned.checked.prog Tryz.f3.params.toList (Tryz.f3.params.toList ++ Rows.fnTrianglesSpec.plain.varTypes Tryz.pinned.checked.prog ++ Tryz.f3.resultTypes.toList)) = true := by kernel_rfl
theorem triangles_holds_and {a b : Bool} (h : a = true) (k : b = true) : (a && b) = true := by rw [h, k]; rfl
theorem triangles_holds_closed : joinedFacts Tryz.pinned.checked.prog 3 Tryz.f3 Rows.fnTrianglesSpec Rows.fnTrianglesRow = true := (triangles_holds_and (triangles_holds_and (triangles_holds_and (triangles_holds_and (triangles_holds_and (triangles_holds_and (triangles_holds_and (triangles_holds_and (triangles_holds_and (triangles_holds_and (triangles_holds_and (triangles_holds_and (triangles_holds_and (triangles_holds_and (triangles_holds_and (triangles_holds_and (triangles_holds_and (triangles_holds_and (triangles_holds_and (triangles_holds_and (triangles_holds_and (triangles_holds_and (triangles_holds_and (triangles_holds_and (triangles_holds_and (triangles_holds_and (triangles_holds_and (triangles_holds_and (triangles_holds_and (triangles_holds_and (triangles_holds_and triangles_holds_c0 triangles_holds_c1) triangles_holds_c2) triangles_holds_c3) triangles_holds_c4) triangles_holds_c5) triangles_holds_c6) triangles_holds_c7) triangles_holds_c8) triangles_holds_c9) triangles_holds_c10) triangles_holds_c11) triangles_holds_c12) triangles_holds_c13) triangles_holds_c14) triangles_holds_c15) triangles_holds_c16) triangles_holds_c17) triangles_holds_c18) triangles_holds_c19) triangles_holds_c20) triangles_holds_c21) triangles_holds_c22) triangles_holds_c23) triangles_holds_c24) triangles_holds_c25) triangles_holds_c26) triangles_holds_c27) triangles_holds_c28) triangles_holds_c29) triangles_holds_c30) triangles_holds_c31)
theorem triangles_holds_named : Tryz.pinned.checked.prog.funcNamed Rows.fnTrianglesRow.func = some 3 := by kernel_rfl
theorem triangles_holds_inst : Tryz.f3.isInstance Tryz.pinned.checked.prog Rows.fnTrianglesRow.origin Rows.fnTrianglesRow.targs := of_decide_eq_true (by kernel_rfl)
theorem triangles_holds_wrap : Tryz.f3.isWrapper Tryz.pinned.checked.prog Rows.fnTrianglesRow.wrapper Rows.fnTrianglesRow.mainSum := by unfold Func.isWrapper; first | (rw [if_pos (by decide +kernel)]; kernel_rfl) | (rw [if_neg (by decide +kernel)]; exact ⟨rfl, rfl⟩)
theorem triangles_holds : Rows.FnTrianglesSaid :=
  OpenClaim.holds_of_wide 3 Tryz.f3 rfl rfl rfl rfl rfl rfl rfl ⟨rfl, rfl, rfl, rfl, rfl⟩ rfl rfl rfl rfl rfl triangles_holds_named Tryz.func3 triangles_holds_closed triangles_holds_inst triangles_holds_wrap
    (fun os started H enc _ => triangles_holds_lifted os started H enc)
#print axioms triangles_holds
end Go.Proofs.YtomekmhonfofkaaGreat
