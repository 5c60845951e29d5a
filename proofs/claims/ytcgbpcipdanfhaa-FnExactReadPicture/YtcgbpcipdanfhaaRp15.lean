/- ReadPicture of the specification, by value. No condition beyond those typed. Written by mkrt15b.py. -/
import Derived.Test.YtcgbpcipdanfhaaPq15
import Derived.Laws.Strings
namespace Go.Proofs.Ytcgbpcipdanfhaa
open Go.RowKit
set_option linter.unusedVariables false
set_option maxRecDepth 100000
set_option linter.unusedSimpArgs false

theorem ext_list (s : ByteArray) (i j : Nat) : (s.extract i j).toList = (s.data.toList.drop i).take (j - i) := by
  rw [ByteArray.toList_eq, Lib.extract_data]
theorem wm_of {q : Int} (h : 1 ≤ q ∧ q ≤ 100) : IntKind.i64.wrap q = q := by rw [IntKind.wrap_i64]; omega
theorem sp_no {bs : List UInt8} (q : spOK bs = false) : rpW bs = 0 ∧ rpH bs = 0 ∧ rpL bs = [] ∧ rpB bs = false := by
  have : rpB bs = false := by rw [← sp_eq]; exact q
  unfold rpW rpH rpL
  rw [this]
  exact ⟨rfl, rfl, rfl, rfl⟩
theorem lpE_le {bs : List UInt8} (h : 3 ≤ bs.length) : lpE bs 3 32 ≤ bs.length := by
  unfold lpE
  split
  · rename_i ok
    unfold lpOK at ok
    have ok2 := ((Bool.and_eq_true _ _).mp ok).2
    have hd : (bs.drop (lpK bs 3)).head? = some 32 := by simpa using ok2
    have lt : lpK bs 3 < bs.length := by
      rcases Nat.lt_or_ge (lpK bs 3) bs.length with q | q
      · exact q
      · rw [List.drop_eq_nil_of_le q] at hd; cases hd
    exact lpK_le (by omega)
  · exact h
set_option maxHeartbeats 8000000 in
theorem ReadPictureS (s : ByteArray) (w : World) (hs : s.size ≤ 1048576) :
    Calls Try.prog 23 #[.string s] w fun e w' => ∃ a' n' c', e = .returned (.tuple #[.int .i64 (rpW s.data.toList), .int .i64 (rpH s.data.toList), .slice a' n' c', .bool (rpB s.data.toList)]) ∧ Below w.heap.size w w' ∧ RtI w.heap.size w' a' n' c' (rpL s.data.toList) ∧ n' ≤ 1048576 := by
  obtain ⟨i0, hi0, hz0, hz1, hz2⟩ := info_parts Try.info3
  have C1 := hide (fun (h : 3 ≤ s.size) w => pairS15 s 3 32 w h hs)
  have XL := hide (fun i j => ext_list s i j)
  obtain ⟨bs, hbs⟩ : ∃ bs, bs = s.data.toList := ⟨_, rfl⟩
  have hl : bs.length = s.size := by rw [hbs, size_list]
  have IX : Hid (∀ i (h : i < s.size), ∃ h2 : i < bs.length, s[i]'h = bs[i]) := hide (fun i h => ⟨by omega, by subst hbs; rfl⟩)
  rw [← hbs] at C1 XL ⊢
  have HL := hide hl
  clear hbs
  have NO : Hid (spOK bs = false → rpW bs = 0 ∧ rpH bs = 0 ∧ rpL bs = [] ∧ rpB bs = false) := hide (sp_no (bs := bs))
  have HB := hide (Below.refl w.heap.size w)
  by_cases g3 : 3 ≤ s.size
  · have d1 : decide ((s.size : Int) < 3) = false := decide_eq_false (by omega)
    have d1' : ¬ ((s.size : Int) < 3) := by omega
    by_cases g2 : s.size ≤ 200
    · have d2 : decide ((200 : Int) < (s.size : Int)) = false := decide_eq_false (by omega)
      have d2' : ¬ ((200 : Int) < (s.size : Int)) := by omega
      have x3 := unhide XL 0 3
      rw [List.drop_zero] at x3
      cases g4 : (bs.take 3 == [80, 53, 10])
      · have d3 : ((s.extract 0 3).toList == [80, 53, 10]) = false := by rw [x3]; exact g4
        have F := unhide NO (by unfold spOK; rw [g4]; simp)
        rw [F.1, F.2.1, F.2.2.1, F.2.2.2]
        clear F NO
        clear C1 XL IX hl x3 g4
        go_enter Try.func23, Try.ntmps23
        go_wp2_with fail
        (try simp only [Exit.inBlock, Exit.then])
        refine bodyPost_ret (results_tmp4 rfl _ _ _) rfl ?_
        exact ⟨none, 0, 0, rfl, unhide HB, rti_nil15, by omega⟩
      · have d3 : ((s.extract 0 3).toList == [80, 53, 10]) = true := by rw [x3]; exact g4
        have C2 := hide (unhide C1 g3)
        have SP : Hid (spOK bs = (((inR (lpA bs 3 32) 1 10 && inR (lpB bs 3 32) 1 10) && (((bs.length : Int) - (lpE bs 3 32 : Int)) == 5 + lpA bs 3 32 * lpB bs 3 32)) && ((bs.drop (lpE bs 3 32)).take 5 == [10, 50, 53, 53, 10]))) := hide (by
          unfold spOK
          rw [g4, decide_eq_true (show 3 ≤ bs.length by omega), decide_eq_true (show bs.length ≤ 200 by omega)]
          simp only [Bool.true_and])
        have VAL : Hid (spOK bs = true → lpA bs 3 32 = (ppW bs : Int) ∧ lpB bs 3 32 = (ppH bs : Int) ∧ bs.drop (lpE bs 3 32 + 5) = ppX bs) := hide sp_vals
        clear C1 g4 x3
        have IA := hide (fun w => inS15 (lpA bs 3 32) w)
        have IB := hide (fun w => inS15 (lpB bs 3 32) w)
        obtain ⟨A, hA⟩ : ∃ A, A = lpA bs 3 32 := ⟨_, rfl⟩
        obtain ⟨B, hB⟩ : ∃ B, B = lpB bs 3 32 := ⟨_, rfl⟩
        obtain ⟨E, hE⟩ : ∃ E, E = lpE bs 3 32 := ⟨_, rfl⟩
        rw [← hA, ← hB, ← hE] at C2 SP VAL
        rw [← hA] at IA
        rw [← hB] at IB
        have HE : Hid (E ≤ bs.length) := hide (by rw [hE]; exact lpE_le (by omega))
        clear hA hB hE
        cases gA : inR A 1 10
        · rw [gA] at IA
          have F := unhide NO (by rw [unhide SP, gA]; rfl)
          rw [F.1, F.2.1, F.2.2.1, F.2.2.2]
          clear F NO
          clear XL IX hl gA SP VAL IB
          go_enter Try.func23, Try.ntmps23
          go_wp2_with fail
          refine (unhide C2 _).mono ?_
          rintro e w1 ⟨rfl, hb⟩
          replace HB := hide (below_on (unhide HB) hb)
          clear hb
          go_wp2_with fail
          refine (unhide IA _).mono ?_
          rintro e w2 ⟨rfl, rfl⟩
          go_wp2_with fail
          (try simp only [Exit.inBlock, Exit.then])
          refine bodyPost_ret (results_tmp4 rfl _ _ _) rfl ?_
          exact ⟨none, 0, 0, rfl, unhide HB, rti_nil15, by omega⟩
        · rw [gA] at IA
          cases gB : inR B 1 10
          · rw [gB] at IB
            have F := unhide NO (by rw [unhide SP, gA, gB]; rfl)
            rw [F.1, F.2.1, F.2.2.1, F.2.2.2]
            clear F NO
            clear XL IX hl gA gB SP VAL
            go_enter Try.func23, Try.ntmps23
            go_wp2_with fail
            refine (unhide C2 _).mono ?_
            rintro e w1 ⟨rfl, hb⟩
            replace HB := hide (below_on (unhide HB) hb)
            clear hb
            go_wp2_with fail
            refine (unhide IA _).mono ?_
            rintro e w2 ⟨rfl, rfl⟩
            go_wp2_with fail
            refine (unhide IB _).mono ?_
            rintro e w3 ⟨rfl, rfl⟩
            go_wp2_with fail
            (try simp only [Exit.inBlock, Exit.then])
            refine bodyPost_ret (results_tmp4 rfl _ _ _) rfl ?_
            exact ⟨none, 0, 0, rfl, unhide HB, rti_nil15, by omega⟩
          · rw [gB] at IB
            have ra := inR_in15 gA
            have rb := inR_in15 gB
            have mb := mul15 ra rb
            have wm : wrap64 (A * B) = A * B := by unfold wrap64; omega
            have wm1 : IntKind.i64.wrap (A * B) = A * B := wm_of mb
            have wm2 : IntKind.i64.wrap (5 + A * B) = 5 + A * B := by rw [IntKind.wrap_i64]; omega
            have wm3 : wrap64 (5 + A * B) = 5 + A * B := by unfold wrap64; omega
            have EL : E ≤ 300 ∨ 300 < E := by omega
            by_cases eq : (s.size : Int) - (E : Int) = 5 + A * B
            · have eE : E + 5 ≤ s.size := by omega
              have wd : IntKind.i64.wrap ((s.size : Int) - (E : Int)) = (s.size : Int) - (E : Int) := by rw [IntKind.wrap_i64]; omega
              have dn : ((s.size : Int) - (E : Int) != 5 + A * B) = false := by rw [eq]; simp
              have w5 : IntKind.i64.wrap ((E : Int) + 5) = (E : Int) + 5 := by rw [IntKind.wrap_i64]; omega
              have xE := unhide XL E (E + 5)
              rw [show E + 5 - E = 5 by omega] at xE
              have s1 : (0 : Int) ≤ (E : Int) := by omega
              have s2 : (E : Int) ≤ (E : Int) + 5 := by omega
              have s3 : (E : Int) + 5 ≤ (s.size : Int) := by omega
              have s4 : ((E : Int) + 5).toNat = E + 5 := by omega
              cases gM : ((bs.drop E).take 5 == [10, 50, 53, 53, 10])
              · have dM : ((s.extract E (E + 5)).toList == [10, 50, 53, 53, 10]) = false := by rw [xE]; exact gM
                have F := unhide NO (by rw [unhide SP, gM]; simp)
                rw [F.1, F.2.1, F.2.2.1, F.2.2.2]
                clear F NO
                replace eq := hide eq
                clear XL IX hl gA gB gM SP VAL xE ra rb mb EL
                go_enter Try.func23, Try.ntmps23
                go_wp2_with fail
                refine (unhide C2 _).mono ?_
                rintro e w1 ⟨rfl, hb⟩
                replace HB := hide (below_on (unhide HB) hb)
                clear hb
                go_wp2_with fail
                refine (unhide IA _).mono ?_
                rintro e w2 ⟨rfl, rfl⟩
                go_wp2_with fail
                refine (unhide IB _).mono ?_
                rintro e w3 ⟨rfl, rfl⟩
                go_wp2_with fail
                (try simp only [Exit.inBlock, Exit.then])
                refine bodyPost_ret (results_tmp4 rfl _ _ _) rfl ?_
                exact ⟨none, 0, 0, rfl, unhide HB, rti_nil15, by omega⟩
              · have dM : ((s.extract E (E + 5)).toList == [10, 50, 53, 53, 10]) = true := by rw [xE]; exact gM
                have OK : spOK bs = true := by rw [unhide SP, gA, gB, gM, hl, show ((s.size : Int) - (E : Int) == 5 + A * B) = true by rw [eq]; simp]; rfl
                have V := unhide VAL OK
                have RB : rpB bs = true := by rw [← sp_eq]; exact OK
                have RE : rpW bs = A ∧ rpH bs = B ∧ rpL bs = tB (bs.drop (E + 5)) := by unfold rpW rpH rpL; rw [RB, ← V.1, ← V.2.1, ← V.2.2]; exact ⟨rfl, rfl, rfl⟩
                rw [RE.1, RE.2.1, RE.2.2, RB]
                have LT : Hid ((tB (bs.drop (E + 5))).length ≤ 1048576) := hide (by rw [tB_len, List.length_drop]; omega)
                replace eq := hide eq
                clear XL gA gB gM SP VAL xE ra rb mb EL NO OK V RB RE hl
                go_enter Try.func23, Try.ntmps23
                go_wp2_with fail
                refine (unhide C2 _).mono ?_
                rintro e w1 ⟨rfl, hb⟩
                replace HB := hide (below_on (unhide HB) hb)
                clear hb
                go_wp2_with fail
                refine (unhide IA _).mono ?_
                rintro e w2 ⟨rfl, rfl⟩
                go_wp2_with fail
                refine (unhide IB _).mono ?_
                rintro e w3 ⟨rfl, rfl⟩
                go_wp2
                go_loopw [9, 10] (fun v kv wr => ∃ (k : Nat) (v1 : Value), v1 = v ∧ kv = .int .i64 (k : Int) ∧ E + 5 ≤ k ∧ k ≤ s.size ∧ Hid (RwI w.heap.size wr v1 (tB ((bs.drop (E + 5)).take (k - (E + 5))))) ∧ Hid (Below w.heap.size w wr)) (fun _ kv _ => s.size - (intOf kv).toNat)
                case atStart => exact ⟨E + 5, _, rfl, by simp, by omega, by omega, hide (by simpa [tB] using RwI.nil w.heap.size _), HB⟩
                case round =>
                  clear HB C2 IA IB
                  obtain ⟨k, v1, rfl, rfl, k1, k2, HR, HB⟩ := hrel
                  by_cases hlt : k < s.size
                  · have hlt' : (k : Int) < (s.size : Int) := by omega
                    obtain ⟨hk, e0⟩ := unhide IX k hlt
                    obtain ⟨c, hc⟩ : ∃ c, c = bs[k] := ⟨_, rfl⟩
                    rw [← hc] at e0
                    have hd : k - (E + 5) < (bs.drop (E + 5)).length := by rw [List.length_drop]; omega
                    have ce : (bs.drop (E + 5))[k - (E + 5)] = c := by rw [hc, List.getElem_drop]; congr 1; omega
                    have TK : Hid (tB ((bs.drop (E + 5)).take (k + 1 - (E + 5))) = tB ((bs.drop (E + 5)).take (k - (E + 5))) ++ [(c.toNat : Int)]) := hide (by
                      rw [show k + 1 - (E + 5) = (k - (E + 5)) + 1 by omega, (List.take_append_getElem hd).symm, ce]; simp [tB])
                    have wc : IntKind.i64.wrap (c.toNat : Int) = (c.toNat : Int) := by have := UInt8.toNat_lt c; rw [IntKind.wrap_i64]; omega
                    have wk : IntKind.i64.wrap ((k : Int) + 1) = (k : Int) + 1 := by rw [IntKind.wrap_i64]; omega
                    have LB : Hid ((tB ((bs.drop (E + 5)).take (k - (E + 5)))).length ≤ 200) := hide (by rw [tB_len, List.length_take]; have := unhide HL; simp; omega)
                    clear hc hd ce
                    go_wp2_with (at_builtin; refine wpList_append_own _ rfl (.tmp 65) (.tmp 70) 29 rfl w.heap.size 3 i0 (.int .i64 0) 1 8 Try.underlying29 hi0 hz0 hz1 hz2 rfl (by decide) _ _ _ rfl ((unhide HR).row.alloc _) ⟨_, 0, none⟩ 1 1 [.int .i64 (c.toNat : Int)] rfl rfl (new_cellI _ _) (fun u hu => by simp at hu; subst hu; rfl) (by unfold maxLen; have := unhide LB; omega) (by have := unhide LB; omega) (by have := (unhide HB).size; simp; omega) ?_)
                    intro v' w7 hown hgr _
                    have RN : Hid (RwI w.heap.size w7 v' (tB ((bs.drop (E + 5)).take (k + 1 - (E + 5))))) := hide (by
                      rw [unhide TK]
                      exact RwI.snoc hown)
                    have HB2 := hide (owns_belowR (unhide HB) (unhide HB).size (unhide HR).row hgr)
                    clear hown hgr HR HB LB
                    go_wp2
                    go_roundw
                    case rel => exact ⟨k + 1, _, rfl, by simp, by omega, by omega, RN, HB2⟩
                    case measure => simp [intOf]; omega
                  · obtain rfl : k = s.size := by omega
                    have ET : (bs.drop (E + 5)).take (s.size - (E + 5)) = bs.drop (E + 5) := List.take_of_length_le (by rw [List.length_drop, unhide HL]; exact Nat.le_refl _)
                    rw [ET] at HR
                    clear ET IX
                    obtain ⟨a', c', rfl, r⟩ := (unhide HR).rt
                    have hnl : ¬ ((s.size : Int) < (s.size : Int)) := by omega
                    go_wp2
                    (try simp only [Exit.inBlock, Exit.then])
                    refine bodyPost_ret (results_tmp4 rfl _ _ _) rfl ?_
                    exact ⟨_, _, _, rfl, unhide HB, r, unhide LT⟩
            · have dn : ((s.size : Int) - (E : Int) != 5 + A * B) = true := by simpa using eq
              have EB : E ≤ s.size := by have := unhide HE; omega
              have wd : IntKind.i64.wrap ((s.size : Int) - (E : Int)) = (s.size : Int) - (E : Int) := by rw [IntKind.wrap_i64]; omega
              have F := unhide NO (by rw [unhide SP, hl, show ((s.size : Int) - (E : Int) == 5 + A * B) = false from beq_eq_false_iff_ne.2 eq]; simp)
              rw [F.1, F.2.1, F.2.2.1, F.2.2.2]
              clear F NO
              clear XL IX hl gA gB SP VAL ra rb mb EL eq
              go_enter Try.func23, Try.ntmps23
              go_wp2_with fail
              refine (unhide C2 _).mono ?_
              rintro e w1 ⟨rfl, hb⟩
              replace HB := hide (below_on (unhide HB) hb)
              clear hb
              go_wp2_with fail
              refine (unhide IA _).mono ?_
              rintro e w2 ⟨rfl, rfl⟩
              go_wp2_with fail
              refine (unhide IB _).mono ?_
              rintro e w3 ⟨rfl, rfl⟩
              go_wp2_with fail
              (try simp only [Exit.inBlock, Exit.then])
              refine bodyPost_ret (results_tmp4 rfl _ _ _) rfl ?_
              exact ⟨none, 0, 0, rfl, unhide HB, rti_nil15, by omega⟩
    · have d2 : decide ((200 : Int) < (s.size : Int)) = true := decide_eq_true (by omega)
      have d2' : (200 : Int) < (s.size : Int) := by omega
      have F := unhide NO (by unfold spOK; rw [decide_eq_false (show ¬ bs.length ≤ 200 by omega)]; simp)
      rw [F.1, F.2.1, F.2.2.1, F.2.2.2]
      clear F NO
      clear C1 XL IX hl
      go_enter Try.func23, Try.ntmps23
      go_wp2_with fail
      (try simp only [Exit.inBlock, Exit.then])
      refine bodyPost_ret (results_tmp4 rfl _ _ _) rfl ?_
      exact ⟨none, 0, 0, rfl, unhide HB, rti_nil15, by omega⟩
  · have d1 : decide ((s.size : Int) < 3) = true := decide_eq_true (by omega)
    have d1' : (s.size : Int) < 3 := by omega
    have F := unhide NO (by unfold spOK; rw [decide_eq_false (show ¬ 3 ≤ bs.length by omega)]; simp)
    rw [F.1, F.2.1, F.2.2.1, F.2.2.2]
    clear F NO
    clear C1 XL IX hl
    go_enter Try.func23, Try.ntmps23
    go_wp2_with fail
    (try simp only [Exit.inBlock, Exit.then])
    refine bodyPost_ret (results_tmp4 rfl _ _ _) rfl ?_
    exact ⟨none, 0, 0, rfl, unhide HB, rti_nil15, by omega⟩
end Go.Proofs.Ytcgbpcipdanfhaa
