/- ReadBig of the specification, by value. No condition beyond those typed. Written by mkrb16.py. -/
import Derived.Test.YtdgonpbponnnaaaRb16
import Derived.Test.YtdgonpbponnnaaaRg16
import Derived.Test.YtdgonpbponnnaaaBt16
import Derived.Test.YtdgonpbponnnaaaMulI
import Derived.Test.YtdgonpbponnnaaaAddT
import Derived.Test.YtdgonpbponnnaaaSgn
namespace Go.Proofs.Ytdgonpbponnnaaa
open Go.RowKit
set_option linter.unusedVariables false
set_option maxRecDepth 100000
set_option linter.unusedSimpArgs false

theorem nm_pow16 {zs : List Int} {V i : Nat} (h : Nm zs (V : Int)) (hv : V < 10 ^ i) : zs.length ≤ i := by
  by_cases hl : zs.length ≤ i
  · exact hl
  · have a := top_le h.ok h.tr (by omega)
    have b := pow_mono (show i ≤ zs.length - 1 by omega)
    rw [h.v] at a
    have c : ((65536 ^ i : Nat) : Int) = (65536 : Int) ^ i := by rw [Int.natCast_pow]; rfl
    have d : ((65536 ^ i : Nat) : Int) ≤ (V : Int) := by rw [c]; exact Int.le_trans b a
    have e := Int.ofNat_le.1 d
    have f := Nat.pow_le_pow_left (show 10 ≤ 65536 by omega) i
    exact absurd hv (Nat.not_lt.2 (Nat.le_trans f e))
theorem dgN_lt : ∀ (l : List UInt8) (m n : Nat), dgN m l = some n → n < (m + 1) * 10 ^ l.length
  | [], m, n, h => by simp [dgN] at h; subst h; simp
  | c :: l, m, n, h => by
    simp only [dgN] at h
    split at h
    · cases h
    · have ih := dgN_lt l _ _ h
      have lt := UInt8.toNat_lt c
      refine Nat.lt_of_lt_of_le ih ?_
      rw [List.length_cons, Nat.pow_succ, show (m + 1) * (10 ^ l.length * 10) = (10 * m + 10) * 10 ^ l.length by rw [Nat.mul_comm (10 ^ l.length) 10, ← Nat.mul_assoc]; congr 1; omega]
      exact Nat.mul_le_mul_right _ (by omega)
theorem sd_nat16 (g : Bool) (n : Nat) : sd g (n : Int) = (g && decide (n ≠ 0)) := by
  unfold sd
  cases g
  · simp
  · by_cases h : n = 0
    · subst h; simp
    · simp [h]; omega
theorem outRB_no0 {w w2 : World} (hb : Below w.heap.size w w2) : OutRB w 0 false (.returned (.tuple #[.agg #[.bool false, .slice none 0 0], .bool false])) w2 := ⟨none, 0, 0, [], rfl, hb, .inl rfl, Arg.none _, Nm.zero, by omega⟩
/-- The box of the answer, not yet written. -/
structure Bz16 (b : Nat) (w : World) : Prop where
  c0 : w.cell? ⟨b, 0, none⟩ = some (.bool false)
  c1 : w.cell? ⟨b, 1, none⟩ = some (.slice none 0 0)
  fz : ∀ o, w.frozen? ⟨b, o, none⟩ = false
theorem Bz16.lt {b : Nat} {w : World} (h : Bz16 b w) : b < w.heap.size := World.block_lt_of_cell? _ _ h.c0
theorem Bz16.later {b : Nat} {w w' : World} (h : Bz16 b w) (hb : Below w.heap.size w w') : Bz16 b w' := ⟨cell_later hb h.c0, cell_later hb h.c1, fun o => frozen_later hb h.lt (h.fz o)⟩
theorem Bz16.start (w : World) : Bz16 w.heap.size (w.alloc (.cells #[.bool false, .slice none 0 0] 24)) := ⟨by simp [go_sem], by simp [go_sem], fun o => by simp [go_sem]⟩
theorem st_cmp {a b : List UInt8} : (st a != st b) = !decide (a = b) := by
  by_cases h : a = b
  · subst h; rw [st_ne]; simp
  · rw [decide_eq_false h]
    show (!((st a).data == (st b).data)) = true
    simp [st, h]
set_option maxHeartbeats 16000000 in
theorem ReadBigS (s : ByteArray) (w : World) (hs : s.size ≤ 1048576) :
    Calls Try.prog 4 #[.string s] w (OutRB w (rbV s.data.toList) (rbB s.data.toList)) := by
  obtain ⟨bs, hbs⟩ : ∃ bs, bs = s.data.toList := ⟨_, rfl⟩
  have hl : bs.length = s.size := by rw [hbs]; exact size_list s
  rw [← hbs]
  obtain ⟨D, hD⟩ : ∃ D, D = rbD bs := ⟨_, rfl⟩
  have HB0 : Hid (Below w.heap.size w (w.alloc (.cells #[.bool false, .slice none 0 0] 24))) := hide ((Below.refl _ _).alloc (Nat.le_refl _) _)
  have CB0 := hide (Bz16.start w)
  by_cases g : rbN bs = true
  · have NG : rbN bs = true := g
    have htl := rb_neg g
    rw [← hD] at htl
    have hp0 : 0 < s.size := by rw [← hl, htl]; simp
    have hp0' : (0 : Int) < (s.size : Int) := by omega
    have hp1 : 1 ≤ s.size := by omega
    have dp : decide ((0 : Int) < (s.size : Int)) = true := decide_eq_true hp0'
    have i0 : s[0]'hp0 = 45 := by
      have e : s[0]'hp0 = s.data.toList[0]'(by simpa using hp0) := rfl
      rw [e]
      have : s.data.toList[0]? = some 45 := by rw [← hbs, htl]; rfl
      exact (List.getElem?_eq_some_iff.1 this).2
    have TD : (s.extract 1 s.size).data.toList = D := by
      rw [Lib.extract_data, ← hbs]
      have e2 : bs.drop 1 = D := by rw [htl]; rfl
      rw [e2, List.take_of_length_le]
      have := congrArg List.length htl
      rw [List.length_cons] at this
      omega
    have TDH := hide TD
    have hDH := hide hD
    have hbsH := hide hbs
    have hlH := hide hl
    have NGH := hide NG
    clear TD hD hbs hl NG g htl
    go_enter Try.func4, Try.ntmps4
    go_upto_region 5 with fail
    have NG := unhide NGH
    have TD := unhide TDH
    have hD := unhide hDH
    have hbs := unhide hbsH
    have hl := unhide hlH
    clear TDH hDH hbsH hlH NGH
    generalize s.extract 1 s.size = T at *
    have TS : Hid (T.size = D.length) := hide (by rw [← TD, size_list])
    have IX : Hid (∀ i (h : i < T.size), ∃ h2 : i < D.length, T[i]'h = D[i]) := hide (fun i h => ⟨by have := unhide TS; omega, by subst TD; rfl⟩)
    clear dp i0 hp0 hp0' hp1 TD
    have CL := hide (fun w' => l1In_any (T.size : Int) 1 200 w')
    have HD := hide hD
    have HBS := hide hbs
    by_cases t1 : 1 ≤ T.size
    · by_cases t2 : T.size ≤ 200
      · have T1 := hide t1
        have T2 := hide t2
        rw [decide_eq_true (show (1 : Int) ≤ (T.size : Int) by omega), decide_eq_true (show (T.size : Int) ≤ 200 by omega)] at CL
        clear hD hbs hl
        go_wp2_with fail
        refine (unhide CL _).mono ?_
        rintro e w1 ⟨rfl, rfl⟩
        clear t1 t2
        go_wp2
        go_loopw [6, 7] (fun lv iv wr => ∃ (i n : Nat) (L : List Int) (la : Option Addr) (ln lc : Nat), i ≤ T.size ∧ iv = .int .i64 (i : Int) ∧ lv = .slice la ln lc ∧ ln ≤ 200 ∧ Hid (dgN 0 (D.take i) = some n) ∧ Hid (Arg wr la ln lc L) ∧ Hid (Own (w.heap.size + 1) wr la L) ∧ Hid (Nm L (n : Int)) ∧ Hid (Bz16 w.heap.size wr) ∧ Hid (Below w.heap.size w wr)) (fun _ iv _ => T.size - (intOf iv).toNat)
        case atStart => exact ⟨0, 0, [], none, 0, 0, Nat.zero_le _, rfl, rfl, by omega, hide rfl, hide (Arg.none _), hide (.inl rfl), hide Nm.zero, CB0, HB0⟩
        case round =>
          clear CB0 HB0
          obtain ⟨i, n, L, la, ln, lc, hi, rfl, rfl, l2, DG, AL, OL, NL, CB, HB⟩ := hrel
          by_cases hlt : i < T.size
          · have hlt' : (i : Int) < (T.size : Int) := by omega
            have hiD : i < D.length := by have := unhide TS; omega
            obtain ⟨_, e0⟩ := unhide IX i hlt
            obtain ⟨cc, hcc⟩ : ∃ z, z = D[i] := ⟨_, rfl⟩
            rw [← hcc] at e0
            have TK : D.take (i + 1) = D.take i ++ [cc] := by rw [hcc]; exact (List.take_append_getElem hiD).symm
            by_cases dg : 48 ≤ cc.toNat ∧ cc.toNat ≤ 57
            · obtain ⟨d, hd⟩ : ∃ d : Nat, cc.toNat = 48 + d := ⟨cc.toNat - 48, by omega⟩
              have DG2 : Hid (dgN 0 (D.take (i + 1)) = some (10 * n + d)) := hide (by
                rw [TK, dgN_snoc, unhide DG]
                simp only [Option.bind_some, dgN]
                rw [if_neg (by omega), show cc.toNat - 48 = d by omega])
              have NB0 := dgN_lt _ _ _ (unhide DG)
              rw [Nat.zero_add, Nat.one_mul, List.length_take_of_le (Nat.le_of_lt hiD)] at NB0
              have NB : Hid (10 * n < 10 ^ (i + 1)) := hide (by rw [Nat.pow_succ]; omega)
              have NB2 := dgN_lt _ _ _ (unhide DG2)
              rw [Nat.zero_add, Nat.one_mul, List.length_take_of_le (show i + 1 ≤ D.length by omega)] at NB2
              have i2 : i + 1 ≤ 200 := by have := unhide TS; have := unhide T2; omega
              have NBB := hide NB2
              have CM := hide (fun (w' : World) (x : Nat) (k : Arg w' la ln lc L) (k2 : Arg w' (some ⟨x, 0, none⟩) 1 1 [10]) => (show Calls Try.prog 12 #[.slice la ln lc, .slice (some ⟨x, 0, none⟩) 1 1] w' (Out w' ((10 * n : Nat) : Int)) from by
                have h := mulS_any la (some ⟨x, 0, none⟩) ln 1 lc 1 L [10] w' k k2 (unhide NL).ok (okL_one (by omega) (by omega)) (by omega) (by omega)
                rw [(unhide NL).v, show val [(10 : Int)] = 10 by simp [val], show (n : Int) * 10 = ((10 * n : Nat) : Int) by omega] at h
                exact h))
              have CA := hide (fun (w' : World) (x : Nat) (b : Option Addr) (m c2 : Nat) (zs : List Int) (k : Arg w' b m c2 zs) (k2 : Arg w' (some ⟨x, 0, none⟩) 1 1 [(d : Int)]) (nz : Nm zs ((10 * n : Nat) : Int)) (hm : m ≤ 1000) => (show Calls Try.prog 11 #[.slice b m c2, .slice (some ⟨x, 0, none⟩) 1 1] w' (OutU w' ((10 * n + d : Nat) : Int) (max m 1 + 1)) from by
                have h := addS_any b (some ⟨x, 0, none⟩) m 1 c2 1 zs [(d : Int)] w' k k2 nz.ok (okL_one (by omega) (by omega)) (by omega) (by omega)
                rw [nz.v, show val [(d : Int)] = (d : Int) by simp [val], show ((10 * n : Nat) : Int) + (d : Int) = ((10 * n + d : Nat) : Int) by omega] at h
                exact h))
              have b1 : ¬ ((cc.toNat : Int) < 48) := by omega
              have b2 : ¬ ((57 : Int) < (cc.toNat : Int)) := by omega
              have b1d : decide ((cc.toNat : Int) < 48) = false := decide_eq_false b1
              have b2d : decide ((57 : Int) < (cc.toNat : Int)) = false := decide_eq_false b2
              have w1 : IntKind.u8.wrap ((cc.toNat : Int) - 48) = (d : Int) := by rw [IntKind.wrap_u8]; omega
              have w2 : IntKind.i64.wrap (d : Int) = (d : Int) := by rw [IntKind.wrap_i64]; omega
              clear hcc TK dg hd NB0 NB2 OL hiD DG
              go_upto_region 13 with fail
              refine wp_region_held_drew (S := fun _ => True) (by kernel_rfl) trivial (fun hHeld => ?_)
              simp only [List.size_toArray, List.length_cons, List.length_nil, Nat.reduceAdd, Array.replicate_succ, Array.replicate_zero, List.push_toArray, List.nil_append, List.cons_append]
              refine wpAnyH_take (i := 0) (v := .slice la ln lc) rfl (by kernel_rfl) (by kernel_rfl) (by kernel_rfl) (fun _ _ _ h => h) (Or.inl ⟨by rfl, by intro w hSw; (try dsimp only at hSw); go_simp⟩) hHeld ?_
              simp only [Act.put, List.setIfInBounds_toArray, List.set_cons_zero, List.set_cons_succ]
              refine wpAnyH_take (i := 3) (v := .string T) rfl (by kernel_rfl) (by kernel_rfl) (by kernel_rfl) (fun _ _ _ h => h) (Or.inl ⟨by rfl, by intro w hSw; (try dsimp only at hSw); go_simp⟩) hHeld ?_
              simp only [Act.put, List.setIfInBounds_toArray, List.set_cons_zero, List.set_cons_succ]
              refine wpAnyH_take (i := 4) (v := .int .i64 (i : Int)) rfl (by kernel_rfl) (by kernel_rfl) (by kernel_rfl) (fun _ _ _ h => h) (Or.inl ⟨by rfl, by intro w hSw; (try dsimp only at hSw); go_simp⟩) hHeld ?_
              simp only [Act.put, List.setIfInBounds_toArray, List.set_cons_zero, List.set_cons_succ]
              refine wpAnyH_take (i := 5) (v := .int .u8 (cc.toNat : Int)) rfl (by kernel_rfl) (by kernel_rfl) (by kernel_rfl) (fun _ _ _ h => h) (Or.inl ⟨by rfl, by intro w hSw; (try dsimp only at hSw); go_simp⟩) hHeld ?_
              simp only [Act.put, List.setIfInBounds_toArray, List.set_cons_zero, List.set_cons_succ]
              refine wpAnyH_take (i := 6) (v := .int .u8 (d : Int)) rfl (by kernel_rfl) (by kernel_rfl) (by kernel_rfl) (fun _ _ _ h => h) (Or.inl ⟨by rfl, by intro w hSw; (try dsimp only at hSw); go_simp⟩) hHeld ?_
              simp only [Act.put, List.setIfInBounds_toArray, List.set_cons_zero, List.set_cons_succ]
              refine wpAnyH_take (i := 7) (v := .int .i64 (d : Int)) rfl (by kernel_rfl) (by kernel_rfl) (by kernel_rfl) (fun _ _ _ h => h) (Or.inl ⟨by rfl, by intro w hSw; (try dsimp only at hSw); go_simp⟩) hHeld ?_
              simp only [Act.put, List.setIfInBounds_toArray, List.set_cons_zero, List.set_cons_succ]
              have BD := (Below.refl wr.heap.size wr).drew
              replace AL := hide ((unhide AL).later BD)
              replace CB := hide ((unhide CB).later BD)
              replace HB := hide (below_on (unhide HB) BD)
              clear BD
              generalize wr.drew = w0 at *
              refine wpAnyH_ready (rs := [1, 8]) (by kernel_rfl) (by simp) (AllReadyH.cons rfl (fun K hK => ?a1) (AllReadyH.cons rfl (fun K hK => ?a2) AllReadyH.nil))
              case a1 =>
                go_simp
                have AT := hide (one_arg w0 (10)).1
                have al : Below (w0).heap.size w0 ((w0).alloc (.cells #[.int .i64 (10)] 3)) := (Below.refl _ _).alloc (Nat.le_refl _) _
                replace AL := hide ((unhide AL).later al)
                replace CB := hide ((unhide CB).later al)
                replace HB := hide (below_on (unhide HB) al)
                clear al
                refine hK.out _ _ trivial (fun hHeld2 => ?_)
                clear hK K hHeld
                have hHeld := hHeld2
                clear hHeld2
                simp only [Act.put, List.setIfInBounds_toArray, List.set_cons_zero, List.set_cons_succ]
                generalize (w0.alloc (.cells #[.int .i64 (10)] 3)) = wA at *
                refine wpAnyH_ready (rs := [2, 8]) (by kernel_rfl) (by simp) (AllReadyH.cons rfl (fun K hK => ?b1) (AllReadyH.cons rfl (fun K hK => ?b2) AllReadyH.nil))
                case b1 =>
                  go_simp
                  refine (unhide CM _ _ (unhide AL) (unhide AT)).mono ?_
                  rintro e w7 ⟨aM, nM, cM, zM, rfl, hbM, _, arM, nmM⟩
                  have AM := hide arM
                  have NM := hide nmM
                  replace CB := hide ((unhide CB).later hbM)
                  replace HB := hide (below_on (unhide HB) hbM)
                  clear hbM arM nmM
                  refine hK.out _ _ trivial (fun hHeld2 => ?_)
                  clear hK K hHeld
                  have hHeld := hHeld2
                  clear hHeld2
                  simp only [Act.put, List.setIfInBounds_toArray, List.set_cons_zero, List.set_cons_succ]
                  refine wpAnyH_ready (rs := [8]) (by kernel_rfl) (by simp) (AllReadyH.cons rfl (fun K hK => ?_) AllReadyH.nil)
                  go_simp
                  have AD := hide (one_arg w7 ((d : Int))).1
                  have al : Below (w7).heap.size w7 ((w7).alloc (.cells #[.int .i64 ((d : Int))] 3)) := (Below.refl _ _).alloc (Nat.le_refl _) _
                  replace AM := hide ((unhide AM).later al)
                  replace CB := hide ((unhide CB).later al)
                  replace HB := hide (below_on (unhide HB) al)
                  clear al
                  refine hK.out _ _ trivial (fun hHeld2 => ?_)
                  clear hK K hHeld
                  have hHeld := hHeld2
                  clear hHeld2
                  simp only [Act.put, List.setIfInBounds_toArray, List.set_cons_zero, List.set_cons_succ]
                  refine wpAnyH_ready (rs := [9]) (by kernel_rfl) (by simp) (AllReadyH.cons rfl (fun K hK => ?_) AllReadyH.nil)
                  go_simp
                  refine (unhide CA _ _ _ _ _ _ (unhide AM) (unhide AD) (unhide NM) ?_).mono ?_
                  · have := nm_pow16 (unhide NM) (unhide NB); rw [(unhide AM).len] at this; omega
                  rintro e w8 ⟨aA, nA, cA, zA, rfl, hbA, _, arA, okA, vA, lA⟩
                  have AA := hide arA
                  have OA := hide okA
                  have VA := hide vA
                  have nA1 : nA ≤ 1000 := by rw [arA.len] at lA; have h3 := nm_pow16 (unhide NM) (unhide NB); rw [(unhide AM).len] at h3; have h4 : max nM 1 ≤ 900 := Nat.max_le.2 ⟨by omega, by omega⟩; omega
                  replace CB := hide ((unhide CB).later hbA)
                  replace HB := hide (below_on (unhide HB) hbA)
                  clear hbA arA okA vA lA
                  refine hK.out _ _ trivial (fun hHeld2 => ?_)
                  clear hK K hHeld
                  have hHeld := hHeld2
                  clear hHeld2
                  simp only [Act.put, List.setIfInBounds_toArray, List.set_cons_zero, List.set_cons_succ]
                  refine wpAnyH_ready (rs := [10]) (by kernel_rfl) (by simp) (AllReadyH.cons rfl (fun K hK => ?_) AllReadyH.nil)
                  go_simp
                  refine (cut_any aA nA cA zA _ (unhide AA) (by omega)).mono ?_
                  rintro e w9 ⟨aC, nC, cC, rfl, hbC, owC, arC⟩
                  have AC := hide arC
                  have sz9 := (unhide HB).size
                  have lt9 := (unhide CB).lt
                  have OC := hide (owC.mono (show w.heap.size + 1 ≤ w8.heap.size by omega))
                  replace CB := hide ((unhide CB).later hbC)
                  replace HB := hide (below_on (unhide HB) hbC)
                  clear hbC arC owC
                  refine hK.out _ _ trivial (fun hHeld2 => ?_)
                  clear hK K hHeld
                  have hHeld := hHeld2
                  clear hHeld2
                  simp only [Act.put, List.setIfInBounds_toArray, List.set_cons_zero, List.set_cons_succ]
                  refine wpAnyH_take (i := 11) (v := .slice aC nC cC) rfl (by kernel_rfl) (by kernel_rfl) (by kernel_rfl) (fun _ _ _ h => h) (Or.inl ⟨by rfl, by intro w hSw; (try dsimp only at hSw); go_simp⟩) hHeld ?_
                  simp only [List.getElem_toArray, List.getElem_cons_zero, List.getElem_cons_succ, Act.put, List.setIfInBounds_toArray, List.set_cons_zero, List.set_cons_succ]
                  refine wpAnyH_done (by kernel_rfl) ?_ _
                  clear hHeld
                  have N2 : Hid (Nm (trim zA) ((10 * n + d : Nat) : Int)) := hide (by have h := Nm.trimmed (unhide OA); rw [unhide VA] at h; exact h)
                  have LC : (trim zA).length = nC := (unhide AC).len
                  have kb : nC ≤ 200 := by rw [← LC]; exact Nat.le_trans (nm_pow16 (unhide N2) (unhide NBB)) i2
                  clear LC
                  go_wp2
                  go_roundw
                  case rel => exact ⟨i + 1, 10 * n + d, trim zA, aC, nC, cC, by omega, by go_num, rfl, kb, DG2, AC, OC, N2, CB, HB⟩
                  case measure => simp [intOf]; omega
                case b2 =>
                  go_simp
                  have AD := hide (one_arg wA ((d : Int))).1
                  have al : Below (wA).heap.size wA ((wA).alloc (.cells #[.int .i64 ((d : Int))] 3)) := (Below.refl _ _).alloc (Nat.le_refl _) _
                  replace AL := hide ((unhide AL).later al)
                  replace AT := hide ((unhide AT).later al)
                  replace CB := hide ((unhide CB).later al)
                  replace HB := hide (below_on (unhide HB) al)
                  clear al
                  refine hK.out _ _ trivial (fun hHeld2 => ?_)
                  clear hK K hHeld
                  have hHeld := hHeld2
                  clear hHeld2
                  simp only [Act.put, List.setIfInBounds_toArray, List.set_cons_zero, List.set_cons_succ]
                  refine wpAnyH_ready (rs := [2]) (by kernel_rfl) (by simp) (AllReadyH.cons rfl (fun K hK => ?_) AllReadyH.nil)
                  go_simp
                  refine (unhide CM _ _ (unhide AL) (unhide AT)).mono ?_
                  rintro e w7 ⟨aM, nM, cM, zM, rfl, hbM, _, arM, nmM⟩
                  have AM := hide arM
                  have NM := hide nmM
                  replace CB := hide ((unhide CB).later hbM)
                  replace HB := hide (below_on (unhide HB) hbM)
                  replace AD := hide ((unhide AD).later hbM)
                  clear hbM arM nmM
                  refine hK.out _ _ trivial (fun hHeld2 => ?_)
                  clear hK K hHeld
                  have hHeld := hHeld2
                  clear hHeld2
                  simp only [Act.put, List.setIfInBounds_toArray, List.set_cons_zero, List.set_cons_succ]
                  refine wpAnyH_ready (rs := [9]) (by kernel_rfl) (by simp) (AllReadyH.cons rfl (fun K hK => ?_) AllReadyH.nil)
                  go_simp
                  refine (unhide CA _ _ _ _ _ _ (unhide AM) (unhide AD) (unhide NM) ?_).mono ?_
                  · have := nm_pow16 (unhide NM) (unhide NB); rw [(unhide AM).len] at this; omega
                  rintro e w8 ⟨aA, nA, cA, zA, rfl, hbA, _, arA, okA, vA, lA⟩
                  have AA := hide arA
                  have OA := hide okA
                  have VA := hide vA
                  have nA1 : nA ≤ 1000 := by rw [arA.len] at lA; have h3 := nm_pow16 (unhide NM) (unhide NB); rw [(unhide AM).len] at h3; have h4 : max nM 1 ≤ 900 := Nat.max_le.2 ⟨by omega, by omega⟩; omega
                  replace CB := hide ((unhide CB).later hbA)
                  replace HB := hide (below_on (unhide HB) hbA)
                  clear hbA arA okA vA lA
                  refine hK.out _ _ trivial (fun hHeld2 => ?_)
                  clear hK K hHeld
                  have hHeld := hHeld2
                  clear hHeld2
                  simp only [Act.put, List.setIfInBounds_toArray, List.set_cons_zero, List.set_cons_succ]
                  refine wpAnyH_ready (rs := [10]) (by kernel_rfl) (by simp) (AllReadyH.cons rfl (fun K hK => ?_) AllReadyH.nil)
                  go_simp
                  refine (cut_any aA nA cA zA _ (unhide AA) (by omega)).mono ?_
                  rintro e w9 ⟨aC, nC, cC, rfl, hbC, owC, arC⟩
                  have AC := hide arC
                  have sz9 := (unhide HB).size
                  have lt9 := (unhide CB).lt
                  have OC := hide (owC.mono (show w.heap.size + 1 ≤ w8.heap.size by omega))
                  replace CB := hide ((unhide CB).later hbC)
                  replace HB := hide (below_on (unhide HB) hbC)
                  clear hbC arC owC
                  refine hK.out _ _ trivial (fun hHeld2 => ?_)
                  clear hK K hHeld
                  have hHeld := hHeld2
                  clear hHeld2
                  simp only [Act.put, List.setIfInBounds_toArray, List.set_cons_zero, List.set_cons_succ]
                  refine wpAnyH_take (i := 11) (v := .slice aC nC cC) rfl (by kernel_rfl) (by kernel_rfl) (by kernel_rfl) (fun _ _ _ h => h) (Or.inl ⟨by rfl, by intro w hSw; (try dsimp only at hSw); go_simp⟩) hHeld ?_
                  simp only [List.getElem_toArray, List.getElem_cons_zero, List.getElem_cons_succ, Act.put, List.setIfInBounds_toArray, List.set_cons_zero, List.set_cons_succ]
                  refine wpAnyH_done (by kernel_rfl) ?_ _
                  clear hHeld
                  have N2 : Hid (Nm (trim zA) ((10 * n + d : Nat) : Int)) := hide (by have h := Nm.trimmed (unhide OA); rw [unhide VA] at h; exact h)
                  have LC : (trim zA).length = nC := (unhide AC).len
                  have kb : nC ≤ 200 := by rw [← LC]; exact Nat.le_trans (nm_pow16 (unhide N2) (unhide NBB)) i2
                  clear LC
                  go_wp2
                  go_roundw
                  case rel => exact ⟨i + 1, 10 * n + d, trim zA, aC, nC, cC, by omega, by go_num, rfl, kb, DG2, AC, OC, N2, CB, HB⟩
                  case measure => simp [intOf]; omega
              case a2 =>
                go_simp
                have AD := hide (one_arg w0 ((d : Int))).1
                have al : Below (w0).heap.size w0 ((w0).alloc (.cells #[.int .i64 ((d : Int))] 3)) := (Below.refl _ _).alloc (Nat.le_refl _) _
                replace AL := hide ((unhide AL).later al)
                replace CB := hide ((unhide CB).later al)
                replace HB := hide (below_on (unhide HB) al)
                clear al
                refine hK.out _ _ trivial (fun hHeld2 => ?_)
                clear hK K hHeld
                have hHeld := hHeld2
                clear hHeld2
                simp only [Act.put, List.setIfInBounds_toArray, List.set_cons_zero, List.set_cons_succ]
                generalize (w0.alloc (.cells #[.int .i64 ((d : Int))] 3)) = wA at *
                refine wpAnyH_ready (rs := [1]) (by kernel_rfl) (by simp) (AllReadyH.cons rfl (fun K hK => ?_) AllReadyH.nil)
                go_simp
                have AT := hide (one_arg wA (10)).1
                have al : Below (wA).heap.size wA ((wA).alloc (.cells #[.int .i64 (10)] 3)) := (Below.refl _ _).alloc (Nat.le_refl _) _
                replace AL := hide ((unhide AL).later al)
                replace AD := hide ((unhide AD).later al)
                replace CB := hide ((unhide CB).later al)
                replace HB := hide (below_on (unhide HB) al)
                clear al
                refine hK.out _ _ trivial (fun hHeld2 => ?_)
                clear hK K hHeld
                have hHeld := hHeld2
                clear hHeld2
                simp only [Act.put, List.setIfInBounds_toArray, List.set_cons_zero, List.set_cons_succ]
                refine wpAnyH_ready (rs := [2]) (by kernel_rfl) (by simp) (AllReadyH.cons rfl (fun K hK => ?_) AllReadyH.nil)
                go_simp
                refine (unhide CM _ _ (unhide AL) (unhide AT)).mono ?_
                rintro e w7 ⟨aM, nM, cM, zM, rfl, hbM, _, arM, nmM⟩
                have AM := hide arM
                have NM := hide nmM
                replace CB := hide ((unhide CB).later hbM)
                replace HB := hide (below_on (unhide HB) hbM)
                replace AD := hide ((unhide AD).later hbM)
                clear hbM arM nmM
                refine hK.out _ _ trivial (fun hHeld2 => ?_)
                clear hK K hHeld
                have hHeld := hHeld2
                clear hHeld2
                simp only [Act.put, List.setIfInBounds_toArray, List.set_cons_zero, List.set_cons_succ]
                refine wpAnyH_ready (rs := [9]) (by kernel_rfl) (by simp) (AllReadyH.cons rfl (fun K hK => ?_) AllReadyH.nil)
                go_simp
                refine (unhide CA _ _ _ _ _ _ (unhide AM) (unhide AD) (unhide NM) ?_).mono ?_
                · have := nm_pow16 (unhide NM) (unhide NB); rw [(unhide AM).len] at this; omega
                rintro e w8 ⟨aA, nA, cA, zA, rfl, hbA, _, arA, okA, vA, lA⟩
                have AA := hide arA
                have OA := hide okA
                have VA := hide vA
                have nA1 : nA ≤ 1000 := by rw [arA.len] at lA; have h3 := nm_pow16 (unhide NM) (unhide NB); rw [(unhide AM).len] at h3; have h4 : max nM 1 ≤ 900 := Nat.max_le.2 ⟨by omega, by omega⟩; omega
                replace CB := hide ((unhide CB).later hbA)
                replace HB := hide (below_on (unhide HB) hbA)
                clear hbA arA okA vA lA
                refine hK.out _ _ trivial (fun hHeld2 => ?_)
                clear hK K hHeld
                have hHeld := hHeld2
                clear hHeld2
                simp only [Act.put, List.setIfInBounds_toArray, List.set_cons_zero, List.set_cons_succ]
                refine wpAnyH_ready (rs := [10]) (by kernel_rfl) (by simp) (AllReadyH.cons rfl (fun K hK => ?_) AllReadyH.nil)
                go_simp
                refine (cut_any aA nA cA zA _ (unhide AA) (by omega)).mono ?_
                rintro e w9 ⟨aC, nC, cC, rfl, hbC, owC, arC⟩
                have AC := hide arC
                have sz9 := (unhide HB).size
                have lt9 := (unhide CB).lt
                have OC := hide (owC.mono (show w.heap.size + 1 ≤ w8.heap.size by omega))
                replace CB := hide ((unhide CB).later hbC)
                replace HB := hide (below_on (unhide HB) hbC)
                clear hbC arC owC
                refine hK.out _ _ trivial (fun hHeld2 => ?_)
                clear hK K hHeld
                have hHeld := hHeld2
                clear hHeld2
                simp only [Act.put, List.setIfInBounds_toArray, List.set_cons_zero, List.set_cons_succ]
                refine wpAnyH_take (i := 11) (v := .slice aC nC cC) rfl (by kernel_rfl) (by kernel_rfl) (by kernel_rfl) (fun _ _ _ h => h) (Or.inl ⟨by rfl, by intro w hSw; (try dsimp only at hSw); go_simp⟩) hHeld ?_
                simp only [List.getElem_toArray, List.getElem_cons_zero, List.getElem_cons_succ, Act.put, List.setIfInBounds_toArray, List.set_cons_zero, List.set_cons_succ]
                refine wpAnyH_done (by kernel_rfl) ?_ _
                clear hHeld
                have N2 : Hid (Nm (trim zA) ((10 * n + d : Nat) : Int)) := hide (by have h := Nm.trimmed (unhide OA); rw [unhide VA] at h; exact h)
                have LC : (trim zA).length = nC := (unhide AC).len
                have kb : nC ≤ 200 := by rw [← LC]; exact Nat.le_trans (nm_pow16 (unhide N2) (unhide NBB)) i2
                clear LC
                go_wp2
                go_roundw
                case rel => exact ⟨i + 1, 10 * n + d, trim zA, aC, nC, cC, by omega, by go_num, rfl, kb, DG2, AC, OC, N2, CB, HB⟩
                case measure => simp [intOf]; omega
            · have RB : Hid (rbB bs = false) := hide (rb_none (.inl (by rw [← unhide HD]; exact dgN_bad hiD (by rw [← hcc]; exact dg) 0)))
              have r0 := (unhide CB).c0
              have r1 := (unhide CB).c1
              have f0 := (unhide CB).fz
              by_cases q1 : cc.toNat < 48
              · have b1 : (cc.toNat : Int) < 48 := by omega
                have b1d : decide ((cc.toNat : Int) < 48) = true := decide_eq_true b1
                clear hcc TK dg AL OL NL DG hiD
                go_wp2
                exact bodyPost_ret (v := .tuple #[.agg #[.bool false, .slice none 0 0], .bool false]) (by simp [results, Try.results4, go_sem, r0, r1]) rfl (by rw [unhide RB, rb_no (unhide RB)]; exact outRB_no (s := w.heap.size) (Nat.le_refl _) (unhide HB) _ _)
              · have b1 : ¬ (cc.toNat : Int) < 48 := by omega
                have b1d : decide ((cc.toNat : Int) < 48) = false := decide_eq_false b1
                have b2 : (57 : Int) < (cc.toNat : Int) := by omega
                have b2d : decide ((57 : Int) < (cc.toNat : Int)) = true := decide_eq_true b2
                clear hcc TK dg AL OL NL DG hiD
                go_wp2
                exact bodyPost_ret (v := .tuple #[.agg #[.bool false, .slice none 0 0], .bool false]) (by simp [results, Try.results4, go_sem, r0, r1]) rfl (by rw [unhide RB, rb_no (unhide RB)]; exact outRB_no (s := w.heap.size) (Nat.le_refl _) (unhide HB) _ _)
          · obtain rfl : i = T.size := by omega
            have DD : dgN 0 (rbD bs) = some n := by
              have h := unhide DG
              rw [List.take_of_length_le (by have := unhide TS; omega)] at h
              rw [← unhide HD]; exact h
            have NB0 := dgN_lt _ _ _ DD
            rw [Nat.zero_add, Nat.one_mul, ← unhide HD, ← unhide TS] at NB0
            have NB : n < 10 ^ 200 := Nat.lt_of_lt_of_le NB0 (Nat.pow_le_pow_right (by omega) (unhide T2))
            have DV : Hid ((Lib.decDigits n).length ≤ 1000) := hide (by have := dd_len 199 n NB; omega)
            have IFF := rb_iff DD (by
              intro k
              have h := unhide HD
              rw [k] at h
              have h3 : D.length = 0 := by rw [h]; rfl
              have h2 := unhide TS
              have h4 := unhide T1
              omega)
            rw [← sd_nat16] at IFF
            have lt0 := (unhide CB).lt
            have LN : L.length = ln := (unhide AL).len
            have CS := hide (signS_out (rbN bs) la ln lc L wr (w.heap.size + 1) (n : Int) (unhide AL) (unhide OL) (unhide NL).ok (unhide NL).v lt0 (by omega))
            have L40 := nm_40 (unhide NL)
            rw [LN] at L40
            have SGN : Hid (∀ ts, Nm ts (n : Int) → ts = [] → sd (rbN bs) (n : Int) = false) := hide (fun ts k e => by
              have z := k.nil_iff.1 e
              rw [sd_nat16, show n = 0 by omega]; simp)
            have EV : Hid (rbB bs = true → rbV bs = if rbN bs = true then -(n : Int) else (n : Int)) := hide (fun k => by unfold rbV; rw [if_pos k, IFF.2 k])
            rw [NG] at CS SGN EV IFF
            have NLX := unhide NL
            have I40 : ¬ ln ≤ 40 → rbB bs = false := fun k => by rw [IFF.1, decide_eq_false (fun q => k (L40.2 q))]; rfl
            have I41 : ln ≤ 40 → rbB bs = decide (txV (sd true (n : Int)) n = bs) := fun k => by rw [IFF.1, decide_eq_true (L40.1 k), Bool.true_and]
            have SS : Hid (s = st bs) := hide (by rw [unhide HBS]; exact st_of s)
            obtain ⟨SG, hSGq⟩ : ∃ z, z = sd true (n : Int) := ⟨_, rfl⟩
            rw [← hSGq] at CS SGN I41
            have I40h := hide I40
            have I41h := hide I41
            have NLh := hide NLX
            have LNh := hide LN
            have SGq := hide hSGq
            clear DD NB0 NB IFF L40 I40 I41 NLX NL AL OL LN DG hSGq
            go_wp2_with fail
            refine (unhide CS).mono ?_
            rintro e w2 ⟨a2, n2, c2, ts, rfl, hb2, ho2, ha2, hn2⟩
            have EL : ts = L := hn2.same (unhide NLh)
            have en : n2 = ln := by rw [← ha2.len, EL]; exact unhide LNh
            have AL2 : Below w2.heap.size w2 (w2.alloc (.cells #[.bool SG, .slice a2 n2 c2] 24)) := (Below.refl _ _).alloc (Nat.le_refl _) _
            replace CB := hide (((unhide CB).later hb2).later AL2)
            replace HB := hide (below_on (below_on (unhide HB) hb2) AL2)
            have A2 := hide (ha2.later AL2)
            have O2 := hide (ho2.later AL2)
            have N2 := hide hn2
            have x0 : (w2.alloc (.cells #[.bool SG, .slice a2 n2 c2] 24)).cell? ⟨w2.heap.size, 0, none⟩ = some (.bool SG) := by simp [go_sem]
            have x1 : (w2.alloc (.cells #[.bool SG, .slice a2 n2 c2] 24)).cell? ⟨w2.heap.size, 1, none⟩ = some (.slice a2 n2 c2) := by simp [go_sem]
            clear hb2 ho2 ha2 hn2 AL2 CS EL
            subst en
            by_cases c40 : n2 ≤ 40
            · have d0 : ¬ (40 : Int) < (n2 : Int) := by omega
              have d1 : decide ((40 : Int) < (n2 : Int)) = false := decide_eq_false d0
              have CT := hide (textS16 SG a2 n2 c2 ts n _ (unhide A2) (unhide N2) c40 (fun k => unhide SGN ts (unhide N2) k) (unhide DV))
              have RQ := hide (unhide I41h c40)
              go_wp2_with fail
              refine (unhide CT).mono ?_
              rintro e w3 ⟨rfl, hb3⟩
              replace x0 := cell_later hb3 x0
              replace x1 := cell_later hb3 x1
              replace CB := hide ((unhide CB).later hb3)
              replace HB := hide (below_on (unhide HB) hb3)
              replace A2 := hide ((unhide A2).later hb3)
              replace O2 := hide ((unhide O2).later hb3)
              have r0 := (unhide CB).c0
              have r1 := (unhide CB).c1
              have f0 := (unhide CB).fz
              clear hb3 CT CB
              by_cases q : txV SG n = bs
              · have RBT : rbB bs = true := by rw [unhide RQ]; exact decide_eq_true q
                have EC : (st (txV SG n) != s) = false := by rw [unhide SS, q]; exact st_ne _
                have EV2 : Hid (rbV bs = if true = true then -(n : Int) else (n : Int)) := hide (unhide EV RBT)
                have EC2 : st (txV SG n) = s := by rw [unhide SS, q]
                have EC3 : ((st (txV SG n)).toList == s.toList) = true := by rw [EC2]; simp
                clear q
                generalize rbV bs = V at *
                go_wp2
                exact bodyPost_ret (v := .tuple #[.agg #[.bool SG, .slice a2 n2 c2], .bool true]) (by simp [results, Try.results4, go_sem, r0, r1]) rfl (by rw [unhide SGq, RBT]; exact outRB_of (g := true) (s := w.heap.size) (Nat.le_refl _) (unhide HB) (unhide O2) (unhide A2) (unhide N2) (by simpa using unhide EV2) c40 _ _)
              · have RB : Hid (rbB bs = false) := hide (by rw [unhide RQ]; exact decide_eq_false q)
                have EC : (st (txV SG n) != s) = true := by rw [unhide SS, st_cmp, decide_eq_false q]; rfl
                have EC3 : ((st (txV SG n)).toList == s.toList) = false := by rw [unhide SS, ByteArray.toList_eq, ByteArray.toList_eq, st_data, st_data, beq_eq_false_iff_ne]; exact q
                clear q
                go_wp2
                exact bodyPost_ret (v := .tuple #[.agg #[.bool false, .slice none 0 0], .bool false]) (by simp [results, Try.results4, go_sem, r0, r1]) rfl (by rw [unhide RB, rb_no (unhide RB)]; exact outRB_no (s := w.heap.size) (Nat.le_refl _) (unhide HB) _ _)
            · have d0 : (40 : Int) < (n2 : Int) := by omega
              have d1 : decide ((40 : Int) < (n2 : Int)) = true := decide_eq_true d0
              have RB : Hid (rbB bs = false) := hide (unhide I40h c40)
              have r0 := (unhide CB).c0
              have r1 := (unhide CB).c1
              have f0 := (unhide CB).fz
              clear CB x0 x1
              go_wp2
              exact bodyPost_ret (v := .tuple #[.agg #[.bool false, .slice none 0 0], .bool false]) (by simp [results, Try.results4, go_sem, r0, r1]) rfl (by rw [unhide RB, rb_no (unhide RB)]; exact outRB_no (s := w.heap.size) (Nat.le_refl _) (unhide HB) _ _)
      · have RB : Hid (rbB bs = false) := hide (rb_none (.inr (.inr (by rw [← unhide HD, ← unhide TS]; omega))))
        rw [decide_eq_false (show ¬ (T.size : Int) ≤ 200 by omega), Bool.and_false] at CL
        have HB := HB0
        have r0 := (unhide CB0).c0
        have r1 := (unhide CB0).c1
        have f0 := (unhide CB0).fz
        clear hD hbs hl
        go_wp2_with fail
        refine (unhide CL _).mono ?_
        rintro e w1 ⟨rfl, rfl⟩
        go_wp2
        exact bodyPost_ret (v := .tuple #[.agg #[.bool false, .slice none 0 0], .bool false]) (by simp [results, Try.results4, go_sem, r0, r1]) rfl (by rw [unhide RB, rb_no (unhide RB)]; exact outRB_no0 (unhide HB))
    · have RB : Hid (rbB bs = false) := hide (rb_none (.inr (.inl (List.length_eq_zero_iff.1 (by rw [← unhide HD, ← unhide TS]; omega)))))
      rw [decide_eq_false (show ¬ (1 : Int) ≤ (T.size : Int) by omega), Bool.false_and] at CL
      have HB := HB0
      have r0 := (unhide CB0).c0
      have r1 := (unhide CB0).c1
      have f0 := (unhide CB0).fz
      clear hD hbs hl
      go_wp2_with fail
      refine (unhide CL _).mono ?_
      rintro e w1 ⟨rfl, rfl⟩
      go_wp2
      exact bodyPost_ret (v := .tuple #[.agg #[.bool false, .slice none 0 0], .bool false]) (by simp [results, Try.results4, go_sem, r0, r1]) rfl (by rw [unhide RB, rb_no (unhide RB)]; exact outRB_no0 (unhide HB))
  · have NG : rbN bs = false := by simpa using g
    have TD : rbD bs = bs := rb_pos NG
    have TS : Hid (s.size = D.length) := hide (by rw [hD, TD, hl])
    have IX : Hid (∀ i (h : i < s.size), ∃ h2 : i < D.length, s[i]'h = D[i]) := hide (fun i h => ⟨by have := unhide TS; omega, by rw [TD] at hD; subst hD; subst hbs; rfl⟩)
    by_cases z : s.size = 0
    · have hp0' : ¬ (0 : Int) < (s.size : Int) := by omega
      have dp : decide ((0 : Int) < (s.size : Int)) = false := decide_eq_false hp0'
      have RB : Hid (rbB bs = false) := hide (rb_none (.inr (.inl (by rw [TD]; exact List.length_eq_zero_iff.1 (by omega)))))
      have CL := hide (fun w' => l1In_any (s.size : Int) 1 200 w')
      rw [decide_eq_false (show ¬ (1 : Int) ≤ (s.size : Int) by omega), Bool.false_and] at CL
      have HB := HB0
      have r0 := (unhide CB0).c0
      have r1 := (unhide CB0).c1
      have f0 := (unhide CB0).fz
      clear TD hD hbs g hl z NG
      go_enter Try.func4, Try.ntmps4
      go_wp2_with fail
      refine (unhide CL _).mono ?_
      rintro e w1 ⟨rfl, rfl⟩
      go_wp2
      exact bodyPost_ret (v := .tuple #[.agg #[.bool false, .slice none 0 0], .bool false]) (by simp [results, Try.results4, go_sem, r0, r1]) rfl (by rw [unhide RB, rb_no (unhide RB)]; exact outRB_no0 (unhide HB))
    · have hp0 : 0 < s.size := by omega
      have hp0' : (0 : Int) < (s.size : Int) := by omega
      have dp : decide ((0 : Int) < (s.size : Int)) = true := decide_eq_true hp0'
      obtain ⟨c0, hc0⟩ : ∃ c, c = bs[0]'(by omega) := ⟨_, rfl⟩
      have i0 : s[0]'hp0 = c0 := by rw [hc0]; subst hbs; rfl
      have c1 : c0 ≠ 45 := by
        intro e
        apply g
        obtain ⟨d, tl, hd⟩ := List.exists_cons_of_ne_nil (show bs ≠ [] by intro k; rw [k] at hl; simp at hl; omega)
        subst hd
        have : d = 45 := by rw [← e, hc0]; rfl
        rw [this]; rfl
      have c2 : ((c0.toNat : Int) == 45) = false := by
        rw [beq_eq_false_iff_ne]
        intro k
        exact c1 (by have := u8_of (c := c0) (k := 45) (by omega) (by omega); rw [this]; rfl)
      have c3 : ¬ ((c0.toNat : Int) = 45) := by simpa using c2
      have hDH := hide hD
      have hbsH := hide hbs
      have hlH := hide hl
      have NGH := hide NG
      clear TD hD hbs hl NG g z hc0 c1
      go_enter Try.func4, Try.ntmps4
      go_upto_region 5 with fail
      have NG := unhide NGH
      have hD := unhide hDH
      have hbs := unhide hbsH
      have hl := unhide hlH
      clear dp i0 hp0 hp0' c2 c3 hDH hbsH hlH NGH
      have CL := hide (fun w' => l1In_any (s.size : Int) 1 200 w')
      have HD := hide hD
      have HBS := hide hbs
      by_cases t1 : 1 ≤ s.size
      · by_cases t2 : s.size ≤ 200
        · have T1 := hide t1
          have T2 := hide t2
          rw [decide_eq_true (show (1 : Int) ≤ (s.size : Int) by omega), decide_eq_true (show (s.size : Int) ≤ 200 by omega)] at CL
          clear hD hbs hl
          go_wp2_with fail
          refine (unhide CL _).mono ?_
          rintro e w1 ⟨rfl, rfl⟩
          clear t1 t2
          go_wp2
          go_loopw [6, 7] (fun lv iv wr => ∃ (i n : Nat) (L : List Int) (la : Option Addr) (ln lc : Nat), i ≤ s.size ∧ iv = .int .i64 (i : Int) ∧ lv = .slice la ln lc ∧ ln ≤ 200 ∧ Hid (dgN 0 (D.take i) = some n) ∧ Hid (Arg wr la ln lc L) ∧ Hid (Own (w.heap.size + 1) wr la L) ∧ Hid (Nm L (n : Int)) ∧ Hid (Bz16 w.heap.size wr) ∧ Hid (Below w.heap.size w wr)) (fun _ iv _ => s.size - (intOf iv).toNat)
          case atStart => exact ⟨0, 0, [], none, 0, 0, Nat.zero_le _, rfl, rfl, by omega, hide rfl, hide (Arg.none _), hide (.inl rfl), hide Nm.zero, CB0, HB0⟩
          case round =>
            clear CB0 HB0
            obtain ⟨i, n, L, la, ln, lc, hi, rfl, rfl, l2, DG, AL, OL, NL, CB, HB⟩ := hrel
            by_cases hlt : i < s.size
            · have hlt' : (i : Int) < (s.size : Int) := by omega
              have hiD : i < D.length := by have := unhide TS; omega
              obtain ⟨_, e0⟩ := unhide IX i hlt
              obtain ⟨cc, hcc⟩ : ∃ z, z = D[i] := ⟨_, rfl⟩
              rw [← hcc] at e0
              have TK : D.take (i + 1) = D.take i ++ [cc] := by rw [hcc]; exact (List.take_append_getElem hiD).symm
              by_cases dg : 48 ≤ cc.toNat ∧ cc.toNat ≤ 57
              · obtain ⟨d, hd⟩ : ∃ d : Nat, cc.toNat = 48 + d := ⟨cc.toNat - 48, by omega⟩
                have DG2 : Hid (dgN 0 (D.take (i + 1)) = some (10 * n + d)) := hide (by
                  rw [TK, dgN_snoc, unhide DG]
                  simp only [Option.bind_some, dgN]
                  rw [if_neg (by omega), show cc.toNat - 48 = d by omega])
                have NB0 := dgN_lt _ _ _ (unhide DG)
                rw [Nat.zero_add, Nat.one_mul, List.length_take_of_le (Nat.le_of_lt hiD)] at NB0
                have NB : Hid (10 * n < 10 ^ (i + 1)) := hide (by rw [Nat.pow_succ]; omega)
                have NB2 := dgN_lt _ _ _ (unhide DG2)
                rw [Nat.zero_add, Nat.one_mul, List.length_take_of_le (show i + 1 ≤ D.length by omega)] at NB2
                have i2 : i + 1 ≤ 200 := by have := unhide TS; have := unhide T2; omega
                have NBB := hide NB2
                have CM := hide (fun (w' : World) (x : Nat) (k : Arg w' la ln lc L) (k2 : Arg w' (some ⟨x, 0, none⟩) 1 1 [10]) => (show Calls Try.prog 12 #[.slice la ln lc, .slice (some ⟨x, 0, none⟩) 1 1] w' (Out w' ((10 * n : Nat) : Int)) from by
                  have h := mulS_any la (some ⟨x, 0, none⟩) ln 1 lc 1 L [10] w' k k2 (unhide NL).ok (okL_one (by omega) (by omega)) (by omega) (by omega)
                  rw [(unhide NL).v, show val [(10 : Int)] = 10 by simp [val], show (n : Int) * 10 = ((10 * n : Nat) : Int) by omega] at h
                  exact h))
                have CA := hide (fun (w' : World) (x : Nat) (b : Option Addr) (m c2 : Nat) (zs : List Int) (k : Arg w' b m c2 zs) (k2 : Arg w' (some ⟨x, 0, none⟩) 1 1 [(d : Int)]) (nz : Nm zs ((10 * n : Nat) : Int)) (hm : m ≤ 1000) => (show Calls Try.prog 11 #[.slice b m c2, .slice (some ⟨x, 0, none⟩) 1 1] w' (OutU w' ((10 * n + d : Nat) : Int) (max m 1 + 1)) from by
                  have h := addS_any b (some ⟨x, 0, none⟩) m 1 c2 1 zs [(d : Int)] w' k k2 nz.ok (okL_one (by omega) (by omega)) (by omega) (by omega)
                  rw [nz.v, show val [(d : Int)] = (d : Int) by simp [val], show ((10 * n : Nat) : Int) + (d : Int) = ((10 * n + d : Nat) : Int) by omega] at h
                  exact h))
                have b1 : ¬ ((cc.toNat : Int) < 48) := by omega
                have b2 : ¬ ((57 : Int) < (cc.toNat : Int)) := by omega
                have b1d : decide ((cc.toNat : Int) < 48) = false := decide_eq_false b1
                have b2d : decide ((57 : Int) < (cc.toNat : Int)) = false := decide_eq_false b2
                have w1 : IntKind.u8.wrap ((cc.toNat : Int) - 48) = (d : Int) := by rw [IntKind.wrap_u8]; omega
                have w2 : IntKind.i64.wrap (d : Int) = (d : Int) := by rw [IntKind.wrap_i64]; omega
                clear hcc TK dg hd NB0 NB2 OL hiD DG
                go_upto_region 13 with fail
                refine wp_region_held_drew (S := fun _ => True) (by kernel_rfl) trivial (fun hHeld => ?_)
                simp only [List.size_toArray, List.length_cons, List.length_nil, Nat.reduceAdd, Array.replicate_succ, Array.replicate_zero, List.push_toArray, List.nil_append, List.cons_append]
                refine wpAnyH_take (i := 0) (v := .slice la ln lc) rfl (by kernel_rfl) (by kernel_rfl) (by kernel_rfl) (fun _ _ _ h => h) (Or.inl ⟨by rfl, by intro w hSw; (try dsimp only at hSw); go_simp⟩) hHeld ?_
                simp only [Act.put, List.setIfInBounds_toArray, List.set_cons_zero, List.set_cons_succ]
                refine wpAnyH_take (i := 3) (v := .string s) rfl (by kernel_rfl) (by kernel_rfl) (by kernel_rfl) (fun _ _ _ h => h) (Or.inl ⟨by rfl, by intro w hSw; (try dsimp only at hSw); go_simp⟩) hHeld ?_
                simp only [Act.put, List.setIfInBounds_toArray, List.set_cons_zero, List.set_cons_succ]
                refine wpAnyH_take (i := 4) (v := .int .i64 (i : Int)) rfl (by kernel_rfl) (by kernel_rfl) (by kernel_rfl) (fun _ _ _ h => h) (Or.inl ⟨by rfl, by intro w hSw; (try dsimp only at hSw); go_simp⟩) hHeld ?_
                simp only [Act.put, List.setIfInBounds_toArray, List.set_cons_zero, List.set_cons_succ]
                refine wpAnyH_take (i := 5) (v := .int .u8 (cc.toNat : Int)) rfl (by kernel_rfl) (by kernel_rfl) (by kernel_rfl) (fun _ _ _ h => h) (Or.inl ⟨by rfl, by intro w hSw; (try dsimp only at hSw); go_simp⟩) hHeld ?_
                simp only [Act.put, List.setIfInBounds_toArray, List.set_cons_zero, List.set_cons_succ]
                refine wpAnyH_take (i := 6) (v := .int .u8 (d : Int)) rfl (by kernel_rfl) (by kernel_rfl) (by kernel_rfl) (fun _ _ _ h => h) (Or.inl ⟨by rfl, by intro w hSw; (try dsimp only at hSw); go_simp⟩) hHeld ?_
                simp only [Act.put, List.setIfInBounds_toArray, List.set_cons_zero, List.set_cons_succ]
                refine wpAnyH_take (i := 7) (v := .int .i64 (d : Int)) rfl (by kernel_rfl) (by kernel_rfl) (by kernel_rfl) (fun _ _ _ h => h) (Or.inl ⟨by rfl, by intro w hSw; (try dsimp only at hSw); go_simp⟩) hHeld ?_
                simp only [Act.put, List.setIfInBounds_toArray, List.set_cons_zero, List.set_cons_succ]
                have BD := (Below.refl wr.heap.size wr).drew
                replace AL := hide ((unhide AL).later BD)
                replace CB := hide ((unhide CB).later BD)
                replace HB := hide (below_on (unhide HB) BD)
                clear BD
                generalize wr.drew = w0 at *
                refine wpAnyH_ready (rs := [1, 8]) (by kernel_rfl) (by simp) (AllReadyH.cons rfl (fun K hK => ?a1) (AllReadyH.cons rfl (fun K hK => ?a2) AllReadyH.nil))
                case a1 =>
                  go_simp
                  have AT := hide (one_arg w0 (10)).1
                  have al : Below (w0).heap.size w0 ((w0).alloc (.cells #[.int .i64 (10)] 3)) := (Below.refl _ _).alloc (Nat.le_refl _) _
                  replace AL := hide ((unhide AL).later al)
                  replace CB := hide ((unhide CB).later al)
                  replace HB := hide (below_on (unhide HB) al)
                  clear al
                  refine hK.out _ _ trivial (fun hHeld2 => ?_)
                  clear hK K hHeld
                  have hHeld := hHeld2
                  clear hHeld2
                  simp only [Act.put, List.setIfInBounds_toArray, List.set_cons_zero, List.set_cons_succ]
                  generalize (w0.alloc (.cells #[.int .i64 (10)] 3)) = wA at *
                  refine wpAnyH_ready (rs := [2, 8]) (by kernel_rfl) (by simp) (AllReadyH.cons rfl (fun K hK => ?b1) (AllReadyH.cons rfl (fun K hK => ?b2) AllReadyH.nil))
                  case b1 =>
                    go_simp
                    refine (unhide CM _ _ (unhide AL) (unhide AT)).mono ?_
                    rintro e w7 ⟨aM, nM, cM, zM, rfl, hbM, _, arM, nmM⟩
                    have AM := hide arM
                    have NM := hide nmM
                    replace CB := hide ((unhide CB).later hbM)
                    replace HB := hide (below_on (unhide HB) hbM)
                    clear hbM arM nmM
                    refine hK.out _ _ trivial (fun hHeld2 => ?_)
                    clear hK K hHeld
                    have hHeld := hHeld2
                    clear hHeld2
                    simp only [Act.put, List.setIfInBounds_toArray, List.set_cons_zero, List.set_cons_succ]
                    refine wpAnyH_ready (rs := [8]) (by kernel_rfl) (by simp) (AllReadyH.cons rfl (fun K hK => ?_) AllReadyH.nil)
                    go_simp
                    have AD := hide (one_arg w7 ((d : Int))).1
                    have al : Below (w7).heap.size w7 ((w7).alloc (.cells #[.int .i64 ((d : Int))] 3)) := (Below.refl _ _).alloc (Nat.le_refl _) _
                    replace AM := hide ((unhide AM).later al)
                    replace CB := hide ((unhide CB).later al)
                    replace HB := hide (below_on (unhide HB) al)
                    clear al
                    refine hK.out _ _ trivial (fun hHeld2 => ?_)
                    clear hK K hHeld
                    have hHeld := hHeld2
                    clear hHeld2
                    simp only [Act.put, List.setIfInBounds_toArray, List.set_cons_zero, List.set_cons_succ]
                    refine wpAnyH_ready (rs := [9]) (by kernel_rfl) (by simp) (AllReadyH.cons rfl (fun K hK => ?_) AllReadyH.nil)
                    go_simp
                    refine (unhide CA _ _ _ _ _ _ (unhide AM) (unhide AD) (unhide NM) ?_).mono ?_
                    · have := nm_pow16 (unhide NM) (unhide NB); rw [(unhide AM).len] at this; omega
                    rintro e w8 ⟨aA, nA, cA, zA, rfl, hbA, _, arA, okA, vA, lA⟩
                    have AA := hide arA
                    have OA := hide okA
                    have VA := hide vA
                    have nA1 : nA ≤ 1000 := by rw [arA.len] at lA; have h3 := nm_pow16 (unhide NM) (unhide NB); rw [(unhide AM).len] at h3; have h4 : max nM 1 ≤ 900 := Nat.max_le.2 ⟨by omega, by omega⟩; omega
                    replace CB := hide ((unhide CB).later hbA)
                    replace HB := hide (below_on (unhide HB) hbA)
                    clear hbA arA okA vA lA
                    refine hK.out _ _ trivial (fun hHeld2 => ?_)
                    clear hK K hHeld
                    have hHeld := hHeld2
                    clear hHeld2
                    simp only [Act.put, List.setIfInBounds_toArray, List.set_cons_zero, List.set_cons_succ]
                    refine wpAnyH_ready (rs := [10]) (by kernel_rfl) (by simp) (AllReadyH.cons rfl (fun K hK => ?_) AllReadyH.nil)
                    go_simp
                    refine (cut_any aA nA cA zA _ (unhide AA) (by omega)).mono ?_
                    rintro e w9 ⟨aC, nC, cC, rfl, hbC, owC, arC⟩
                    have AC := hide arC
                    have sz9 := (unhide HB).size
                    have lt9 := (unhide CB).lt
                    have OC := hide (owC.mono (show w.heap.size + 1 ≤ w8.heap.size by omega))
                    replace CB := hide ((unhide CB).later hbC)
                    replace HB := hide (below_on (unhide HB) hbC)
                    clear hbC arC owC
                    refine hK.out _ _ trivial (fun hHeld2 => ?_)
                    clear hK K hHeld
                    have hHeld := hHeld2
                    clear hHeld2
                    simp only [Act.put, List.setIfInBounds_toArray, List.set_cons_zero, List.set_cons_succ]
                    refine wpAnyH_take (i := 11) (v := .slice aC nC cC) rfl (by kernel_rfl) (by kernel_rfl) (by kernel_rfl) (fun _ _ _ h => h) (Or.inl ⟨by rfl, by intro w hSw; (try dsimp only at hSw); go_simp⟩) hHeld ?_
                    simp only [List.getElem_toArray, List.getElem_cons_zero, List.getElem_cons_succ, Act.put, List.setIfInBounds_toArray, List.set_cons_zero, List.set_cons_succ]
                    refine wpAnyH_done (by kernel_rfl) ?_ _
                    clear hHeld
                    have N2 : Hid (Nm (trim zA) ((10 * n + d : Nat) : Int)) := hide (by have h := Nm.trimmed (unhide OA); rw [unhide VA] at h; exact h)
                    have LC : (trim zA).length = nC := (unhide AC).len
                    have kb : nC ≤ 200 := by rw [← LC]; exact Nat.le_trans (nm_pow16 (unhide N2) (unhide NBB)) i2
                    clear LC
                    go_wp2
                    go_roundw
                    case rel => exact ⟨i + 1, 10 * n + d, trim zA, aC, nC, cC, by omega, by go_num, rfl, kb, DG2, AC, OC, N2, CB, HB⟩
                    case measure => simp [intOf]; omega
                  case b2 =>
                    go_simp
                    have AD := hide (one_arg wA ((d : Int))).1
                    have al : Below (wA).heap.size wA ((wA).alloc (.cells #[.int .i64 ((d : Int))] 3)) := (Below.refl _ _).alloc (Nat.le_refl _) _
                    replace AL := hide ((unhide AL).later al)
                    replace AT := hide ((unhide AT).later al)
                    replace CB := hide ((unhide CB).later al)
                    replace HB := hide (below_on (unhide HB) al)
                    clear al
                    refine hK.out _ _ trivial (fun hHeld2 => ?_)
                    clear hK K hHeld
                    have hHeld := hHeld2
                    clear hHeld2
                    simp only [Act.put, List.setIfInBounds_toArray, List.set_cons_zero, List.set_cons_succ]
                    refine wpAnyH_ready (rs := [2]) (by kernel_rfl) (by simp) (AllReadyH.cons rfl (fun K hK => ?_) AllReadyH.nil)
                    go_simp
                    refine (unhide CM _ _ (unhide AL) (unhide AT)).mono ?_
                    rintro e w7 ⟨aM, nM, cM, zM, rfl, hbM, _, arM, nmM⟩
                    have AM := hide arM
                    have NM := hide nmM
                    replace CB := hide ((unhide CB).later hbM)
                    replace HB := hide (below_on (unhide HB) hbM)
                    replace AD := hide ((unhide AD).later hbM)
                    clear hbM arM nmM
                    refine hK.out _ _ trivial (fun hHeld2 => ?_)
                    clear hK K hHeld
                    have hHeld := hHeld2
                    clear hHeld2
                    simp only [Act.put, List.setIfInBounds_toArray, List.set_cons_zero, List.set_cons_succ]
                    refine wpAnyH_ready (rs := [9]) (by kernel_rfl) (by simp) (AllReadyH.cons rfl (fun K hK => ?_) AllReadyH.nil)
                    go_simp
                    refine (unhide CA _ _ _ _ _ _ (unhide AM) (unhide AD) (unhide NM) ?_).mono ?_
                    · have := nm_pow16 (unhide NM) (unhide NB); rw [(unhide AM).len] at this; omega
                    rintro e w8 ⟨aA, nA, cA, zA, rfl, hbA, _, arA, okA, vA, lA⟩
                    have AA := hide arA
                    have OA := hide okA
                    have VA := hide vA
                    have nA1 : nA ≤ 1000 := by rw [arA.len] at lA; have h3 := nm_pow16 (unhide NM) (unhide NB); rw [(unhide AM).len] at h3; have h4 : max nM 1 ≤ 900 := Nat.max_le.2 ⟨by omega, by omega⟩; omega
                    replace CB := hide ((unhide CB).later hbA)
                    replace HB := hide (below_on (unhide HB) hbA)
                    clear hbA arA okA vA lA
                    refine hK.out _ _ trivial (fun hHeld2 => ?_)
                    clear hK K hHeld
                    have hHeld := hHeld2
                    clear hHeld2
                    simp only [Act.put, List.setIfInBounds_toArray, List.set_cons_zero, List.set_cons_succ]
                    refine wpAnyH_ready (rs := [10]) (by kernel_rfl) (by simp) (AllReadyH.cons rfl (fun K hK => ?_) AllReadyH.nil)
                    go_simp
                    refine (cut_any aA nA cA zA _ (unhide AA) (by omega)).mono ?_
                    rintro e w9 ⟨aC, nC, cC, rfl, hbC, owC, arC⟩
                    have AC := hide arC
                    have sz9 := (unhide HB).size
                    have lt9 := (unhide CB).lt
                    have OC := hide (owC.mono (show w.heap.size + 1 ≤ w8.heap.size by omega))
                    replace CB := hide ((unhide CB).later hbC)
                    replace HB := hide (below_on (unhide HB) hbC)
                    clear hbC arC owC
                    refine hK.out _ _ trivial (fun hHeld2 => ?_)
                    clear hK K hHeld
                    have hHeld := hHeld2
                    clear hHeld2
                    simp only [Act.put, List.setIfInBounds_toArray, List.set_cons_zero, List.set_cons_succ]
                    refine wpAnyH_take (i := 11) (v := .slice aC nC cC) rfl (by kernel_rfl) (by kernel_rfl) (by kernel_rfl) (fun _ _ _ h => h) (Or.inl ⟨by rfl, by intro w hSw; (try dsimp only at hSw); go_simp⟩) hHeld ?_
                    simp only [List.getElem_toArray, List.getElem_cons_zero, List.getElem_cons_succ, Act.put, List.setIfInBounds_toArray, List.set_cons_zero, List.set_cons_succ]
                    refine wpAnyH_done (by kernel_rfl) ?_ _
                    clear hHeld
                    have N2 : Hid (Nm (trim zA) ((10 * n + d : Nat) : Int)) := hide (by have h := Nm.trimmed (unhide OA); rw [unhide VA] at h; exact h)
                    have LC : (trim zA).length = nC := (unhide AC).len
                    have kb : nC ≤ 200 := by rw [← LC]; exact Nat.le_trans (nm_pow16 (unhide N2) (unhide NBB)) i2
                    clear LC
                    go_wp2
                    go_roundw
                    case rel => exact ⟨i + 1, 10 * n + d, trim zA, aC, nC, cC, by omega, by go_num, rfl, kb, DG2, AC, OC, N2, CB, HB⟩
                    case measure => simp [intOf]; omega
                case a2 =>
                  go_simp
                  have AD := hide (one_arg w0 ((d : Int))).1
                  have al : Below (w0).heap.size w0 ((w0).alloc (.cells #[.int .i64 ((d : Int))] 3)) := (Below.refl _ _).alloc (Nat.le_refl _) _
                  replace AL := hide ((unhide AL).later al)
                  replace CB := hide ((unhide CB).later al)
                  replace HB := hide (below_on (unhide HB) al)
                  clear al
                  refine hK.out _ _ trivial (fun hHeld2 => ?_)
                  clear hK K hHeld
                  have hHeld := hHeld2
                  clear hHeld2
                  simp only [Act.put, List.setIfInBounds_toArray, List.set_cons_zero, List.set_cons_succ]
                  generalize (w0.alloc (.cells #[.int .i64 ((d : Int))] 3)) = wA at *
                  refine wpAnyH_ready (rs := [1]) (by kernel_rfl) (by simp) (AllReadyH.cons rfl (fun K hK => ?_) AllReadyH.nil)
                  go_simp
                  have AT := hide (one_arg wA (10)).1
                  have al : Below (wA).heap.size wA ((wA).alloc (.cells #[.int .i64 (10)] 3)) := (Below.refl _ _).alloc (Nat.le_refl _) _
                  replace AL := hide ((unhide AL).later al)
                  replace AD := hide ((unhide AD).later al)
                  replace CB := hide ((unhide CB).later al)
                  replace HB := hide (below_on (unhide HB) al)
                  clear al
                  refine hK.out _ _ trivial (fun hHeld2 => ?_)
                  clear hK K hHeld
                  have hHeld := hHeld2
                  clear hHeld2
                  simp only [Act.put, List.setIfInBounds_toArray, List.set_cons_zero, List.set_cons_succ]
                  refine wpAnyH_ready (rs := [2]) (by kernel_rfl) (by simp) (AllReadyH.cons rfl (fun K hK => ?_) AllReadyH.nil)
                  go_simp
                  refine (unhide CM _ _ (unhide AL) (unhide AT)).mono ?_
                  rintro e w7 ⟨aM, nM, cM, zM, rfl, hbM, _, arM, nmM⟩
                  have AM := hide arM
                  have NM := hide nmM
                  replace CB := hide ((unhide CB).later hbM)
                  replace HB := hide (below_on (unhide HB) hbM)
                  replace AD := hide ((unhide AD).later hbM)
                  clear hbM arM nmM
                  refine hK.out _ _ trivial (fun hHeld2 => ?_)
                  clear hK K hHeld
                  have hHeld := hHeld2
                  clear hHeld2
                  simp only [Act.put, List.setIfInBounds_toArray, List.set_cons_zero, List.set_cons_succ]
                  refine wpAnyH_ready (rs := [9]) (by kernel_rfl) (by simp) (AllReadyH.cons rfl (fun K hK => ?_) AllReadyH.nil)
                  go_simp
                  refine (unhide CA _ _ _ _ _ _ (unhide AM) (unhide AD) (unhide NM) ?_).mono ?_
                  · have := nm_pow16 (unhide NM) (unhide NB); rw [(unhide AM).len] at this; omega
                  rintro e w8 ⟨aA, nA, cA, zA, rfl, hbA, _, arA, okA, vA, lA⟩
                  have AA := hide arA
                  have OA := hide okA
                  have VA := hide vA
                  have nA1 : nA ≤ 1000 := by rw [arA.len] at lA; have h3 := nm_pow16 (unhide NM) (unhide NB); rw [(unhide AM).len] at h3; have h4 : max nM 1 ≤ 900 := Nat.max_le.2 ⟨by omega, by omega⟩; omega
                  replace CB := hide ((unhide CB).later hbA)
                  replace HB := hide (below_on (unhide HB) hbA)
                  clear hbA arA okA vA lA
                  refine hK.out _ _ trivial (fun hHeld2 => ?_)
                  clear hK K hHeld
                  have hHeld := hHeld2
                  clear hHeld2
                  simp only [Act.put, List.setIfInBounds_toArray, List.set_cons_zero, List.set_cons_succ]
                  refine wpAnyH_ready (rs := [10]) (by kernel_rfl) (by simp) (AllReadyH.cons rfl (fun K hK => ?_) AllReadyH.nil)
                  go_simp
                  refine (cut_any aA nA cA zA _ (unhide AA) (by omega)).mono ?_
                  rintro e w9 ⟨aC, nC, cC, rfl, hbC, owC, arC⟩
                  have AC := hide arC
                  have sz9 := (unhide HB).size
                  have lt9 := (unhide CB).lt
                  have OC := hide (owC.mono (show w.heap.size + 1 ≤ w8.heap.size by omega))
                  replace CB := hide ((unhide CB).later hbC)
                  replace HB := hide (below_on (unhide HB) hbC)
                  clear hbC arC owC
                  refine hK.out _ _ trivial (fun hHeld2 => ?_)
                  clear hK K hHeld
                  have hHeld := hHeld2
                  clear hHeld2
                  simp only [Act.put, List.setIfInBounds_toArray, List.set_cons_zero, List.set_cons_succ]
                  refine wpAnyH_take (i := 11) (v := .slice aC nC cC) rfl (by kernel_rfl) (by kernel_rfl) (by kernel_rfl) (fun _ _ _ h => h) (Or.inl ⟨by rfl, by intro w hSw; (try dsimp only at hSw); go_simp⟩) hHeld ?_
                  simp only [List.getElem_toArray, List.getElem_cons_zero, List.getElem_cons_succ, Act.put, List.setIfInBounds_toArray, List.set_cons_zero, List.set_cons_succ]
                  refine wpAnyH_done (by kernel_rfl) ?_ _
                  clear hHeld
                  have N2 : Hid (Nm (trim zA) ((10 * n + d : Nat) : Int)) := hide (by have h := Nm.trimmed (unhide OA); rw [unhide VA] at h; exact h)
                  have LC : (trim zA).length = nC := (unhide AC).len
                  have kb : nC ≤ 200 := by rw [← LC]; exact Nat.le_trans (nm_pow16 (unhide N2) (unhide NBB)) i2
                  clear LC
                  go_wp2
                  go_roundw
                  case rel => exact ⟨i + 1, 10 * n + d, trim zA, aC, nC, cC, by omega, by go_num, rfl, kb, DG2, AC, OC, N2, CB, HB⟩
                  case measure => simp [intOf]; omega
              · have RB : Hid (rbB bs = false) := hide (rb_none (.inl (by rw [← unhide HD]; exact dgN_bad hiD (by rw [← hcc]; exact dg) 0)))
                have r0 := (unhide CB).c0
                have r1 := (unhide CB).c1
                have f0 := (unhide CB).fz
                by_cases q1 : cc.toNat < 48
                · have b1 : (cc.toNat : Int) < 48 := by omega
                  have b1d : decide ((cc.toNat : Int) < 48) = true := decide_eq_true b1
                  clear hcc TK dg AL OL NL DG hiD
                  go_wp2
                  exact bodyPost_ret (v := .tuple #[.agg #[.bool false, .slice none 0 0], .bool false]) (by simp [results, Try.results4, go_sem, r0, r1]) rfl (by rw [unhide RB, rb_no (unhide RB)]; exact outRB_no (s := w.heap.size) (Nat.le_refl _) (unhide HB) _ _)
                · have b1 : ¬ (cc.toNat : Int) < 48 := by omega
                  have b1d : decide ((cc.toNat : Int) < 48) = false := decide_eq_false b1
                  have b2 : (57 : Int) < (cc.toNat : Int) := by omega
                  have b2d : decide ((57 : Int) < (cc.toNat : Int)) = true := decide_eq_true b2
                  clear hcc TK dg AL OL NL DG hiD
                  go_wp2
                  exact bodyPost_ret (v := .tuple #[.agg #[.bool false, .slice none 0 0], .bool false]) (by simp [results, Try.results4, go_sem, r0, r1]) rfl (by rw [unhide RB, rb_no (unhide RB)]; exact outRB_no (s := w.heap.size) (Nat.le_refl _) (unhide HB) _ _)
            · obtain rfl : i = s.size := by omega
              have DD : dgN 0 (rbD bs) = some n := by
                have h := unhide DG
                rw [List.take_of_length_le (by have := unhide TS; omega)] at h
                rw [← unhide HD]; exact h
              have NB0 := dgN_lt _ _ _ DD
              rw [Nat.zero_add, Nat.one_mul, ← unhide HD, ← unhide TS] at NB0
              have NB : n < 10 ^ 200 := Nat.lt_of_lt_of_le NB0 (Nat.pow_le_pow_right (by omega) (unhide T2))
              have DV : Hid ((Lib.decDigits n).length ≤ 1000) := hide (by have := dd_len 199 n NB; omega)
              have IFF := rb_iff DD (by
                intro k
                have h := unhide HD
                rw [k] at h
                have h3 : D.length = 0 := by rw [h]; rfl
                have h2 := unhide TS
                have h4 := unhide T1
                omega)
              rw [← sd_nat16] at IFF
              have lt0 := (unhide CB).lt
              have LN : L.length = ln := (unhide AL).len
              have CS := hide (signS_out (rbN bs) la ln lc L wr (w.heap.size + 1) (n : Int) (unhide AL) (unhide OL) (unhide NL).ok (unhide NL).v lt0 (by omega))
              have L40 := nm_40 (unhide NL)
              rw [LN] at L40
              have SGN : Hid (∀ ts, Nm ts (n : Int) → ts = [] → sd (rbN bs) (n : Int) = false) := hide (fun ts k e => by
                have z := k.nil_iff.1 e
                rw [sd_nat16, show n = 0 by omega]; simp)
              have EV : Hid (rbB bs = true → rbV bs = if rbN bs = true then -(n : Int) else (n : Int)) := hide (fun k => by unfold rbV; rw [if_pos k, IFF.2 k])
              rw [NG] at CS SGN EV IFF
              have NLX := unhide NL
              have I40 : ¬ ln ≤ 40 → rbB bs = false := fun k => by rw [IFF.1, decide_eq_false (fun q => k (L40.2 q))]; rfl
              have I41 : ln ≤ 40 → rbB bs = decide (txV (sd false (n : Int)) n = bs) := fun k => by rw [IFF.1, decide_eq_true (L40.1 k), Bool.true_and]
              have SS : Hid (s = st bs) := hide (by rw [unhide HBS]; exact st_of s)
              obtain ⟨SG, hSGq⟩ : ∃ z, z = sd false (n : Int) := ⟨_, rfl⟩
              rw [← hSGq] at CS SGN I41
              have I40h := hide I40
              have I41h := hide I41
              have NLh := hide NLX
              have LNh := hide LN
              have SGq := hide hSGq
              clear DD NB0 NB IFF L40 I40 I41 NLX NL AL OL LN DG hSGq
              go_wp2_with fail
              refine (unhide CS).mono ?_
              rintro e w2 ⟨a2, n2, c2, ts, rfl, hb2, ho2, ha2, hn2⟩
              have EL : ts = L := hn2.same (unhide NLh)
              have en : n2 = ln := by rw [← ha2.len, EL]; exact unhide LNh
              have AL2 : Below w2.heap.size w2 (w2.alloc (.cells #[.bool SG, .slice a2 n2 c2] 24)) := (Below.refl _ _).alloc (Nat.le_refl _) _
              replace CB := hide (((unhide CB).later hb2).later AL2)
              replace HB := hide (below_on (below_on (unhide HB) hb2) AL2)
              have A2 := hide (ha2.later AL2)
              have O2 := hide (ho2.later AL2)
              have N2 := hide hn2
              have x0 : (w2.alloc (.cells #[.bool SG, .slice a2 n2 c2] 24)).cell? ⟨w2.heap.size, 0, none⟩ = some (.bool SG) := by simp [go_sem]
              have x1 : (w2.alloc (.cells #[.bool SG, .slice a2 n2 c2] 24)).cell? ⟨w2.heap.size, 1, none⟩ = some (.slice a2 n2 c2) := by simp [go_sem]
              clear hb2 ho2 ha2 hn2 AL2 CS EL
              subst en
              by_cases c40 : n2 ≤ 40
              · have d0 : ¬ (40 : Int) < (n2 : Int) := by omega
                have d1 : decide ((40 : Int) < (n2 : Int)) = false := decide_eq_false d0
                have CT := hide (textS16 SG a2 n2 c2 ts n _ (unhide A2) (unhide N2) c40 (fun k => unhide SGN ts (unhide N2) k) (unhide DV))
                have RQ := hide (unhide I41h c40)
                go_wp2_with fail
                refine (unhide CT).mono ?_
                rintro e w3 ⟨rfl, hb3⟩
                replace x0 := cell_later hb3 x0
                replace x1 := cell_later hb3 x1
                replace CB := hide ((unhide CB).later hb3)
                replace HB := hide (below_on (unhide HB) hb3)
                replace A2 := hide ((unhide A2).later hb3)
                replace O2 := hide ((unhide O2).later hb3)
                have r0 := (unhide CB).c0
                have r1 := (unhide CB).c1
                have f0 := (unhide CB).fz
                clear hb3 CT CB
                by_cases q : txV SG n = bs
                · have RBT : rbB bs = true := by rw [unhide RQ]; exact decide_eq_true q
                  have EC : (st (txV SG n) != s) = false := by rw [unhide SS, q]; exact st_ne _
                  have EV2 : Hid (rbV bs = if false = true then -(n : Int) else (n : Int)) := hide (unhide EV RBT)
                  have EC2 : st (txV SG n) = s := by rw [unhide SS, q]
                  have EC3 : ((st (txV SG n)).toList == s.toList) = true := by rw [EC2]; simp
                  clear q
                  generalize rbV bs = V at *
                  go_wp2
                  exact bodyPost_ret (v := .tuple #[.agg #[.bool SG, .slice a2 n2 c2], .bool true]) (by simp [results, Try.results4, go_sem, r0, r1]) rfl (by rw [unhide SGq, RBT]; exact outRB_of (g := false) (s := w.heap.size) (Nat.le_refl _) (unhide HB) (unhide O2) (unhide A2) (unhide N2) (by simpa using unhide EV2) c40 _ _)
                · have RB : Hid (rbB bs = false) := hide (by rw [unhide RQ]; exact decide_eq_false q)
                  have EC : (st (txV SG n) != s) = true := by rw [unhide SS, st_cmp, decide_eq_false q]; rfl
                  have EC3 : ((st (txV SG n)).toList == s.toList) = false := by rw [unhide SS, ByteArray.toList_eq, ByteArray.toList_eq, st_data, st_data, beq_eq_false_iff_ne]; exact q
                  clear q
                  go_wp2
                  exact bodyPost_ret (v := .tuple #[.agg #[.bool false, .slice none 0 0], .bool false]) (by simp [results, Try.results4, go_sem, r0, r1]) rfl (by rw [unhide RB, rb_no (unhide RB)]; exact outRB_no (s := w.heap.size) (Nat.le_refl _) (unhide HB) _ _)
              · have d0 : (40 : Int) < (n2 : Int) := by omega
                have d1 : decide ((40 : Int) < (n2 : Int)) = true := decide_eq_true d0
                have RB : Hid (rbB bs = false) := hide (unhide I40h c40)
                have r0 := (unhide CB).c0
                have r1 := (unhide CB).c1
                have f0 := (unhide CB).fz
                clear CB x0 x1
                go_wp2
                exact bodyPost_ret (v := .tuple #[.agg #[.bool false, .slice none 0 0], .bool false]) (by simp [results, Try.results4, go_sem, r0, r1]) rfl (by rw [unhide RB, rb_no (unhide RB)]; exact outRB_no (s := w.heap.size) (Nat.le_refl _) (unhide HB) _ _)
        · have RB : Hid (rbB bs = false) := hide (rb_none (.inr (.inr (by rw [← unhide HD, ← unhide TS]; omega))))
          rw [decide_eq_false (show ¬ (s.size : Int) ≤ 200 by omega), Bool.and_false] at CL
          have HB := HB0
          have r0 := (unhide CB0).c0
          have r1 := (unhide CB0).c1
          have f0 := (unhide CB0).fz
          clear hD hbs hl
          go_wp2_with fail
          refine (unhide CL _).mono ?_
          rintro e w1 ⟨rfl, rfl⟩
          go_wp2
          exact bodyPost_ret (v := .tuple #[.agg #[.bool false, .slice none 0 0], .bool false]) (by simp [results, Try.results4, go_sem, r0, r1]) rfl (by rw [unhide RB, rb_no (unhide RB)]; exact outRB_no0 (unhide HB))
      · have RB : Hid (rbB bs = false) := hide (rb_none (.inr (.inl (List.length_eq_zero_iff.1 (by rw [← unhide HD, ← unhide TS]; omega)))))
        rw [decide_eq_false (show ¬ (1 : Int) ≤ (s.size : Int) by omega), Bool.false_and] at CL
        have HB := HB0
        have r0 := (unhide CB0).c0
        have r1 := (unhide CB0).c1
        have f0 := (unhide CB0).fz
        clear hD hbs hl
        go_wp2_with fail
        refine (unhide CL _).mono ?_
        rintro e w1 ⟨rfl, rfl⟩
        go_wp2
        exact bodyPost_ret (v := .tuple #[.agg #[.bool false, .slice none 0 0], .bool false]) (by simp [results, Try.results4, go_sem, r0, r1]) rfl (by rw [unhide RB, rb_no (unhide RB)]; exact outRB_no0 (unhide HB))
end Go.Proofs.Ytdgonpbponnnaaa
