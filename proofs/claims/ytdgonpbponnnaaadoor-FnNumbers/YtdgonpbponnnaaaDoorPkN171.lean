/- An argument that is a slice of bytes, as it came in. No condition. -/
import Derived.Test.YtdgonpbponnnaaaDoorPkN170
import Derived.Test.YtdgonpbponnnaaaDoorBt16
import Derived.Test.YtdgonpbponnnaaaDoorMulI
import Derived.Test.YtdgonpbponnnaaaDoorSgn
import Derived.Test.YtdgonpbponnnaaaDoorNb17
import Derived.Deep.Light
import Derived.Test.YtdgonpbponnnaaaDoorEq
import Derived.ShutString
import Derived.ChangeOld
import Derived.Lib.SmallJoins
import Derived.Test.YtdgonpbponnnaaaDoorCurY
namespace Go.Proofs.YtdgonpbponnnaaaDoor
open Go.RowKit
set_option linter.unusedVariables false
set_option maxRecDepth 100000
set_option linter.unusedSimpArgs false

theorem nm_pow16 {zs : List Int} {V i : Nat} (h : Nm zs (V : Int)) (hv : V < 10 ^ i) : zs.length ≤ i := by
  by_cases hl : zs.length ≤ i
  · exact hl
  · have a := top_le h.ok h.tr (by omega)
    have b := pow_mono (show i ≤ zs.length - 1 by omega)
    rw [h.v] at a
    have c : ((65536 ^ i : Nat) : Int) = (65536 : Int) ^ i := by rw [Int.natCast_pow]; rfl
    have d : ((65536 ^ i : Nat) : Int) ≤ (V : Int) := by rw [c]; exact Int.le_trans b a
    have e := Int.ofNat_le.1 d
    have f := Nat.pow_le_pow_left (show 10 ≤ 65536 by omega) i
    exact absurd hv (Nat.not_lt.2 (Nat.le_trans f e))
theorem dgN_lt : ∀ (l : List UInt8) (m n : Nat), dgN m l = some n → n < (m + 1) * 10 ^ l.length
  | [], m, n, h => by simp [dgN] at h; subst h; simp
  | c :: l, m, n, h => by
    simp only [dgN] at h
    split at h
    · cases h
    · have ih := dgN_lt l _ _ h
      have lt := UInt8.toNat_lt c
      refine Nat.lt_of_lt_of_le ih ?_
      rw [List.length_cons, Nat.pow_succ, show (m + 1) * (10 ^ l.length * 10) = (10 * m + 10) * 10 ^ l.length by rw [Nat.mul_comm (10 ^ l.length) 10, ← Nat.mul_assoc]; congr 1; omega]
      exact Nat.mul_le_mul_right _ (by omega)
theorem sd_nat16 (g : Bool) (n : Nat) : sd g (n : Int) = (g && decide (n ≠ 0)) := by
  unfold sd
  cases g
  · simp
  · by_cases h : n = 0
    · subst h; simp
    · simp [h]; omega
theorem outRB_no0 {w w2 : World} (hb : Below w.heap.size w w2) : OutRB w 0 false (.returned (.tuple #[.agg #[.bool false, .slice none 0 0], .bool false])) w2 := ⟨none, 0, 0, [], rfl, hb, .inl rfl, Arg.none _, Nm.zero, by omega⟩
/-- The box of the answer, not yet written. -/
structure Bz16 (b : Nat) (w : World) : Prop where
  c0 : w.cell? ⟨b, 0, none⟩ = some (.bool false)
  c1 : w.cell? ⟨b, 1, none⟩ = some (.slice none 0 0)
  fz : ∀ o, w.frozen? ⟨b, o, none⟩ = false
theorem Bz16.lt {b : Nat} {w : World} (h : Bz16 b w) : b < w.heap.size := World.block_lt_of_cell? _ _ h.c0
theorem Bz16.later {b : Nat} {w w' : World} (h : Bz16 b w) (hb : Below w.heap.size w w') : Bz16 b w' := ⟨cell_later hb h.c0, cell_later hb h.c1, fun o => frozen_later hb h.lt (h.fz o)⟩
theorem Bz16.start (w : World) : Bz16 w.heap.size (w.alloc (.cells #[.bool false, .slice none 0 0] 25)) := ⟨by simp [go_sem], by simp [go_sem], fun o => by simp [go_sem]⟩
theorem st_cmp {a b : List UInt8} : (st a != st b) = !decide (a = b) := by
  by_cases h : a = b
  · subst h; rw [st_ne]; simp
  · rw [decide_eq_false h]
    show (!((st a).data == (st b).data)) = true
    simp [st, h]
set_option maxHeartbeats 16000000 in
theorem ReadBigS (s : ByteArray) (w : World) (hs : s.size ≤ 1048576) :
    Calls Tryd.prog 24 #[.string s] w (OutRB w (rbV s.data.toList) (rbB s.data.toList)) := by
  obtain ⟨bs, hbs⟩ : ∃ bs, bs = s.data.toList := ⟨_, rfl⟩
  have hl : bs.length = s.size := by rw [hbs]; exact size_list s
  rw [← hbs]
  obtain ⟨D, hD⟩ : ∃ D, D = rbD bs := ⟨_, rfl⟩
  have HB0 : Hid (Below w.heap.size w (w.alloc (.cells #[.bool false, .slice none 0 0] 25))) := hide ((Below.refl _ _).alloc (Nat.le_refl _) _)
  have CB0 := hide (Bz16.start w)
  by_cases g : rbN bs = true
  · have NG : rbN bs = true := g
    have htl := rb_neg g
    rw [← hD] at htl
    have hp0 : 0 < s.size := by rw [← hl, htl]; simp
    have hp0' : (0 : Int) < (s.size : Int) := by omega
    have hp1 : 1 ≤ s.size := by omega
    have dp : decide ((0 : Int) < (s.size : Int)) = true := decide_eq_true hp0'
    have i0 : s[0]'hp0 = 45 := by
      have e : s[0]'hp0 = s.data.toList[0]'(by simpa using hp0) := rfl
      rw [e]
      have : s.data.toList[0]? = some 45 := by rw [← hbs, htl]; rfl
      exact (List.getElem?_eq_some_iff.1 this).2
    have TD : (s.extract 1 s.size).data.toList = D := by
      rw [Lib.extract_data, ← hbs]
      have e2 : bs.drop 1 = D := by rw [htl]; rfl
      rw [e2, List.take_of_length_le]
      have := congrArg List.length htl
      rw [List.length_cons] at this
      omega
    have TDH := hide TD
    have hDH := hide hD
    have hbsH := hide hbs
    have hlH := hide hl
    have NGH := hide NG
    clear TD hD hbs hl NG g htl
    go_enter Tryd.func24, Tryd.ntmps24
    go_upto_region 5 with fail
    have NG := unhide NGH
    have TD := unhide TDH
    have hD := unhide hDH
    have hbs := unhide hbsH
    have hl := unhide hlH
    clear TDH hDH hbsH hlH NGH
    generalize s.extract 1 s.size = T at *
    have TS : Hid (T.size = D.length) := hide (by rw [← TD, size_list])
    have IX : Hid (∀ i (h : i < T.size), ∃ h2 : i < D.length, T[i]'h = D[i]) := hide (fun i h => ⟨by have := unhide TS; omega, by subst TD; rfl⟩)
    clear dp i0 hp0 hp0' hp1 TD
    have CL := hide (fun w' => l1In_any (T.size : Int) 1 200 w')
    have HD := hide hD
    have HBS := hide hbs
    by_cases t1 : 1 ≤ T.size
    · by_cases t2 : T.size ≤ 200
      · have T1 := hide t1
        have T2 := hide t2
        rw [decide_eq_true (show (1 : Int) ≤ (T.size : Int) by omega), decide_eq_true (show (T.size : Int) ≤ 200 by omega)] at CL
        clear hD hbs hl
        go_wp2_with fail
        refine (unhide CL _).mono ?_
        rintro e w1 ⟨rfl, rfl⟩
        clear t1 t2
        go_wp2
        go_loopw [6, 7] (fun lv iv wr => ∃ (i n : Nat) (L : List Int) (la : Option Addr) (ln lc : Nat), i ≤ T.size ∧ iv = .int .i64 (i : Int) ∧ lv = .slice la ln lc ∧ ln ≤ 200 ∧ Hid (dgN 0 (D.take i) = some n) ∧ Hid (Arg wr la ln lc L) ∧ Hid (Own (w.heap.size + 1) wr la L) ∧ Hid (Nm L (n : Int)) ∧ Hid (Bz16 w.heap.size wr) ∧ Hid (Below w.heap.size w wr)) (fun _ iv _ => T.size - (intOf iv).toNat)
        case atStart => exact ⟨0, 0, [], none, 0, 0, Nat.zero_le _, rfl, rfl, by omega, hide rfl, hide (Arg.none _), hide (.inl rfl), hide Nm.zero, CB0, HB0⟩
        case round =>
          clear CB0 HB0
          obtain ⟨i, n, L, la, ln, lc, hi, rfl, rfl, l2, DG, AL, OL, NL, CB, HB⟩ := hrel
          by_cases hlt : i < T.size
          · have hlt' : (i : Int) < (T.size : Int) := by omega
            have hiD : i < D.length := by have := unhide TS; omega
            obtain ⟨_, e0⟩ := unhide IX i hlt
            obtain ⟨cc, hcc⟩ : ∃ z, z = D[i] := ⟨_, rfl⟩
            rw [← hcc] at e0
            have TK : D.take (i + 1) = D.take i ++ [cc] := by rw [hcc]; exact (List.take_append_getElem hiD).symm
            by_cases dg : 48 ≤ cc.toNat ∧ cc.toNat ≤ 57
            · obtain ⟨d, hd⟩ : ∃ d : Nat, cc.toNat = 48 + d := ⟨cc.toNat - 48, by omega⟩
              have DG2 : Hid (dgN 0 (D.take (i + 1)) = some (10 * n + d)) := hide (by
                rw [TK, dgN_snoc, unhide DG]
                simp only [Option.bind_some, dgN]
                rw [if_neg (by omega), show cc.toNat - 48 = d by omega])
              have NB0 := dgN_lt _ _ _ (unhide DG)
              rw [Nat.zero_add, Nat.one_mul, List.length_take_of_le (Nat.le_of_lt hiD)] at NB0
              have NB : Hid (10 * n < 10 ^ (i + 1)) := hide (by rw [Nat.pow_succ]; omega)
              have NB2 := dgN_lt _ _ _ (unhide DG2)
              rw [Nat.zero_add, Nat.one_mul, List.length_take_of_le (show i + 1 ≤ D.length by omega)] at NB2
              have i2 : i + 1 ≤ 200 := by have := unhide TS; have := unhide T2; omega
              have NBB := hide NB2
              have CM := hide (fun (w' : World) (x : Nat) (k : Arg w' la ln lc L) (k2 : Arg w' (some ⟨x, 0, none⟩) 1 1 [10]) => (show Calls Tryd.prog 50 #[.slice la ln lc, .slice (some ⟨x, 0, none⟩) 1 1] w' (Out w' ((10 * n : Nat) : Int)) from by
                have h := mulS_any la (some ⟨x, 0, none⟩) ln 1 lc 1 L [10] w' k k2 (unhide NL).ok (okL_one (by omega) (by omega)) (by omega) (by omega)
                rw [(unhide NL).v, show val [(10 : Int)] = 10 by simp [val], show (n : Int) * 10 = ((10 * n : Nat) : Int) by omega] at h
                exact h))
              have CA := hide (fun (w' : World) (x : Nat) (b : Option Addr) (m c2 : Nat) (zs : List Int) (k : Arg w' b m c2 zs) (k2 : Arg w' (some ⟨x, 0, none⟩) 1 1 [(d : Int)]) (nz : Nm zs ((10 * n : Nat) : Int)) (hm : m ≤ 1000) => (show Calls Tryd.prog 49 #[.slice b m c2, .slice (some ⟨x, 0, none⟩) 1 1] w' (OutU w' ((10 * n + d : Nat) : Int) (max m 1 + 1)) from by
                have h := addS_any b (some ⟨x, 0, none⟩) m 1 c2 1 zs [(d : Int)] w' k k2 nz.ok (okL_one (by omega) (by omega)) (by omega) (by omega)
                rw [nz.v, show val [(d : Int)] = (d : Int) by simp [val], show ((10 * n : Nat) : Int) + (d : Int) = ((10 * n + d : Nat) : Int) by omega] at h
                exact h))
              have b1 : ¬ ((cc.toNat : Int) < 48) := by omega
              have b2 : ¬ ((57 : Int) < (cc.toNat : Int)) := by omega
              have b1d : decide ((cc.toNat : Int) < 48) = false := decide_eq_false b1
              have b2d : decide ((57 : Int) < (cc.toNat : Int)) = false := decide_eq_false b2
              have w1 : IntKind.u8.wrap ((cc.toNat : Int) - 48) = (d : Int) := by rw [IntKind.wrap_u8]; omega
              have w2 : IntKind.i64.wrap (d : Int) = (d : Int) := by rw [IntKind.wrap_i64]; omega
              clear hcc TK dg hd NB0 NB2 OL hiD DG
              go_upto_region 13 with fail
              refine wp_region_held_drew (S := fun _ => True) (by kernel_rfl) trivial (fun hHeld => ?_)
              simp only [List.size_toArray, List.length_cons, List.length_nil, Nat.reduceAdd, Array.replicate_succ, Array.replicate_zero, List.push_toArray, List.nil_append, List.cons_append]
              refine wpAnyH_take (i := 0) (v := .slice la ln lc) rfl (by kernel_rfl) (by kernel_rfl) (by kernel_rfl) (fun _ _ _ h => h) (Or.inl ⟨by rfl, by intro w hSw; (try dsimp only at hSw); go_simp⟩) hHeld ?_
              simp only [Act.put, List.setIfInBounds_toArray, List.set_cons_zero, List.set_cons_succ]
              refine wpAnyH_take (i := 3) (v := .string T) rfl (by kernel_rfl) (by kernel_rfl) (by kernel_rfl) (fun _ _ _ h => h) (Or.inl ⟨by rfl, by intro w hSw; (try dsimp only at hSw); go_simp⟩) hHeld ?_
              simp only [Act.put, List.setIfInBounds_toArray, List.set_cons_zero, List.set_cons_succ]
              refine wpAnyH_take (i := 4) (v := .int .i64 (i : Int)) rfl (by kernel_rfl) (by kernel_rfl) (by kernel_rfl) (fun _ _ _ h => h) (Or.inl ⟨by rfl, by intro w hSw; (try dsimp only at hSw); go_simp⟩) hHeld ?_
              simp only [Act.put, List.setIfInBounds_toArray, List.set_cons_zero, List.set_cons_succ]
              refine wpAnyH_take (i := 5) (v := .int .u8 (cc.toNat : Int)) rfl (by kernel_rfl) (by kernel_rfl) (by kernel_rfl) (fun _ _ _ h => h) (Or.inl ⟨by rfl, by intro w hSw; (try dsimp only at hSw); go_simp⟩) hHeld ?_
              simp only [Act.put, List.setIfInBounds_toArray, List.set_cons_zero, List.set_cons_succ]
              refine wpAnyH_take (i := 6) (v := .int .u8 (d : Int)) rfl (by kernel_rfl) (by kernel_rfl) (by kernel_rfl) (fun _ _ _ h => h) (Or.inl ⟨by rfl, by intro w hSw; (try dsimp only at hSw); go_simp⟩) hHeld ?_
              simp only [Act.put, List.setIfInBounds_toArray, List.set_cons_zero, List.set_cons_succ]
              refine wpAnyH_take (i := 7) (v := .int .i64 (d : Int)) rfl (by kernel_rfl) (by kernel_rfl) (by kernel_rfl) (fun _ _ _ h => h) (Or.inl ⟨by rfl, by intro w hSw; (try dsimp only at hSw); go_simp⟩) hHeld ?_
              simp only [Act.put, List.setIfInBounds_toArray, List.set_cons_zero, List.set_cons_succ]
              have BD := (Below.refl wr.heap.size wr).drew
              replace AL := hide ((unhide AL).later BD)
              replace CB := hide ((unhide CB).later BD)
              replace HB := hide (below_on (unhide HB) BD)
              clear BD
              generalize wr.drew = w0 at *
              refine wpAnyH_ready (rs := [1, 8]) (by kernel_rfl) (by simp) (AllReadyH.cons rfl (fun K hK => ?a1) (AllReadyH.cons rfl (fun K hK => ?a2) AllReadyH.nil))
              case a1 =>
                go_simp
                have AT := hide (one_arg w0 (10)).1
                have al : Below (w0).heap.size w0 ((w0).alloc (.cells #[.int .i64 (10)] 3)) := (Below.refl _ _).alloc (Nat.le_refl _) _
                replace AL := hide ((unhide AL).later al)
                replace CB := hide ((unhide CB).later al)
                replace HB := hide (below_on (unhide HB) al)
                clear al
                refine hK.out _ _ trivial (fun hHeld2 => ?_)
                clear hK K hHeld
                have hHeld := hHeld2
                clear hHeld2
                simp only [Act.put, List.setIfInBounds_toArray, List.set_cons_zero, List.set_cons_succ]
                generalize (w0.alloc (.cells #[.int .i64 (10)] 3)) = wA at *
                refine wpAnyH_ready (rs := [2, 8]) (by kernel_rfl) (by simp) (AllReadyH.cons rfl (fun K hK => ?b1) (AllReadyH.cons rfl (fun K hK => ?b2) AllReadyH.nil))
                case b1 =>
                  go_simp
                  refine (unhide CM _ _ (unhide AL) (unhide AT)).mono ?_
                  rintro e w7 ⟨aM, nM, cM, zM, rfl, hbM, _, arM, nmM⟩
                  have AM := hide arM
                  have NM := hide nmM
                  replace CB := hide ((unhide CB).later hbM)
                  replace HB := hide (below_on (unhide HB) hbM)
                  clear hbM arM nmM
                  refine hK.out _ _ trivial (fun hHeld2 => ?_)
                  clear hK K hHeld
                  have hHeld := hHeld2
                  clear hHeld2
                  simp only [Act.put, List.setIfInBounds_toArray, List.set_cons_zero, List.set_cons_succ]
                  refine wpAnyH_ready (rs := [8]) (by kernel_rfl) (by simp) (AllReadyH.cons rfl (fun K hK => ?_) AllReadyH.nil)
                  go_simp
                  have AD := hide (one_arg w7 ((d : Int))).1
                  have al : Below (w7).heap.size w7 ((w7).alloc (.cells #[.int .i64 ((d : Int))] 3)) := (Below.refl _ _).alloc (Nat.le_refl _) _
                  replace AM := hide ((unhide AM).later al)
                  replace CB := hide ((unhide CB).later al)
                  replace HB := hide (below_on (unhide HB) al)
                  clear al
                  refine hK.out _ _ trivial (fun hHeld2 => ?_)
                  clear hK K hHeld
                  have hHeld := hHeld2
                  clear hHeld2
                  simp only [Act.put, List.setIfInBounds_toArray, List.set_cons_zero, List.set_cons_succ]
                  refine wpAnyH_ready (rs := [9]) (by kernel_rfl) (by simp) (AllReadyH.cons rfl (fun K hK => ?_) AllReadyH.nil)
                  go_simp
                  refine (unhide CA _ _ _ _ _ _ (unhide AM) (unhide AD) (unhide NM) ?_).mono ?_
                  · have := nm_pow16 (unhide NM) (unhide NB); rw [(unhide AM).len] at this; omega
                  rintro e w8 ⟨aA, nA, cA, zA, rfl, hbA, _, arA, okA, vA, lA⟩
                  have AA := hide arA
                  have OA := hide okA
                  have VA := hide vA
                  have nA1 : nA ≤ 1000 := by rw [arA.len] at lA; have h3 := nm_pow16 (unhide NM) (unhide NB); rw [(unhide AM).len] at h3; have h4 : max nM 1 ≤ 900 := Nat.max_le.2 ⟨by omega, by omega⟩; omega
                  replace CB := hide ((unhide CB).later hbA)
                  replace HB := hide (below_on (unhide HB) hbA)
                  clear hbA arA okA vA lA
                  refine hK.out _ _ trivial (fun hHeld2 => ?_)
                  clear hK K hHeld
                  have hHeld := hHeld2
                  clear hHeld2
                  simp only [Act.put, List.setIfInBounds_toArray, List.set_cons_zero, List.set_cons_succ]
                  refine wpAnyH_ready (rs := [10]) (by kernel_rfl) (by simp) (AllReadyH.cons rfl (fun K hK => ?_) AllReadyH.nil)
                  go_simp
                  refine (cut_any aA nA cA zA _ (unhide AA) (by omega)).mono ?_
                  rintro e w9 ⟨aC, nC, cC, rfl, hbC, owC, arC⟩
                  have AC := hide arC
                  have sz9 := (unhide HB).size
                  have lt9 := (unhide CB).lt
                  have OC := hide (owC.mono (show w.heap.size + 1 ≤ w8.heap.size by omega))
                  replace CB := hide ((unhide CB).later hbC)
                  replace HB := hide (below_on (unhide HB) hbC)
                  clear hbC arC owC
                  refine hK.out _ _ trivial (fun hHeld2 => ?_)
                  clear hK K hHeld
                  have hHeld := hHeld2
                  clear hHeld2
                  simp only [Act.put, List.setIfInBounds_toArray, List.set_cons_zero, List.set_cons_succ]
                  refine wpAnyH_take (i := 11) (v := .slice aC nC cC) rfl (by kernel_rfl) (by kernel_rfl) (by kernel_rfl) (fun _ _ _ h => h) (Or.inl ⟨by rfl, by intro w hSw; (try dsimp only at hSw); go_simp⟩) hHeld ?_
                  simp only [List.getElem_toArray, List.getElem_cons_zero, List.getElem_cons_succ, Act.put, List.setIfInBounds_toArray, List.set_cons_zero, List.set_cons_succ]
                  refine wpAnyH_done (by kernel_rfl) ?_ _
                  clear hHeld
                  have N2 : Hid (Nm (trim zA) ((10 * n + d : Nat) : Int)) := hide (by have h := Nm.trimmed (unhide OA); rw [unhide VA] at h; exact h)
                  have LC : (trim zA).length = nC := (unhide AC).len
                  have kb : nC ≤ 200 := by rw [← LC]; exact Nat.le_trans (nm_pow16 (unhide N2) (unhide NBB)) i2
                  clear LC
                  go_wp2
                  go_roundw
                  case rel => exact ⟨i + 1, 10 * n + d, trim zA, aC, nC, cC, by omega, by go_num, rfl, kb, DG2, AC, OC, N2, CB, HB⟩
                  case measure => simp [intOf]; omega
                case b2 =>
                  go_simp
                  have AD := hide (one_arg wA ((d : Int))).1
                  have al : Below (wA).heap.size wA ((wA).alloc (.cells #[.int .i64 ((d : Int))] 3)) := (Below.refl _ _).alloc (Nat.le_refl _) _
                  replace AL := hide ((unhide AL).later al)
                  replace AT := hide ((unhide AT).later al)
                  replace CB := hide ((unhide CB).later al)
                  replace HB := hide (below_on (unhide HB) al)
                  clear al
                  refine hK.out _ _ trivial (fun hHeld2 => ?_)
                  clear hK K hHeld
                  have hHeld := hHeld2
                  clear hHeld2
                  simp only [Act.put, List.setIfInBounds_toArray, List.set_cons_zero, List.set_cons_succ]
                  refine wpAnyH_ready (rs := [2]) (by kernel_rfl) (by simp) (AllReadyH.cons rfl (fun K hK => ?_) AllReadyH.nil)
                  go_simp
                  refine (unhide CM _ _ (unhide AL) (unhide AT)).mono ?_
                  rintro e w7 ⟨aM, nM, cM, zM, rfl, hbM, _, arM, nmM⟩
                  have AM := hide arM
                  have NM := hide nmM
                  replace CB := hide ((unhide CB).later hbM)
                  replace HB := hide (below_on (unhide HB) hbM)
                  replace AD := hide ((unhide AD).later hbM)
                  clear hbM arM nmM
                  refine hK.out _ _ trivial (fun hHeld2 => ?_)
                  clear hK K hHeld
                  have hHeld := hHeld2
                  clear hHeld2
                  simp only [Act.put, List.setIfInBounds_toArray, List.set_cons_zero, List.set_cons_succ]
                  refine wpAnyH_ready (rs := [9]) (by kernel_rfl) (by simp) (AllReadyH.cons rfl (fun K hK => ?_) AllReadyH.nil)
                  go_simp
                  refine (unhide CA _ _ _ _ _ _ (unhide AM) (unhide AD) (unhide NM) ?_).mono ?_
                  · have := nm_pow16 (unhide NM) (unhide NB); rw [(unhide AM).len] at this; omega
                  rintro e w8 ⟨aA, nA, cA, zA, rfl, hbA, _, arA, okA, vA, lA⟩
                  have AA := hide arA
                  have OA := hide okA
                  have VA := hide vA
                  have nA1 : nA ≤ 1000 := by rw [arA.len] at lA; have h3 := nm_pow16 (unhide NM) (unhide NB); rw [(unhide AM).len] at h3; have h4 : max nM 1 ≤ 900 := Nat.max_le.2 ⟨by omega, by omega⟩; omega
                  replace CB := hide ((unhide CB).later hbA)
                  replace HB := hide (below_on (unhide HB) hbA)
                  clear hbA arA okA vA lA
                  refine hK.out _ _ trivial (fun hHeld2 => ?_)
                  clear hK K hHeld
                  have hHeld := hHeld2
                  clear hHeld2
                  simp only [Act.put, List.setIfInBounds_toArray, List.set_cons_zero, List.set_cons_succ]
                  refine wpAnyH_ready (rs := [10]) (by kernel_rfl) (by simp) (AllReadyH.cons rfl (fun K hK => ?_) AllReadyH.nil)
                  go_simp
                  refine (cut_any aA nA cA zA _ (unhide AA) (by omega)).mono ?_
                  rintro e w9 ⟨aC, nC, cC, rfl, hbC, owC, arC⟩
                  have AC := hide arC
                  have sz9 := (unhide HB).size
                  have lt9 := (unhide CB).lt
                  have OC := hide (owC.mono (show w.heap.size + 1 ≤ w8.heap.size by omega))
                  replace CB := hide ((unhide CB).later hbC)
                  replace HB := hide (below_on (unhide HB) hbC)
                  clear hbC arC owC
                  refine hK.out _ _ trivial (fun hHeld2 => ?_)
                  clear hK K hHeld
                  have hHeld := hHeld2
                  clear hHeld2
                  simp only [Act.put, List.setIfInBounds_toArray, List.set_cons_zero, List.set_cons_succ]
                  refine wpAnyH_take (i := 11) (v := .slice aC nC cC) rfl (by kernel_rfl) (by kernel_rfl) (by kernel_rfl) (fun _ _ _ h => h) (Or.inl ⟨by rfl, by intro w hSw; (try dsimp only at hSw); go_simp⟩) hHeld ?_
                  simp only [List.getElem_toArray, List.getElem_cons_zero, List.getElem_cons_succ, Act.put, List.setIfInBounds_toArray, List.set_cons_zero, List.set_cons_succ]
                  refine wpAnyH_done (by kernel_rfl) ?_ _
                  clear hHeld
                  have N2 : Hid (Nm (trim zA) ((10 * n + d : Nat) : Int)) := hide (by have h := Nm.trimmed (unhide OA); rw [unhide VA] at h; exact h)
                  have LC : (trim zA).length = nC := (unhide AC).len
                  have kb : nC ≤ 200 := by rw [← LC]; exact Nat.le_trans (nm_pow16 (unhide N2) (unhide NBB)) i2
                  clear LC
                  go_wp2
                  go_roundw
                  case rel => exact ⟨i + 1, 10 * n + d, trim zA, aC, nC, cC, by omega, by go_num, rfl, kb, DG2, AC, OC, N2, CB, HB⟩
                  case measure => simp [intOf]; omega
              case a2 =>
                go_simp
                have AD := hide (one_arg w0 ((d : Int))).1
                have al : Below (w0).heap.size w0 ((w0).alloc (.cells #[.int .i64 ((d : Int))] 3)) := (Below.refl _ _).alloc (Nat.le_refl _) _
                replace AL := hide ((unhide AL).later al)
                replace CB := hide ((unhide CB).later al)
                replace HB := hide (below_on (unhide HB) al)
                clear al
                refine hK.out _ _ trivial (fun hHeld2 => ?_)
                clear hK K hHeld
                have hHeld := hHeld2
                clear hHeld2
                simp only [Act.put, List.setIfInBounds_toArray, List.set_cons_zero, List.set_cons_succ]
                generalize (w0.alloc (.cells #[.int .i64 ((d : Int))] 3)) = wA at *
                refine wpAnyH_ready (rs := [1]) (by kernel_rfl) (by simp) (AllReadyH.cons rfl (fun K hK => ?_) AllReadyH.nil)
                go_simp
                have AT := hide (one_arg wA (10)).1
                have al : Below (wA).heap.size wA ((wA).alloc (.cells #[.int .i64 (10)] 3)) := (Below.refl _ _).alloc (Nat.le_refl _) _
                replace AL := hide ((unhide AL).later al)
                replace AD := hide ((unhide AD).later al)
                replace CB := hide ((unhide CB).later al)
                replace HB := hide (below_on (unhide HB) al)
                clear al
                refine hK.out _ _ trivial (fun hHeld2 => ?_)
                clear hK K hHeld
                have hHeld := hHeld2
                clear hHeld2
                simp only [Act.put, List.setIfInBounds_toArray, List.set_cons_zero, List.set_cons_succ]
                refine wpAnyH_ready (rs := [2]) (by kernel_rfl) (by simp) (AllReadyH.cons rfl (fun K hK => ?_) AllReadyH.nil)
                go_simp
                refine (unhide CM _ _ (unhide AL) (unhide AT)).mono ?_
                rintro e w7 ⟨aM, nM, cM, zM, rfl, hbM, _, arM, nmM⟩
                have AM := hide arM
                have NM := hide nmM
                replace CB := hide ((unhide CB).later hbM)
                replace HB := hide (below_on (unhide HB) hbM)
                replace AD := hide ((unhide AD).later hbM)
                clear hbM arM nmM
                refine hK.out _ _ trivial (fun hHeld2 => ?_)
                clear hK K hHeld
                have hHeld := hHeld2
                clear hHeld2
                simp only [Act.put, List.setIfInBounds_toArray, List.set_cons_zero, List.set_cons_succ]
                refine wpAnyH_ready (rs := [9]) (by kernel_rfl) (by simp) (AllReadyH.cons rfl (fun K hK => ?_) AllReadyH.nil)
                go_simp
                refine (unhide CA _ _ _ _ _ _ (unhide AM) (unhide AD) (unhide NM) ?_).mono ?_
                · have := nm_pow16 (unhide NM) (unhide NB); rw [(unhide AM).len] at this; omega
                rintro e w8 ⟨aA, nA, cA, zA, rfl, hbA, _, arA, okA, vA, lA⟩
                have AA := hide arA
                have OA := hide okA
                have VA := hide vA
                have nA1 : nA ≤ 1000 := by rw [arA.len] at lA; have h3 := nm_pow16 (unhide NM) (unhide NB); rw [(unhide AM).len] at h3; have h4 : max nM 1 ≤ 900 := Nat.max_le.2 ⟨by omega, by omega⟩; omega
                replace CB := hide ((unhide CB).later hbA)
                replace HB := hide (below_on (unhide HB) hbA)
                clear hbA arA okA vA lA
                refine hK.out _ _ trivial (fun hHeld2 => ?_)
                clear hK K hHeld
                have hHeld := hHeld2
                clear hHeld2
                simp only [Act.put, List.setIfInBounds_toArray, List.set_cons_zero, List.set_cons_succ]
                refine wpAnyH_ready (rs := [10]) (by kernel_rfl) (by simp) (AllReadyH.cons rfl (fun K hK => ?_) AllReadyH.nil)
                go_simp
                refine (cut_any aA nA cA zA _ (unhide AA) (by omega)).mono ?_
                rintro e w9 ⟨aC, nC, cC, rfl, hbC, owC, arC⟩
                have AC := hide arC
                have sz9 := (unhide HB).size
                have lt9 := (unhide CB).lt
                have OC := hide (owC.mono (show w.heap.size + 1 ≤ w8.heap.size by omega))
                replace CB := hide ((unhide CB).later hbC)
                replace HB := hide (below_on (unhide HB) hbC)
                clear hbC arC owC
                refine hK.out _ _ trivial (fun hHeld2 => ?_)
                clear hK K hHeld
                have hHeld := hHeld2
                clear hHeld2
                simp only [Act.put, List.setIfInBounds_toArray, List.set_cons_zero, List.set_cons_succ]
                refine wpAnyH_take (i := 11) (v := .slice aC nC cC) rfl (by kernel_rfl) (by kernel_rfl) (by kernel_rfl) (fun _ _ _ h => h) (Or.inl ⟨by rfl, by intro w hSw; (try dsimp only at hSw); go_simp⟩) hHeld ?_
                simp only [List.getElem_toArray, List.getElem_cons_zero, List.getElem_cons_succ, Act.put, List.setIfInBounds_toArray, List.set_cons_zero, List.set_cons_succ]
                refine wpAnyH_done (by kernel_rfl) ?_ _
                clear hHeld
                have N2 : Hid (Nm (trim zA) ((10 * n + d : Nat) : Int)) := hide (by have h := Nm.trimmed (unhide OA); rw [unhide VA] at h; exact h)
                have LC : (trim zA).length = nC := (unhide AC).len
                have kb : nC ≤ 200 := by rw [← LC]; exact Nat.le_trans (nm_pow16 (unhide N2) (unhide NBB)) i2
                clear LC
                go_wp2
                go_roundw
                case rel => exact ⟨i + 1, 10 * n + d, trim zA, aC, nC, cC, by omega, by go_num, rfl, kb, DG2, AC, OC, N2, CB, HB⟩
                case measure => simp [intOf]; omega
            · have RB : Hid (rbB bs = false) := hide (rb_none (.inl (by rw [← unhide HD]; exact dgN_bad hiD (by rw [← hcc]; exact dg) 0)))
              have r0 := (unhide CB).c0
              have r1 := (unhide CB).c1
              have f0 := (unhide CB).fz
              by_cases q1 : cc.toNat < 48
              · have b1 : (cc.toNat : Int) < 48 := by omega
                have b1d : decide ((cc.toNat : Int) < 48) = true := decide_eq_true b1
                clear hcc TK dg AL OL NL DG hiD
                go_wp2
                exact bodyPost_ret (v := .tuple #[.agg #[.bool false, .slice none 0 0], .bool false]) (by simp [results, Tryd.results24, go_sem, r0, r1]) rfl (by rw [unhide RB, rb_no (unhide RB)]; exact outRB_no (s := w.heap.size) (Nat.le_refl _) (unhide HB) _ _)
              · have b1 : ¬ (cc.toNat : Int) < 48 := by omega
                have b1d : decide ((cc.toNat : Int) < 48) = false := decide_eq_false b1
                have b2 : (57 : Int) < (cc.toNat : Int) := by omega
                have b2d : decide ((57 : Int) < (cc.toNat : Int)) = true := decide_eq_true b2
                clear hcc TK dg AL OL NL DG hiD
                go_wp2
                exact bodyPost_ret (v := .tuple #[.agg #[.bool false, .slice none 0 0], .bool false]) (by simp [results, Tryd.results24, go_sem, r0, r1]) rfl (by rw [unhide RB, rb_no (unhide RB)]; exact outRB_no (s := w.heap.size) (Nat.le_refl _) (unhide HB) _ _)
          · obtain rfl : i = T.size := by omega
            have DD : dgN 0 (rbD bs) = some n := by
              have h := unhide DG
              rw [List.take_of_length_le (by have := unhide TS; omega)] at h
              rw [← unhide HD]; exact h
            have NB0 := dgN_lt _ _ _ DD
            rw [Nat.zero_add, Nat.one_mul, ← unhide HD, ← unhide TS] at NB0
            have NB : n < 10 ^ 200 := Nat.lt_of_lt_of_le NB0 (Nat.pow_le_pow_right (by omega) (unhide T2))
            have DV : Hid ((Lib.decDigits n).length ≤ 1000) := hide (by have := dd_len 199 n NB; omega)
            have IFF := rb_iff DD (by
              intro k
              have h := unhide HD
              rw [k] at h
              have h3 : D.length = 0 := by rw [h]; rfl
              have h2 := unhide TS
              have h4 := unhide T1
              omega)
            rw [← sd_nat16] at IFF
            have lt0 := (unhide CB).lt
            have LN : L.length = ln := (unhide AL).len
            have CS := hide (signS_out (rbN bs) la ln lc L wr (w.heap.size + 1) (n : Int) (unhide AL) (unhide OL) (unhide NL).ok (unhide NL).v lt0 (by omega))
            have L40 := nm_40 (unhide NL)
            rw [LN] at L40
            have SGN : Hid (∀ ts, Nm ts (n : Int) → ts = [] → sd (rbN bs) (n : Int) = false) := hide (fun ts k e => by
              have z := k.nil_iff.1 e
              rw [sd_nat16, show n = 0 by omega]; simp)
            have EV : Hid (rbB bs = true → rbV bs = if rbN bs = true then -(n : Int) else (n : Int)) := hide (fun k => by unfold rbV; rw [if_pos k, IFF.2 k])
            rw [NG] at CS SGN EV IFF
            have NLX := unhide NL
            have I40 : ¬ ln ≤ 40 → rbB bs = false := fun k => by rw [IFF.1, decide_eq_false (fun q => k (L40.2 q))]; rfl
            have I41 : ln ≤ 40 → rbB bs = decide (txV (sd true (n : Int)) n = bs) := fun k => by rw [IFF.1, decide_eq_true (L40.1 k), Bool.true_and]
            have SS : Hid (s = st bs) := hide (by rw [unhide HBS]; exact st_of s)
            obtain ⟨SG, hSGq⟩ : ∃ z, z = sd true (n : Int) := ⟨_, rfl⟩
            rw [← hSGq] at CS SGN I41
            have I40h := hide I40
            have I41h := hide I41
            have NLh := hide NLX
            have LNh := hide LN
            have SGq := hide hSGq
            clear DD NB0 NB IFF L40 I40 I41 NLX NL AL OL LN DG hSGq
            go_wp2_with fail
            refine (unhide CS).mono ?_
            rintro e w2 ⟨a2, n2, c2, ts, rfl, hb2, ho2, ha2, hn2⟩
            have EL : ts = L := hn2.same (unhide NLh)
            have en : n2 = ln := by rw [← ha2.len, EL]; exact unhide LNh
            have AL2 : Below w2.heap.size w2 (w2.alloc (.cells #[.bool SG, .slice a2 n2 c2] 25)) := (Below.refl _ _).alloc (Nat.le_refl _) _
            replace CB := hide (((unhide CB).later hb2).later AL2)
            replace HB := hide (below_on (below_on (unhide HB) hb2) AL2)
            have A2 := hide (ha2.later AL2)
            have O2 := hide (ho2.later AL2)
            have N2 := hide hn2
            have x0 : (w2.alloc (.cells #[.bool SG, .slice a2 n2 c2] 25)).cell? ⟨w2.heap.size, 0, none⟩ = some (.bool SG) := by simp [go_sem]
            have x1 : (w2.alloc (.cells #[.bool SG, .slice a2 n2 c2] 25)).cell? ⟨w2.heap.size, 1, none⟩ = some (.slice a2 n2 c2) := by simp [go_sem]
            clear hb2 ho2 ha2 hn2 AL2 CS EL
            subst en
            by_cases c40 : n2 ≤ 40
            · have d0 : ¬ (40 : Int) < (n2 : Int) := by omega
              have d1 : decide ((40 : Int) < (n2 : Int)) = false := decide_eq_false d0
              have CT := hide (textS16 SG a2 n2 c2 ts n _ (unhide A2) (unhide N2) c40 (fun k => unhide SGN ts (unhide N2) k) (unhide DV))
              have RQ := hide (unhide I41h c40)
              go_wp2_with fail
              refine (unhide CT).mono ?_
              rintro e w3 ⟨rfl, hb3⟩
              replace x0 := cell_later hb3 x0
              replace x1 := cell_later hb3 x1
              replace CB := hide ((unhide CB).later hb3)
              replace HB := hide (below_on (unhide HB) hb3)
              replace A2 := hide ((unhide A2).later hb3)
              replace O2 := hide ((unhide O2).later hb3)
              have r0 := (unhide CB).c0
              have r1 := (unhide CB).c1
              have f0 := (unhide CB).fz
              clear hb3 CT CB
              by_cases q : txV SG n = bs
              · have RBT : rbB bs = true := by rw [unhide RQ]; exact decide_eq_true q
                have EC : (st (txV SG n) != s) = false := by rw [unhide SS, q]; exact st_ne _
                have EV2 : Hid (rbV bs = if true = true then -(n : Int) else (n : Int)) := hide (unhide EV RBT)
                have EC2 : st (txV SG n) = s := by rw [unhide SS, q]
                have EC3 : ((st (txV SG n)).toList == s.toList) = true := by rw [EC2]; simp
                clear q
                generalize rbV bs = V at *
                go_wp2
                exact bodyPost_ret (v := .tuple #[.agg #[.bool SG, .slice a2 n2 c2], .bool true]) (by simp [results, Tryd.results24, go_sem, r0, r1]) rfl (by rw [unhide SGq, RBT]; exact outRB_of (g := true) (s := w.heap.size) (Nat.le_refl _) (unhide HB) (unhide O2) (unhide A2) (unhide N2) (by simpa using unhide EV2) c40 _ _)
              · have RB : Hid (rbB bs = false) := hide (by rw [unhide RQ]; exact decide_eq_false q)
                have EC : (st (txV SG n) != s) = true := by rw [unhide SS, st_cmp, decide_eq_false q]; rfl
                have EC3 : ((st (txV SG n)).toList == s.toList) = false := by rw [unhide SS, ByteArray.toList_eq, ByteArray.toList_eq, st_data, st_data, beq_eq_false_iff_ne]; exact q
                clear q
                go_wp2
                exact bodyPost_ret (v := .tuple #[.agg #[.bool false, .slice none 0 0], .bool false]) (by simp [results, Tryd.results24, go_sem, r0, r1]) rfl (by rw [unhide RB, rb_no (unhide RB)]; exact outRB_no (s := w.heap.size) (Nat.le_refl _) (unhide HB) _ _)
            · have d0 : (40 : Int) < (n2 : Int) := by omega
              have d1 : decide ((40 : Int) < (n2 : Int)) = true := decide_eq_true d0
              have RB : Hid (rbB bs = false) := hide (unhide I40h c40)
              have r0 := (unhide CB).c0
              have r1 := (unhide CB).c1
              have f0 := (unhide CB).fz
              clear CB x0 x1
              go_wp2
              exact bodyPost_ret (v := .tuple #[.agg #[.bool false, .slice none 0 0], .bool false]) (by simp [results, Tryd.results24, go_sem, r0, r1]) rfl (by rw [unhide RB, rb_no (unhide RB)]; exact outRB_no (s := w.heap.size) (Nat.le_refl _) (unhide HB) _ _)
      · have RB : Hid (rbB bs = false) := hide (rb_none (.inr (.inr (by rw [← unhide HD, ← unhide TS]; omega))))
        rw [decide_eq_false (show ¬ (T.size : Int) ≤ 200 by omega), Bool.and_false] at CL
        have HB := HB0
        have r0 := (unhide CB0).c0
        have r1 := (unhide CB0).c1
        have f0 := (unhide CB0).fz
        clear hD hbs hl
        go_wp2_with fail
        refine (unhide CL _).mono ?_
        rintro e w1 ⟨rfl, rfl⟩
        go_wp2
        exact bodyPost_ret (v := .tuple #[.agg #[.bool false, .slice none 0 0], .bool false]) (by simp [results, Tryd.results24, go_sem, r0, r1]) rfl (by rw [unhide RB, rb_no (unhide RB)]; exact outRB_no0 (unhide HB))
    · have RB : Hid (rbB bs = false) := hide (rb_none (.inr (.inl (List.length_eq_zero_iff.1 (by rw [← unhide HD, ← unhide TS]; omega)))))
      rw [decide_eq_false (show ¬ (1 : Int) ≤ (T.size : Int) by omega), Bool.false_and] at CL
      have HB := HB0
      have r0 := (unhide CB0).c0
      have r1 := (unhide CB0).c1
      have f0 := (unhide CB0).fz
      clear hD hbs hl
      go_wp2_with fail
      refine (unhide CL _).mono ?_
      rintro e w1 ⟨rfl, rfl⟩
      go_wp2
      exact bodyPost_ret (v := .tuple #[.agg #[.bool false, .slice none 0 0], .bool false]) (by simp [results, Tryd.results24, go_sem, r0, r1]) rfl (by rw [unhide RB, rb_no (unhide RB)]; exact outRB_no0 (unhide HB))
  · have NG : rbN bs = false := by simpa using g
    have TD : rbD bs = bs := rb_pos NG
    have TS : Hid (s.size = D.length) := hide (by rw [hD, TD, hl])
    have IX : Hid (∀ i (h : i < s.size), ∃ h2 : i < D.length, s[i]'h = D[i]) := hide (fun i h => ⟨by have := unhide TS; omega, by rw [TD] at hD; subst hD; subst hbs; rfl⟩)
    by_cases z : s.size = 0
    · have hp0' : ¬ (0 : Int) < (s.size : Int) := by omega
      have dp : decide ((0 : Int) < (s.size : Int)) = false := decide_eq_false hp0'
      have RB : Hid (rbB bs = false) := hide (rb_none (.inr (.inl (by rw [TD]; exact List.length_eq_zero_iff.1 (by omega)))))
      have CL := hide (fun w' => l1In_any (s.size : Int) 1 200 w')
      rw [decide_eq_false (show ¬ (1 : Int) ≤ (s.size : Int) by omega), Bool.false_and] at CL
      have HB := HB0
      have r0 := (unhide CB0).c0
      have r1 := (unhide CB0).c1
      have f0 := (unhide CB0).fz
      clear TD hD hbs g hl z NG
      go_enter Tryd.func24, Tryd.ntmps24
      go_wp2_with fail
      refine (unhide CL _).mono ?_
      rintro e w1 ⟨rfl, rfl⟩
      go_wp2
      exact bodyPost_ret (v := .tuple #[.agg #[.bool false, .slice none 0 0], .bool false]) (by simp [results, Tryd.results24, go_sem, r0, r1]) rfl (by rw [unhide RB, rb_no (unhide RB)]; exact outRB_no0 (unhide HB))
    · have hp0 : 0 < s.size := by omega
      have hp0' : (0 : Int) < (s.size : Int) := by omega
      have dp : decide ((0 : Int) < (s.size : Int)) = true := decide_eq_true hp0'
      obtain ⟨c0, hc0⟩ : ∃ c, c = bs[0]'(by omega) := ⟨_, rfl⟩
      have i0 : s[0]'hp0 = c0 := by rw [hc0]; subst hbs; rfl
      have c1 : c0 ≠ 45 := by
        intro e
        apply g
        obtain ⟨d, tl, hd⟩ := List.exists_cons_of_ne_nil (show bs ≠ [] by intro k; rw [k] at hl; simp at hl; omega)
        subst hd
        have : d = 45 := by rw [← e, hc0]; rfl
        rw [this]; rfl
      have c2 : ((c0.toNat : Int) == 45) = false := by
        rw [beq_eq_false_iff_ne]
        intro k
        exact c1 (by have := u8_of (c := c0) (k := 45) (by omega) (by omega); rw [this]; rfl)
      have c3 : ¬ ((c0.toNat : Int) = 45) := by simpa using c2
      have hDH := hide hD
      have hbsH := hide hbs
      have hlH := hide hl
      have NGH := hide NG
      clear TD hD hbs hl NG g z hc0 c1
      go_enter Tryd.func24, Tryd.ntmps24
      go_upto_region 5 with fail
      have NG := unhide NGH
      have hD := unhide hDH
      have hbs := unhide hbsH
      have hl := unhide hlH
      clear dp i0 hp0 hp0' c2 c3 hDH hbsH hlH NGH
      have CL := hide (fun w' => l1In_any (s.size : Int) 1 200 w')
      have HD := hide hD
      have HBS := hide hbs
      by_cases t1 : 1 ≤ s.size
      · by_cases t2 : s.size ≤ 200
        · have T1 := hide t1
          have T2 := hide t2
          rw [decide_eq_true (show (1 : Int) ≤ (s.size : Int) by omega), decide_eq_true (show (s.size : Int) ≤ 200 by omega)] at CL
          clear hD hbs hl
          go_wp2_with fail
          refine (unhide CL _).mono ?_
          rintro e w1 ⟨rfl, rfl⟩
          clear t1 t2
          go_wp2
          go_loopw [6, 7] (fun lv iv wr => ∃ (i n : Nat) (L : List Int) (la : Option Addr) (ln lc : Nat), i ≤ s.size ∧ iv = .int .i64 (i : Int) ∧ lv = .slice la ln lc ∧ ln ≤ 200 ∧ Hid (dgN 0 (D.take i) = some n) ∧ Hid (Arg wr la ln lc L) ∧ Hid (Own (w.heap.size + 1) wr la L) ∧ Hid (Nm L (n : Int)) ∧ Hid (Bz16 w.heap.size wr) ∧ Hid (Below w.heap.size w wr)) (fun _ iv _ => s.size - (intOf iv).toNat)
          case atStart => exact ⟨0, 0, [], none, 0, 0, Nat.zero_le _, rfl, rfl, by omega, hide rfl, hide (Arg.none _), hide (.inl rfl), hide Nm.zero, CB0, HB0⟩
          case round =>
            clear CB0 HB0
            obtain ⟨i, n, L, la, ln, lc, hi, rfl, rfl, l2, DG, AL, OL, NL, CB, HB⟩ := hrel
            by_cases hlt : i < s.size
            · have hlt' : (i : Int) < (s.size : Int) := by omega
              have hiD : i < D.length := by have := unhide TS; omega
              obtain ⟨_, e0⟩ := unhide IX i hlt
              obtain ⟨cc, hcc⟩ : ∃ z, z = D[i] := ⟨_, rfl⟩
              rw [← hcc] at e0
              have TK : D.take (i + 1) = D.take i ++ [cc] := by rw [hcc]; exact (List.take_append_getElem hiD).symm
              by_cases dg : 48 ≤ cc.toNat ∧ cc.toNat ≤ 57
              · obtain ⟨d, hd⟩ : ∃ d : Nat, cc.toNat = 48 + d := ⟨cc.toNat - 48, by omega⟩
                have DG2 : Hid (dgN 0 (D.take (i + 1)) = some (10 * n + d)) := hide (by
                  rw [TK, dgN_snoc, unhide DG]
                  simp only [Option.bind_some, dgN]
                  rw [if_neg (by omega), show cc.toNat - 48 = d by omega])
                have NB0 := dgN_lt _ _ _ (unhide DG)
                rw [Nat.zero_add, Nat.one_mul, List.length_take_of_le (Nat.le_of_lt hiD)] at NB0
                have NB : Hid (10 * n < 10 ^ (i + 1)) := hide (by rw [Nat.pow_succ]; omega)
                have NB2 := dgN_lt _ _ _ (unhide DG2)
                rw [Nat.zero_add, Nat.one_mul, List.length_take_of_le (show i + 1 ≤ D.length by omega)] at NB2
                have i2 : i + 1 ≤ 200 := by have := unhide TS; have := unhide T2; omega
                have NBB := hide NB2
                have CM := hide (fun (w' : World) (x : Nat) (k : Arg w' la ln lc L) (k2 : Arg w' (some ⟨x, 0, none⟩) 1 1 [10]) => (show Calls Tryd.prog 50 #[.slice la ln lc, .slice (some ⟨x, 0, none⟩) 1 1] w' (Out w' ((10 * n : Nat) : Int)) from by
                  have h := mulS_any la (some ⟨x, 0, none⟩) ln 1 lc 1 L [10] w' k k2 (unhide NL).ok (okL_one (by omega) (by omega)) (by omega) (by omega)
                  rw [(unhide NL).v, show val [(10 : Int)] = 10 by simp [val], show (n : Int) * 10 = ((10 * n : Nat) : Int) by omega] at h
                  exact h))
                have CA := hide (fun (w' : World) (x : Nat) (b : Option Addr) (m c2 : Nat) (zs : List Int) (k : Arg w' b m c2 zs) (k2 : Arg w' (some ⟨x, 0, none⟩) 1 1 [(d : Int)]) (nz : Nm zs ((10 * n : Nat) : Int)) (hm : m ≤ 1000) => (show Calls Tryd.prog 49 #[.slice b m c2, .slice (some ⟨x, 0, none⟩) 1 1] w' (OutU w' ((10 * n + d : Nat) : Int) (max m 1 + 1)) from by
                  have h := addS_any b (some ⟨x, 0, none⟩) m 1 c2 1 zs [(d : Int)] w' k k2 nz.ok (okL_one (by omega) (by omega)) (by omega) (by omega)
                  rw [nz.v, show val [(d : Int)] = (d : Int) by simp [val], show ((10 * n : Nat) : Int) + (d : Int) = ((10 * n + d : Nat) : Int) by omega] at h
                  exact h))
                have b1 : ¬ ((cc.toNat : Int) < 48) := by omega
                have b2 : ¬ ((57 : Int) < (cc.toNat : Int)) := by omega
                have b1d : decide ((cc.toNat : Int) < 48) = false := decide_eq_false b1
                have b2d : decide ((57 : Int) < (cc.toNat : Int)) = false := decide_eq_false b2
                have w1 : IntKind.u8.wrap ((cc.toNat : Int) - 48) = (d : Int) := by rw [IntKind.wrap_u8]; omega
                have w2 : IntKind.i64.wrap (d : Int) = (d : Int) := by rw [IntKind.wrap_i64]; omega
                clear hcc TK dg hd NB0 NB2 OL hiD DG
                go_upto_region 13 with fail
                refine wp_region_held_drew (S := fun _ => True) (by kernel_rfl) trivial (fun hHeld => ?_)
                simp only [List.size_toArray, List.length_cons, List.length_nil, Nat.reduceAdd, Array.replicate_succ, Array.replicate_zero, List.push_toArray, List.nil_append, List.cons_append]
                refine wpAnyH_take (i := 0) (v := .slice la ln lc) rfl (by kernel_rfl) (by kernel_rfl) (by kernel_rfl) (fun _ _ _ h => h) (Or.inl ⟨by rfl, by intro w hSw; (try dsimp only at hSw); go_simp⟩) hHeld ?_
                simp only [Act.put, List.setIfInBounds_toArray, List.set_cons_zero, List.set_cons_succ]
                refine wpAnyH_take (i := 3) (v := .string s) rfl (by kernel_rfl) (by kernel_rfl) (by kernel_rfl) (fun _ _ _ h => h) (Or.inl ⟨by rfl, by intro w hSw; (try dsimp only at hSw); go_simp⟩) hHeld ?_
                simp only [Act.put, List.setIfInBounds_toArray, List.set_cons_zero, List.set_cons_succ]
                refine wpAnyH_take (i := 4) (v := .int .i64 (i : Int)) rfl (by kernel_rfl) (by kernel_rfl) (by kernel_rfl) (fun _ _ _ h => h) (Or.inl ⟨by rfl, by intro w hSw; (try dsimp only at hSw); go_simp⟩) hHeld ?_
                simp only [Act.put, List.setIfInBounds_toArray, List.set_cons_zero, List.set_cons_succ]
                refine wpAnyH_take (i := 5) (v := .int .u8 (cc.toNat : Int)) rfl (by kernel_rfl) (by kernel_rfl) (by kernel_rfl) (fun _ _ _ h => h) (Or.inl ⟨by rfl, by intro w hSw; (try dsimp only at hSw); go_simp⟩) hHeld ?_
                simp only [Act.put, List.setIfInBounds_toArray, List.set_cons_zero, List.set_cons_succ]
                refine wpAnyH_take (i := 6) (v := .int .u8 (d : Int)) rfl (by kernel_rfl) (by kernel_rfl) (by kernel_rfl) (fun _ _ _ h => h) (Or.inl ⟨by rfl, by intro w hSw; (try dsimp only at hSw); go_simp⟩) hHeld ?_
                simp only [Act.put, List.setIfInBounds_toArray, List.set_cons_zero, List.set_cons_succ]
                refine wpAnyH_take (i := 7) (v := .int .i64 (d : Int)) rfl (by kernel_rfl) (by kernel_rfl) (by kernel_rfl) (fun _ _ _ h => h) (Or.inl ⟨by rfl, by intro w hSw; (try dsimp only at hSw); go_simp⟩) hHeld ?_
                simp only [Act.put, List.setIfInBounds_toArray, List.set_cons_zero, List.set_cons_succ]
                have BD := (Below.refl wr.heap.size wr).drew
                replace AL := hide ((unhide AL).later BD)
                replace CB := hide ((unhide CB).later BD)
                replace HB := hide (below_on (unhide HB) BD)
                clear BD
                generalize wr.drew = w0 at *
                refine wpAnyH_ready (rs := [1, 8]) (by kernel_rfl) (by simp) (AllReadyH.cons rfl (fun K hK => ?a1) (AllReadyH.cons rfl (fun K hK => ?a2) AllReadyH.nil))
                case a1 =>
                  go_simp
                  have AT := hide (one_arg w0 (10)).1
                  have al : Below (w0).heap.size w0 ((w0).alloc (.cells #[.int .i64 (10)] 3)) := (Below.refl _ _).alloc (Nat.le_refl _) _
                  replace AL := hide ((unhide AL).later al)
                  replace CB := hide ((unhide CB).later al)
                  replace HB := hide (below_on (unhide HB) al)
                  clear al
                  refine hK.out _ _ trivial (fun hHeld2 => ?_)
                  clear hK K hHeld
                  have hHeld := hHeld2
                  clear hHeld2
                  simp only [Act.put, List.setIfInBounds_toArray, List.set_cons_zero, List.set_cons_succ]
                  generalize (w0.alloc (.cells #[.int .i64 (10)] 3)) = wA at *
                  refine wpAnyH_ready (rs := [2, 8]) (by kernel_rfl) (by simp) (AllReadyH.cons rfl (fun K hK => ?b1) (AllReadyH.cons rfl (fun K hK => ?b2) AllReadyH.nil))
                  case b1 =>
                    go_simp
                    refine (unhide CM _ _ (unhide AL) (unhide AT)).mono ?_
                    rintro e w7 ⟨aM, nM, cM, zM, rfl, hbM, _, arM, nmM⟩
                    have AM := hide arM
                    have NM := hide nmM
                    replace CB := hide ((unhide CB).later hbM)
                    replace HB := hide (below_on (unhide HB) hbM)
                    clear hbM arM nmM
                    refine hK.out _ _ trivial (fun hHeld2 => ?_)
                    clear hK K hHeld
                    have hHeld := hHeld2
                    clear hHeld2
                    simp only [Act.put, List.setIfInBounds_toArray, List.set_cons_zero, List.set_cons_succ]
                    refine wpAnyH_ready (rs := [8]) (by kernel_rfl) (by simp) (AllReadyH.cons rfl (fun K hK => ?_) AllReadyH.nil)
                    go_simp
                    have AD := hide (one_arg w7 ((d : Int))).1
                    have al : Below (w7).heap.size w7 ((w7).alloc (.cells #[.int .i64 ((d : Int))] 3)) := (Below.refl _ _).alloc (Nat.le_refl _) _
                    replace AM := hide ((unhide AM).later al)
                    replace CB := hide ((unhide CB).later al)
                    replace HB := hide (below_on (unhide HB) al)
                    clear al
                    refine hK.out _ _ trivial (fun hHeld2 => ?_)
                    clear hK K hHeld
                    have hHeld := hHeld2
                    clear hHeld2
                    simp only [Act.put, List.setIfInBounds_toArray, List.set_cons_zero, List.set_cons_succ]
                    refine wpAnyH_ready (rs := [9]) (by kernel_rfl) (by simp) (AllReadyH.cons rfl (fun K hK => ?_) AllReadyH.nil)
                    go_simp
                    refine (unhide CA _ _ _ _ _ _ (unhide AM) (unhide AD) (unhide NM) ?_).mono ?_
                    · have := nm_pow16 (unhide NM) (unhide NB); rw [(unhide AM).len] at this; omega
                    rintro e w8 ⟨aA, nA, cA, zA, rfl, hbA, _, arA, okA, vA, lA⟩
                    have AA := hide arA
                    have OA := hide okA
                    have VA := hide vA
                    have nA1 : nA ≤ 1000 := by rw [arA.len] at lA; have h3 := nm_pow16 (unhide NM) (unhide NB); rw [(unhide AM).len] at h3; have h4 : max nM 1 ≤ 900 := Nat.max_le.2 ⟨by omega, by omega⟩; omega
                    replace CB := hide ((unhide CB).later hbA)
                    replace HB := hide (below_on (unhide HB) hbA)
                    clear hbA arA okA vA lA
                    refine hK.out _ _ trivial (fun hHeld2 => ?_)
                    clear hK K hHeld
                    have hHeld := hHeld2
                    clear hHeld2
                    simp only [Act.put, List.setIfInBounds_toArray, List.set_cons_zero, List.set_cons_succ]
                    refine wpAnyH_ready (rs := [10]) (by kernel_rfl) (by simp) (AllReadyH.cons rfl (fun K hK => ?_) AllReadyH.nil)
                    go_simp
                    refine (cut_any aA nA cA zA _ (unhide AA) (by omega)).mono ?_
                    rintro e w9 ⟨aC, nC, cC, rfl, hbC, owC, arC⟩
                    have AC := hide arC
                    have sz9 := (unhide HB).size
                    have lt9 := (unhide CB).lt
                    have OC := hide (owC.mono (show w.heap.size + 1 ≤ w8.heap.size by omega))
                    replace CB := hide ((unhide CB).later hbC)
                    replace HB := hide (below_on (unhide HB) hbC)
                    clear hbC arC owC
                    refine hK.out _ _ trivial (fun hHeld2 => ?_)
                    clear hK K hHeld
                    have hHeld := hHeld2
                    clear hHeld2
                    simp only [Act.put, List.setIfInBounds_toArray, List.set_cons_zero, List.set_cons_succ]
                    refine wpAnyH_take (i := 11) (v := .slice aC nC cC) rfl (by kernel_rfl) (by kernel_rfl) (by kernel_rfl) (fun _ _ _ h => h) (Or.inl ⟨by rfl, by intro w hSw; (try dsimp only at hSw); go_simp⟩) hHeld ?_
                    simp only [List.getElem_toArray, List.getElem_cons_zero, List.getElem_cons_succ, Act.put, List.setIfInBounds_toArray, List.set_cons_zero, List.set_cons_succ]
                    refine wpAnyH_done (by kernel_rfl) ?_ _
                    clear hHeld
                    have N2 : Hid (Nm (trim zA) ((10 * n + d : Nat) : Int)) := hide (by have h := Nm.trimmed (unhide OA); rw [unhide VA] at h; exact h)
                    have LC : (trim zA).length = nC := (unhide AC).len
                    have kb : nC ≤ 200 := by rw [← LC]; exact Nat.le_trans (nm_pow16 (unhide N2) (unhide NBB)) i2
                    clear LC
                    go_wp2
                    go_roundw
                    case rel => exact ⟨i + 1, 10 * n + d, trim zA, aC, nC, cC, by omega, by go_num, rfl, kb, DG2, AC, OC, N2, CB, HB⟩
                    case measure => simp [intOf]; omega
                  case b2 =>
                    go_simp
                    have AD := hide (one_arg wA ((d : Int))).1
                    have al : Below (wA).heap.size wA ((wA).alloc (.cells #[.int .i64 ((d : Int))] 3)) := (Below.refl _ _).alloc (Nat.le_refl _) _
                    replace AL := hide ((unhide AL).later al)
                    replace AT := hide ((unhide AT).later al)
                    replace CB := hide ((unhide CB).later al)
                    replace HB := hide (below_on (unhide HB) al)
                    clear al
                    refine hK.out _ _ trivial (fun hHeld2 => ?_)
                    clear hK K hHeld
                    have hHeld := hHeld2
                    clear hHeld2
                    simp only [Act.put, List.setIfInBounds_toArray, List.set_cons_zero, List.set_cons_succ]
                    refine wpAnyH_ready (rs := [2]) (by kernel_rfl) (by simp) (AllReadyH.cons rfl (fun K hK => ?_) AllReadyH.nil)
                    go_simp
                    refine (unhide CM _ _ (unhide AL) (unhide AT)).mono ?_
                    rintro e w7 ⟨aM, nM, cM, zM, rfl, hbM, _, arM, nmM⟩
                    have AM := hide arM
                    have NM := hide nmM
                    replace CB := hide ((unhide CB).later hbM)
                    replace HB := hide (below_on (unhide HB) hbM)
                    replace AD := hide ((unhide AD).later hbM)
                    clear hbM arM nmM
                    refine hK.out _ _ trivial (fun hHeld2 => ?_)
                    clear hK K hHeld
                    have hHeld := hHeld2
                    clear hHeld2
                    simp only [Act.put, List.setIfInBounds_toArray, List.set_cons_zero, List.set_cons_succ]
                    refine wpAnyH_ready (rs := [9]) (by kernel_rfl) (by simp) (AllReadyH.cons rfl (fun K hK => ?_) AllReadyH.nil)
                    go_simp
                    refine (unhide CA _ _ _ _ _ _ (unhide AM) (unhide AD) (unhide NM) ?_).mono ?_
                    · have := nm_pow16 (unhide NM) (unhide NB); rw [(unhide AM).len] at this; omega
                    rintro e w8 ⟨aA, nA, cA, zA, rfl, hbA, _, arA, okA, vA, lA⟩
                    have AA := hide arA
                    have OA := hide okA
                    have VA := hide vA
                    have nA1 : nA ≤ 1000 := by rw [arA.len] at lA; have h3 := nm_pow16 (unhide NM) (unhide NB); rw [(unhide AM).len] at h3; have h4 : max nM 1 ≤ 900 := Nat.max_le.2 ⟨by omega, by omega⟩; omega
                    replace CB := hide ((unhide CB).later hbA)
                    replace HB := hide (below_on (unhide HB) hbA)
                    clear hbA arA okA vA lA
                    refine hK.out _ _ trivial (fun hHeld2 => ?_)
                    clear hK K hHeld
                    have hHeld := hHeld2
                    clear hHeld2
                    simp only [Act.put, List.setIfInBounds_toArray, List.set_cons_zero, List.set_cons_succ]
                    refine wpAnyH_ready (rs := [10]) (by kernel_rfl) (by simp) (AllReadyH.cons rfl (fun K hK => ?_) AllReadyH.nil)
                    go_simp
                    refine (cut_any aA nA cA zA _ (unhide AA) (by omega)).mono ?_
                    rintro e w9 ⟨aC, nC, cC, rfl, hbC, owC, arC⟩
                    have AC := hide arC
                    have sz9 := (unhide HB).size
                    have lt9 := (unhide CB).lt
                    have OC := hide (owC.mono (show w.heap.size + 1 ≤ w8.heap.size by omega))
                    replace CB := hide ((unhide CB).later hbC)
                    replace HB := hide (below_on (unhide HB) hbC)
                    clear hbC arC owC
                    refine hK.out _ _ trivial (fun hHeld2 => ?_)
                    clear hK K hHeld
                    have hHeld := hHeld2
                    clear hHeld2
                    simp only [Act.put, List.setIfInBounds_toArray, List.set_cons_zero, List.set_cons_succ]
                    refine wpAnyH_take (i := 11) (v := .slice aC nC cC) rfl (by kernel_rfl) (by kernel_rfl) (by kernel_rfl) (fun _ _ _ h => h) (Or.inl ⟨by rfl, by intro w hSw; (try dsimp only at hSw); go_simp⟩) hHeld ?_
                    simp only [List.getElem_toArray, List.getElem_cons_zero, List.getElem_cons_succ, Act.put, List.setIfInBounds_toArray, List.set_cons_zero, List.set_cons_succ]
                    refine wpAnyH_done (by kernel_rfl) ?_ _
                    clear hHeld
                    have N2 : Hid (Nm (trim zA) ((10 * n + d : Nat) : Int)) := hide (by have h := Nm.trimmed (unhide OA); rw [unhide VA] at h; exact h)
                    have LC : (trim zA).length = nC := (unhide AC).len
                    have kb : nC ≤ 200 := by rw [← LC]; exact Nat.le_trans (nm_pow16 (unhide N2) (unhide NBB)) i2
                    clear LC
                    go_wp2
                    go_roundw
                    case rel => exact ⟨i + 1, 10 * n + d, trim zA, aC, nC, cC, by omega, by go_num, rfl, kb, DG2, AC, OC, N2, CB, HB⟩
                    case measure => simp [intOf]; omega
                case a2 =>
                  go_simp
                  have AD := hide (one_arg w0 ((d : Int))).1
                  have al : Below (w0).heap.size w0 ((w0).alloc (.cells #[.int .i64 ((d : Int))] 3)) := (Below.refl _ _).alloc (Nat.le_refl _) _
                  replace AL := hide ((unhide AL).later al)
                  replace CB := hide ((unhide CB).later al)
                  replace HB := hide (below_on (unhide HB) al)
                  clear al
                  refine hK.out _ _ trivial (fun hHeld2 => ?_)
                  clear hK K hHeld
                  have hHeld := hHeld2
                  clear hHeld2
                  simp only [Act.put, List.setIfInBounds_toArray, List.set_cons_zero, List.set_cons_succ]
                  generalize (w0.alloc (.cells #[.int .i64 ((d : Int))] 3)) = wA at *
                  refine wpAnyH_ready (rs := [1]) (by kernel_rfl) (by simp) (AllReadyH.cons rfl (fun K hK => ?_) AllReadyH.nil)
                  go_simp
                  have AT := hide (one_arg wA (10)).1
                  have al : Below (wA).heap.size wA ((wA).alloc (.cells #[.int .i64 (10)] 3)) := (Below.refl _ _).alloc (Nat.le_refl _) _
                  replace AL := hide ((unhide AL).later al)
                  replace AD := hide ((unhide AD).later al)
                  replace CB := hide ((unhide CB).later al)
                  replace HB := hide (below_on (unhide HB) al)
                  clear al
                  refine hK.out _ _ trivial (fun hHeld2 => ?_)
                  clear hK K hHeld
                  have hHeld := hHeld2
                  clear hHeld2
                  simp only [Act.put, List.setIfInBounds_toArray, List.set_cons_zero, List.set_cons_succ]
                  refine wpAnyH_ready (rs := [2]) (by kernel_rfl) (by simp) (AllReadyH.cons rfl (fun K hK => ?_) AllReadyH.nil)
                  go_simp
                  refine (unhide CM _ _ (unhide AL) (unhide AT)).mono ?_
                  rintro e w7 ⟨aM, nM, cM, zM, rfl, hbM, _, arM, nmM⟩
                  have AM := hide arM
                  have NM := hide nmM
                  replace CB := hide ((unhide CB).later hbM)
                  replace HB := hide (below_on (unhide HB) hbM)
                  replace AD := hide ((unhide AD).later hbM)
                  clear hbM arM nmM
                  refine hK.out _ _ trivial (fun hHeld2 => ?_)
                  clear hK K hHeld
                  have hHeld := hHeld2
                  clear hHeld2
                  simp only [Act.put, List.setIfInBounds_toArray, List.set_cons_zero, List.set_cons_succ]
                  refine wpAnyH_ready (rs := [9]) (by kernel_rfl) (by simp) (AllReadyH.cons rfl (fun K hK => ?_) AllReadyH.nil)
                  go_simp
                  refine (unhide CA _ _ _ _ _ _ (unhide AM) (unhide AD) (unhide NM) ?_).mono ?_
                  · have := nm_pow16 (unhide NM) (unhide NB); rw [(unhide AM).len] at this; omega
                  rintro e w8 ⟨aA, nA, cA, zA, rfl, hbA, _, arA, okA, vA, lA⟩
                  have AA := hide arA
                  have OA := hide okA
                  have VA := hide vA
                  have nA1 : nA ≤ 1000 := by rw [arA.len] at lA; have h3 := nm_pow16 (unhide NM) (unhide NB); rw [(unhide AM).len] at h3; have h4 : max nM 1 ≤ 900 := Nat.max_le.2 ⟨by omega, by omega⟩; omega
                  replace CB := hide ((unhide CB).later hbA)
                  replace HB := hide (below_on (unhide HB) hbA)
                  clear hbA arA okA vA lA
                  refine hK.out _ _ trivial (fun hHeld2 => ?_)
                  clear hK K hHeld
                  have hHeld := hHeld2
                  clear hHeld2
                  simp only [Act.put, List.setIfInBounds_toArray, List.set_cons_zero, List.set_cons_succ]
                  refine wpAnyH_ready (rs := [10]) (by kernel_rfl) (by simp) (AllReadyH.cons rfl (fun K hK => ?_) AllReadyH.nil)
                  go_simp
                  refine (cut_any aA nA cA zA _ (unhide AA) (by omega)).mono ?_
                  rintro e w9 ⟨aC, nC, cC, rfl, hbC, owC, arC⟩
                  have AC := hide arC
                  have sz9 := (unhide HB).size
                  have lt9 := (unhide CB).lt
                  have OC := hide (owC.mono (show w.heap.size + 1 ≤ w8.heap.size by omega))
                  replace CB := hide ((unhide CB).later hbC)
                  replace HB := hide (below_on (unhide HB) hbC)
                  clear hbC arC owC
                  refine hK.out _ _ trivial (fun hHeld2 => ?_)
                  clear hK K hHeld
                  have hHeld := hHeld2
                  clear hHeld2
                  simp only [Act.put, List.setIfInBounds_toArray, List.set_cons_zero, List.set_cons_succ]
                  refine wpAnyH_take (i := 11) (v := .slice aC nC cC) rfl (by kernel_rfl) (by kernel_rfl) (by kernel_rfl) (fun _ _ _ h => h) (Or.inl ⟨by rfl, by intro w hSw; (try dsimp only at hSw); go_simp⟩) hHeld ?_
                  simp only [List.getElem_toArray, List.getElem_cons_zero, List.getElem_cons_succ, Act.put, List.setIfInBounds_toArray, List.set_cons_zero, List.set_cons_succ]
                  refine wpAnyH_done (by kernel_rfl) ?_ _
                  clear hHeld
                  have N2 : Hid (Nm (trim zA) ((10 * n + d : Nat) : Int)) := hide (by have h := Nm.trimmed (unhide OA); rw [unhide VA] at h; exact h)
                  have LC : (trim zA).length = nC := (unhide AC).len
                  have kb : nC ≤ 200 := by rw [← LC]; exact Nat.le_trans (nm_pow16 (unhide N2) (unhide NBB)) i2
                  clear LC
                  go_wp2
                  go_roundw
                  case rel => exact ⟨i + 1, 10 * n + d, trim zA, aC, nC, cC, by omega, by go_num, rfl, kb, DG2, AC, OC, N2, CB, HB⟩
                  case measure => simp [intOf]; omega
              · have RB : Hid (rbB bs = false) := hide (rb_none (.inl (by rw [← unhide HD]; exact dgN_bad hiD (by rw [← hcc]; exact dg) 0)))
                have r0 := (unhide CB).c0
                have r1 := (unhide CB).c1
                have f0 := (unhide CB).fz
                by_cases q1 : cc.toNat < 48
                · have b1 : (cc.toNat : Int) < 48 := by omega
                  have b1d : decide ((cc.toNat : Int) < 48) = true := decide_eq_true b1
                  clear hcc TK dg AL OL NL DG hiD
                  go_wp2
                  exact bodyPost_ret (v := .tuple #[.agg #[.bool false, .slice none 0 0], .bool false]) (by simp [results, Tryd.results24, go_sem, r0, r1]) rfl (by rw [unhide RB, rb_no (unhide RB)]; exact outRB_no (s := w.heap.size) (Nat.le_refl _) (unhide HB) _ _)
                · have b1 : ¬ (cc.toNat : Int) < 48 := by omega
                  have b1d : decide ((cc.toNat : Int) < 48) = false := decide_eq_false b1
                  have b2 : (57 : Int) < (cc.toNat : Int) := by omega
                  have b2d : decide ((57 : Int) < (cc.toNat : Int)) = true := decide_eq_true b2
                  clear hcc TK dg AL OL NL DG hiD
                  go_wp2
                  exact bodyPost_ret (v := .tuple #[.agg #[.bool false, .slice none 0 0], .bool false]) (by simp [results, Tryd.results24, go_sem, r0, r1]) rfl (by rw [unhide RB, rb_no (unhide RB)]; exact outRB_no (s := w.heap.size) (Nat.le_refl _) (unhide HB) _ _)
            · obtain rfl : i = s.size := by omega
              have DD : dgN 0 (rbD bs) = some n := by
                have h := unhide DG
                rw [List.take_of_length_le (by have := unhide TS; omega)] at h
                rw [← unhide HD]; exact h
              have NB0 := dgN_lt _ _ _ DD
              rw [Nat.zero_add, Nat.one_mul, ← unhide HD, ← unhide TS] at NB0
              have NB : n < 10 ^ 200 := Nat.lt_of_lt_of_le NB0 (Nat.pow_le_pow_right (by omega) (unhide T2))
              have DV : Hid ((Lib.decDigits n).length ≤ 1000) := hide (by have := dd_len 199 n NB; omega)
              have IFF := rb_iff DD (by
                intro k
                have h := unhide HD
                rw [k] at h
                have h3 : D.length = 0 := by rw [h]; rfl
                have h2 := unhide TS
                have h4 := unhide T1
                omega)
              rw [← sd_nat16] at IFF
              have lt0 := (unhide CB).lt
              have LN : L.length = ln := (unhide AL).len
              have CS := hide (signS_out (rbN bs) la ln lc L wr (w.heap.size + 1) (n : Int) (unhide AL) (unhide OL) (unhide NL).ok (unhide NL).v lt0 (by omega))
              have L40 := nm_40 (unhide NL)
              rw [LN] at L40
              have SGN : Hid (∀ ts, Nm ts (n : Int) → ts = [] → sd (rbN bs) (n : Int) = false) := hide (fun ts k e => by
                have z := k.nil_iff.1 e
                rw [sd_nat16, show n = 0 by omega]; simp)
              have EV : Hid (rbB bs = true → rbV bs = if rbN bs = true then -(n : Int) else (n : Int)) := hide (fun k => by unfold rbV; rw [if_pos k, IFF.2 k])
              rw [NG] at CS SGN EV IFF
              have NLX := unhide NL
              have I40 : ¬ ln ≤ 40 → rbB bs = false := fun k => by rw [IFF.1, decide_eq_false (fun q => k (L40.2 q))]; rfl
              have I41 : ln ≤ 40 → rbB bs = decide (txV (sd false (n : Int)) n = bs) := fun k => by rw [IFF.1, decide_eq_true (L40.1 k), Bool.true_and]
              have SS : Hid (s = st bs) := hide (by rw [unhide HBS]; exact st_of s)
              obtain ⟨SG, hSGq⟩ : ∃ z, z = sd false (n : Int) := ⟨_, rfl⟩
              rw [← hSGq] at CS SGN I41
              have I40h := hide I40
              have I41h := hide I41
              have NLh := hide NLX
              have LNh := hide LN
              have SGq := hide hSGq
              clear DD NB0 NB IFF L40 I40 I41 NLX NL AL OL LN DG hSGq
              go_wp2_with fail
              refine (unhide CS).mono ?_
              rintro e w2 ⟨a2, n2, c2, ts, rfl, hb2, ho2, ha2, hn2⟩
              have EL : ts = L := hn2.same (unhide NLh)
              have en : n2 = ln := by rw [← ha2.len, EL]; exact unhide LNh
              have AL2 : Below w2.heap.size w2 (w2.alloc (.cells #[.bool SG, .slice a2 n2 c2] 25)) := (Below.refl _ _).alloc (Nat.le_refl _) _
              replace CB := hide (((unhide CB).later hb2).later AL2)
              replace HB := hide (below_on (below_on (unhide HB) hb2) AL2)
              have A2 := hide (ha2.later AL2)
              have O2 := hide (ho2.later AL2)
              have N2 := hide hn2
              have x0 : (w2.alloc (.cells #[.bool SG, .slice a2 n2 c2] 25)).cell? ⟨w2.heap.size, 0, none⟩ = some (.bool SG) := by simp [go_sem]
              have x1 : (w2.alloc (.cells #[.bool SG, .slice a2 n2 c2] 25)).cell? ⟨w2.heap.size, 1, none⟩ = some (.slice a2 n2 c2) := by simp [go_sem]
              clear hb2 ho2 ha2 hn2 AL2 CS EL
              subst en
              by_cases c40 : n2 ≤ 40
              · have d0 : ¬ (40 : Int) < (n2 : Int) := by omega
                have d1 : decide ((40 : Int) < (n2 : Int)) = false := decide_eq_false d0
                have CT := hide (textS16 SG a2 n2 c2 ts n _ (unhide A2) (unhide N2) c40 (fun k => unhide SGN ts (unhide N2) k) (unhide DV))
                have RQ := hide (unhide I41h c40)
                go_wp2_with fail
                refine (unhide CT).mono ?_
                rintro e w3 ⟨rfl, hb3⟩
                replace x0 := cell_later hb3 x0
                replace x1 := cell_later hb3 x1
                replace CB := hide ((unhide CB).later hb3)
                replace HB := hide (below_on (unhide HB) hb3)
                replace A2 := hide ((unhide A2).later hb3)
                replace O2 := hide ((unhide O2).later hb3)
                have r0 := (unhide CB).c0
                have r1 := (unhide CB).c1
                have f0 := (unhide CB).fz
                clear hb3 CT CB
                by_cases q : txV SG n = bs
                · have RBT : rbB bs = true := by rw [unhide RQ]; exact decide_eq_true q
                  have EC : (st (txV SG n) != s) = false := by rw [unhide SS, q]; exact st_ne _
                  have EV2 : Hid (rbV bs = if false = true then -(n : Int) else (n : Int)) := hide (unhide EV RBT)
                  have EC2 : st (txV SG n) = s := by rw [unhide SS, q]
                  have EC3 : ((st (txV SG n)).toList == s.toList) = true := by rw [EC2]; simp
                  clear q
                  generalize rbV bs = V at *
                  go_wp2
                  exact bodyPost_ret (v := .tuple #[.agg #[.bool SG, .slice a2 n2 c2], .bool true]) (by simp [results, Tryd.results24, go_sem, r0, r1]) rfl (by rw [unhide SGq, RBT]; exact outRB_of (g := false) (s := w.heap.size) (Nat.le_refl _) (unhide HB) (unhide O2) (unhide A2) (unhide N2) (by simpa using unhide EV2) c40 _ _)
                · have RB : Hid (rbB bs = false) := hide (by rw [unhide RQ]; exact decide_eq_false q)
                  have EC : (st (txV SG n) != s) = true := by rw [unhide SS, st_cmp, decide_eq_false q]; rfl
                  have EC3 : ((st (txV SG n)).toList == s.toList) = false := by rw [unhide SS, ByteArray.toList_eq, ByteArray.toList_eq, st_data, st_data, beq_eq_false_iff_ne]; exact q
                  clear q
                  go_wp2
                  exact bodyPost_ret (v := .tuple #[.agg #[.bool false, .slice none 0 0], .bool false]) (by simp [results, Tryd.results24, go_sem, r0, r1]) rfl (by rw [unhide RB, rb_no (unhide RB)]; exact outRB_no (s := w.heap.size) (Nat.le_refl _) (unhide HB) _ _)
              · have d0 : (40 : Int) < (n2 : Int) := by omega
                have d1 : decide ((40 : Int) < (n2 : Int)) = true := decide_eq_true d0
                have RB : Hid (rbB bs = false) := hide (unhide I40h c40)
                have r0 := (unhide CB).c0
                have r1 := (unhide CB).c1
                have f0 := (unhide CB).fz
                clear CB x0 x1
                go_wp2
                exact bodyPost_ret (v := .tuple #[.agg #[.bool false, .slice none 0 0], .bool false]) (by simp [results, Tryd.results24, go_sem, r0, r1]) rfl (by rw [unhide RB, rb_no (unhide RB)]; exact outRB_no (s := w.heap.size) (Nat.le_refl _) (unhide HB) _ _)
        · have RB : Hid (rbB bs = false) := hide (rb_none (.inr (.inr (by rw [← unhide HD, ← unhide TS]; omega))))
          rw [decide_eq_false (show ¬ (s.size : Int) ≤ 200 by omega), Bool.and_false] at CL
          have HB := HB0
          have r0 := (unhide CB0).c0
          have r1 := (unhide CB0).c1
          have f0 := (unhide CB0).fz
          clear hD hbs hl
          go_wp2_with fail
          refine (unhide CL _).mono ?_
          rintro e w1 ⟨rfl, rfl⟩
          go_wp2
          exact bodyPost_ret (v := .tuple #[.agg #[.bool false, .slice none 0 0], .bool false]) (by simp [results, Tryd.results24, go_sem, r0, r1]) rfl (by rw [unhide RB, rb_no (unhide RB)]; exact outRB_no0 (unhide HB))
      · have RB : Hid (rbB bs = false) := hide (rb_none (.inr (.inl (List.length_eq_zero_iff.1 (by rw [← unhide HD, ← unhide TS]; omega)))))
        rw [decide_eq_false (show ¬ (1 : Int) ≤ (s.size : Int) by omega), Bool.false_and] at CL
        have HB := HB0
        have r0 := (unhide CB0).c0
        have r1 := (unhide CB0).c1
        have f0 := (unhide CB0).fz
        clear hD hbs hl
        go_wp2_with fail
        refine (unhide CL _).mono ?_
        rintro e w1 ⟨rfl, rfl⟩
        go_wp2
        exact bodyPost_ret (v := .tuple #[.agg #[.bool false, .slice none 0 0], .bool false]) (by simp [results, Tryd.results24, go_sem, r0, r1]) rfl (by rw [unhide RB, rb_no (unhide RB)]; exact outRB_no0 (unhide HB))
end Go.Proofs.YtdgonpbponnnaaaDoor
namespace Go.Proofs.YtdgonpbponnnaaaDoor
open Go.RowKit
set_option linter.unusedVariables false
set_option maxRecDepth 100000
set_option linter.unusedSimpArgs false

theorem addR_S (b b' : BV) (d d' : BD) (w : World) (h : AllAr w [(b, d)]) (h' : AllAr w [(b', d')]) : Calls Tryd.prog 6 #[.agg #[.bool b.g, .slice b.a b.n b.c], .agg #[.bool b'.g, .slice b'.a b'.n b'.c]] w (OutRe w (goodB d.g d.xs && goodB d'.g d'.xs) (sv d.g d.xs + sv d'.g d'.xs)) := by
  have k := (AddS_any b.g b'.g b.a b'.a b.n b'.n b.c b'.c d.xs d'.xs w h.head.ar h'.head.ar).mono OutA.toRe
  rw [h.head.sg, h'.head.sg] at k
  rw [h.head.sg, h'.head.sg]
  exact k
theorem subR_I (b b' : BV) (d d' : BD) (w : World) (h : AllAr w [(b, d)]) (h' : AllAr w [(b', d')]) : Calls Tryd.prog 7 #[.agg #[.bool b.g, .slice b.a b.n b.c], .agg #[.bool b'.g, .slice b'.a b'.n b'.c]] w (OutRe w (goodB d.g d.xs && goodB d'.g d'.xs) (sv d.g d.xs - sv d'.g d'.xs)) := by
  have k := (SubI_any b.g b'.g b.a b'.a b.n b'.n b.c b'.c d.xs d'.xs w h.head.ar h'.head.ar).mono OutA.toRe
  rw [h.head.sg, h'.head.sg] at k
  rw [h.head.sg, h'.head.sg]
  exact k
theorem subR_S (b b' : BV) (d d' : BD) (w : World) (h : AllAr w [(b, d)]) (h' : AllAr w [(b', d')]) : Calls Tryd.prog 8 #[.agg #[.bool b.g, .slice b.a b.n b.c], .agg #[.bool b'.g, .slice b'.a b'.n b'.c]] w (OutRe w (goodB d.g d.xs && goodB d'.g d'.xs) (sv d.g d.xs - sv d'.g d'.xs)) := by
  have k := (SubS_any b.g b'.g b.a b'.a b.n b'.n b.c b'.c d.xs d'.xs w h.head.ar h'.head.ar).mono OutA.toRe
  rw [h.head.sg, h'.head.sg] at k
  rw [h.head.sg, h'.head.sg]
  exact k
theorem cmpR_I (b b' : BV) (d d' : BD) (w : World) (h : AllAr w [(b, d)]) (h' : AllAr w [(b', d')]) (hl : d.xs.length ≤ 1048576) (hl' : d'.xs.length ≤ 1048576) :
    Calls Tryd.prog 9 #[.agg #[.bool b.g, .slice b.a b.n b.c], .agg #[.bool b'.g, .slice b'.a b'.n b'.c]] w fun e w' => e = .returned (.tuple #[.int .i64 (cmpV d.g d.xs d'.g d'.xs), .bool (cmpOk d.g d.xs d'.g d'.xs)]) ∧ Below w.heap.size w w' := by
  have k := CompareI_any b.g b'.g b.a b'.a b.n b'.n b.c b'.c d.xs d'.xs w h.head.ar.sl h'.head.ar.sl h.head.ar.len h'.head.ar.len (by have := h.head.ar.len; unfold maxLen; omega) (by have := h'.head.ar.len; unfold maxLen; omega)
  rw [h.head.sg, h'.head.sg] at k
  rw [h.head.sg, h'.head.sg]
  exact k
theorem cmpR_S (b b' : BV) (d d' : BD) (w : World) (h : AllAr w [(b, d)]) (h' : AllAr w [(b', d')]) (hl : d.xs.length ≤ 1048576) (hl' : d'.xs.length ≤ 1048576) :
    Calls Tryd.prog 10 #[.agg #[.bool b.g, .slice b.a b.n b.c], .agg #[.bool b'.g, .slice b'.a b'.n b'.c]] w fun e w' => e = .returned (.tuple #[.int .i64 (cmpV d.g d.xs d'.g d'.xs), .bool (cmpOk d.g d.xs d'.g d'.xs)]) ∧ Below w.heap.size w w' := by
  have k := CompareS_any b.g b'.g b.a b'.a b.n b'.n b.c b'.c d.xs d'.xs w h.head.ar.sl h'.head.ar.sl h.head.ar.len h'.head.ar.len (by have := h.head.ar.len; unfold maxLen; omega) (by have := h'.head.ar.len; unfold maxLen; omega)
  rw [h.head.sg, h'.head.sg] at k
  rw [h.head.sg, h'.head.sg]
  exact k
theorem gdR_I (b : BV) (d : BD) (w : World) (h : AllAr w [(b, d)]) (hl : d.xs.length ≤ 1048576) :
    Calls Tryd.prog 12 #[.agg #[.bool b.g, .slice b.a b.n b.c]] w fun e w' => e = .returned (.bool (goodB d.g d.xs)) ∧ Below w.heap.size w w' := by
  have k := goodI_any b.g b.a b.n b.c d.xs w h.head.ar.sl h.head.ar.len (by have := h.head.ar.len; unfold maxLen; omega)
  rw [h.head.sg] at k
  rw [h.head.sg]
  exact k
theorem gdR_S (b : BV) (d : BD) (w : World) (h : AllAr w [(b, d)]) (hl : d.xs.length ≤ 1048576) :
    Calls Tryd.prog 13 #[.agg #[.bool b.g, .slice b.a b.n b.c]] w fun e w' => e = .returned (.bool (goodB d.g d.xs)) ∧ Below w.heap.size w w' := by
  have k := goodS_any b.g b.a b.n b.c d.xs w h.head.ar.sl h.head.ar.len (by have := h.head.ar.len; unfold maxLen; omega)
  rw [h.head.sg] at k
  rw [h.head.sg]
  exact k
theorem ofR_I (n : Int) (w : World) (h0 : -9223372036854775808 ≤ n) (h1 : n ≤ 9223372036854775807) :
    Calls Tryd.prog 16 #[.int .i64 n] w fun e w' => ∃ (b : BV) (d : BD), e = .returned (.agg #[.bool b.g, .slice b.a b.n b.c]) ∧ Below w.heap.size w w' ∧ AllAr w' [(b, d)] ∧ Fm d n := by
  refine (bigOfI_any n w h0 h1).mono ?_
  rintro e w' ⟨a, m, c, zs, rfl, hb, ho, ha, hn⟩
  exact ⟨⟨decide (n < 0), a, m, c⟩, ⟨decide (n < 0), zs⟩, rfl, hb, AllAr.cons ⟨rfl, ha⟩ (AllAr.nil _), rfl, hn, by have := Nm.len4 hn (by omega); show zs.length ≤ 40; omega⟩
theorem ofR_S (n : Int) (w : World) (h0 : -9223372036854775808 ≤ n) (h1 : n ≤ 9223372036854775807) :
    Calls Tryd.prog 17 #[.int .i64 n] w fun e w' => ∃ (b : BV) (d : BD), e = .returned (.agg #[.bool b.g, .slice b.a b.n b.c]) ∧ Below w.heap.size w w' ∧ AllAr w' [(b, d)] ∧ Fm d n := by
  refine (bigOfS_any n w h0 h1).mono ?_
  rintro e w' ⟨a, m, c, zs, rfl, hb, ho, ha, hn⟩
  exact ⟨⟨decide (n < 0), a, m, c⟩, ⟨decide (n < 0), zs⟩, rfl, hb, AllAr.cons ⟨rfl, ha⟩ (AllAr.nil _), rfl, hn, by have := Nm.len4 hn (by omega); show zs.length ≤ 40; omega⟩
theorem btR_I (b : BV) (d : BD) (w : World) (h : AllAr w [(b, d)]) (t : Tab15 w) :
    Calls Tryd.prog 20 #[.agg #[.bool b.g, .slice b.a b.n b.c]] w fun e w' => e = .returned (.tuple #[.string (btV d.g d.xs), .bool (goodB d.g d.xs)]) ∧ Below w.heap.size w w' := by
  have k := BigTextI b.g b.a b.n b.c d.xs w h.head.ar t
  rw [h.head.sg] at k
  rw [h.head.sg]
  exact k
theorem btR_S (b : BV) (d : BD) (w : World) (h : AllAr w [(b, d)]) :
    Calls Tryd.prog 21 #[.agg #[.bool b.g, .slice b.a b.n b.c]] w fun e w' => e = .returned (.tuple #[.string (btV d.g d.xs), .bool (goodB d.g d.xs)]) ∧ Below w.heap.size w w' := by
  have k := BigTextS b.g b.a b.n b.c d.xs w h.head.ar
  rw [h.head.sg] at k
  rw [h.head.sg]
  exact k
theorem OutRB.fm {w : World} {V : Int} {ok : Bool} (e : Ending) (w' : World) (h : OutRB w V ok e w') : ∃ (b : BV) (d : BD), e = .returned (.tuple #[.agg #[.bool b.g, .slice b.a b.n b.c], .bool ok]) ∧ Below w.heap.size w w' ∧ AllAr w' [(b, d)] ∧ Fm d V := by
  obtain ⟨a, n, c, zs, he, hb, ho, ha, hn, hl⟩ := h
  exact ⟨⟨decide (V < 0), a, n, c⟩, ⟨decide (V < 0), zs⟩, he, hb, AllAr.cons ⟨rfl, ha⟩ (AllAr.nil _), rfl, hn, by rw [ha.len]; exact hl⟩
theorem rbR_I (s : ByteArray) (w : World) (hs : s.size ≤ 1048576) :
    Calls Tryd.prog 22 #[.string s] w fun e w' => ∃ (b : BV) (d : BD), e = .returned (.tuple #[.agg #[.bool b.g, .slice b.a b.n b.c], .bool (rbB s.data.toList)]) ∧ Below w.heap.size w w' ∧ AllAr w' [(b, d)] ∧ Fm d (rbV s.data.toList) := (ReadBigI s w hs).mono OutRB.fm
theorem rbR_S (s : ByteArray) (w : World) (hs : s.size ≤ 1048576) :
    Calls Tryd.prog 24 #[.string s] w fun e w' => ∃ (b : BV) (d : BD), e = .returned (.tuple #[.agg #[.bool b.g, .slice b.a b.n b.c], .bool (rbB s.data.toList)]) ∧ Below w.heap.size w w' ∧ AllAr w' [(b, d)] ∧ Fm d (rbV s.data.toList) := (ReadBigS s w hs).mono OutRB.fm
/-- A sum less a number is the other one, and the other way round it is the same. -/
theorem nb_back {a b s d : BD} {ok : Bool} (h : Ans (goodB a.g a.xs && goodB b.g b.xs) (sv a.g a.xs + sv b.g b.xs) s.g s.xs true) (k : Ans (goodB s.g s.xs && goodB b.g b.xs) (sv s.g s.xs - sv b.g b.xs) d.g d.xs ok) : goodB s.g s.xs = true ∧ ok = true ∧ d = a := by
  obtain ⟨hP, fs⟩ := ans_yes h
  have hp := (Bool.and_eq_true _ _).mp hP
  have e := fs.sve
  refine ⟨fs.good, ans_fits k (by rw [fs.good, hp.2]; rfl) ?_⟩
  rw [e, show sv a.g a.xs + sv b.g b.xs - sv b.g b.xs = sv a.g a.xs by omega]
  exact Fm.of hp.1
theorem nb_other {a b s d : BD} {ok : Bool} (h : Ans (goodB a.g a.xs && goodB b.g b.xs) (sv a.g a.xs + sv b.g b.xs) s.g s.xs true) (k : Ans (goodB b.g b.xs && goodB a.g a.xs) (sv b.g b.xs + sv a.g a.xs) d.g d.xs ok) : ok = true ∧ d = s := by
  obtain ⟨hP, fs⟩ := ans_yes h
  have hp := (Bool.and_eq_true _ _).mp hP
  refine ans_fits k (by rw [hp.1, hp.2]; rfl) ?_
  rw [Int.add_comm]
  exact fs
/-- -1, 0 or 1. -/
def cmpZ (A B : Int) : Int := if A < B then -1 else if B < A then 1 else 0
theorem cmpTop_range (xs ys : List Int) (k : Nat) : cmpTop xs ys k = -1 ∨ cmpTop xs ys k = 0 ∨ cmpTop xs ys k = 1 := by
  induction k with
  | zero => right; left; rfl
  | succ k ih =>
    unfold cmpTop
    split
    · left; rfl
    · split
      · right; right; rfl
      · exact ih
theorem cmpL_range (xs ys : List Int) : cmpL xs ys = -1 ∨ cmpL xs ys = 0 ∨ cmpL xs ys = 1 := by
  unfold cmpL
  split
  · left; rfl
  · split
    · right; right; rfl
    · exact cmpTop_range _ _ _
theorem cmpB_val {A B : Int} {ts us : List Int} (h : Nm ts A.natAbs) (k : Nm us B.natAbs) : cmpB (decide (A < 0)) ts (decide (B < 0)) us = cmpZ A B := by
  have h1 := cmpL_val h.ok k.ok h.tr k.tr
  have h2 := cmpL_val k.ok h.ok k.tr h.tr
  have r1 := cmpL_range ts us
  have r2 := cmpL_range us ts
  rw [h.v, k.v] at h1 h2
  unfold cmpB cmpZ
  by_cases a : A < 0 <;> by_cases b : B < 0
  · rw [decide_eq_true a, decide_eq_true b, if_pos rfl, if_pos rfl]
    split
    · omega
    · split <;> omega
  · rw [decide_eq_true a, decide_eq_false b, if_neg (by simp), if_pos rfl, if_pos (by omega)]
  · rw [decide_eq_false a, decide_eq_true b, if_neg (by simp), if_neg (by simp), if_neg (by omega), if_pos (by omega)]
  · rw [decide_eq_false a, decide_eq_false b, if_pos rfl, if_neg (by simp)]
    split
    · omega
    · split <;> omega
theorem nb_cmp {a b d : BD} (h : Ans (goodB a.g a.xs && goodB b.g b.xs) (sv a.g a.xs - sv b.g b.xs) d.g d.xs true) :
    d.g = decide (cmpV a.g a.xs b.g b.xs < 0) ∧ (d.xs.length = 0 ↔ cmpV a.g a.xs b.g b.xs = 0) ∧ (cmpV a.g a.xs b.g b.xs = -1 ∨ cmpV a.g a.xs b.g b.xs = 0 ∨ cmpV a.g a.xs b.g b.xs = 1) := by
  obtain ⟨hP, fd⟩ := ans_yes h
  have hp := (Bool.and_eq_true _ _).mp hP
  have fa := Fm.of hp.1
  have fb := Fm.of hp.2
  have cv : cmpV a.g a.xs b.g b.xs = cmpZ (sv a.g a.xs) (sv b.g b.xs) := by
    unfold cmpV cmpOk
    rw [if_pos hP]
    have e1 := fa.sg
    have e2 := fb.sg
    have k := cmpB_val fa.nm fb.nm
    rw [← e1, ← e2] at k
    exact k
  rw [cv]
  have s := fd.sg
  have z := fd.zero
  generalize sv a.g a.xs = A at *
  generalize sv b.g b.xs = B at *
  unfold cmpZ
  by_cases c1 : A < B
  · rw [if_pos c1]
    refine ⟨by rw [s, decide_eq_true (show A - B < 0 by omega)]; rfl, ?_, .inl rfl⟩
    rw [z]; omega
  · rw [if_neg c1]
    by_cases c2 : B < A
    · rw [if_pos c2]
      refine ⟨by rw [s, decide_eq_false (show ¬ A - B < 0 by omega)]; rfl, ?_, .inr (.inr rfl)⟩
      rw [z]; omega
    · rw [if_neg c2]
      refine ⟨by rw [s, decide_eq_false (show ¬ A - B < 0 by omega)]; rfl, ?_, .inr (.inl rfl)⟩
      rw [z]; omega
/-- A good number's text is read back. -/
theorem rb_text {d : BD} (h : goodB d.g d.xs = true) : rbB (btV d.g d.xs).data.toList = true ∧ rbV (btV d.g d.xs).data.toList = sv d.g d.xs := by
  obtain ⟨h1, h2, h3, h4⟩ := good_parts h
  have hv := val_nonneg h1
  have hz := val_zero_iff h1 h2
  have nm := nm_of16 h1 h2
  obtain ⟨V, hV⟩ : ∃ V, V = (val d.xs).toNat := ⟨_, rfl⟩
  rw [← hV] at nm
  have le := (nm_40 nm).1 h3
  have dn := dd_num le
  have E : (btV d.g d.xs).data.toList = txV d.g V := by unfold btV; rw [if_pos h, st_data, hV]
  rw [E]
  have S : sv d.g d.xs = if d.g = true then -(V : Int) else (V : Int) := by unfold sv; rw [hV]; split <;> omega
  rw [S]
  have HD0 : ∀ t, Lib.decDigits V ≠ 45 :: t := fun t k => by
    rw [k] at dn
    simp [numV, nv] at dn
  cases g : d.g
  · have T : txV false V = Lib.decDigits V := by unfold txV; rw [if_neg (by simp)]
    rw [T]
    have N : rbN (Lib.decDigits V) = false := by
      match hd : Lib.decDigits V with
      | [] => rfl
      | c :: t =>
        unfold rbN
        rw [beq_eq_false_iff_ne]
        intro k
        exact HD0 t (by rw [hd, k])
    have D := rb_pos N
    have R := rb_end (l := Lib.decDigits V) (n := V) (by rw [D]; exact dn) (fun k => by rw [N] at k; cases k)
    rw [N] at R
    exact R
  · have T : txV true V = 45 :: Lib.decDigits V := by unfold txV; rw [if_pos rfl]
    rw [T]
    have V0 : V ≠ 0 := by
      intro k
      rw [g] at h4
      have : d.xs = [] := hz.1 (by omega)
      have := h4 this
      cases this
    have R := rb_end (l := 45 :: Lib.decDigits V) (n := V) (by show numV M40 (Lib.decDigits V) = _; exact dn) (fun _ => V0)
    exact R
end Go.Proofs.YtdgonpbponnnaaaDoor
namespace Go.Proofs.YtdgonpbponnnaaaDoor
open Go.RowKit
set_option linter.unusedVariables false
set_option maxRecDepth 100000
set_option linter.unusedSimpArgs false

theorem nb_int {d : BD} {n : Int} (h : Fm d n) : intOk d.g d.xs = (decide (-4611686018427387904 ≤ n) && decide (n ≤ 4611686018427387904)) ∧ (intOk d.g d.xs = true → intV d.g d.xs = n) := by
  have e : intOk d.g d.xs = (decide (-4611686018427387904 ≤ n) && decide (n ≤ 4611686018427387904)) := by
    unfold intOk
    rw [h.good, h.val, Bool.true_and, ← Bool.decide_and]
    apply decide_eq_decide.2
    omega
  refine ⟨e, fun k => ?_⟩
  unfold intV
  rw [if_pos k, h.sve]
end Go.Proofs.YtdgonpbponnnaaaDoor
namespace Go.Proofs.YtdgonpbponnnaaaDoor
open Go.RowKit
set_option linter.unusedVariables false
set_option maxRecDepth 100000
set_option linter.unusedSimpArgs false

set_option maxHeartbeats 16000000 in
theorem num_walk (a a' : Option Addr) (n m c c' : Nat) (w : World) (h : ArY w a n) (h' : ArY w a' m) (ht : Tab15 w) :
    Calls Tryd.prog 3 #[.slice a n c, .slice a' m c'] w fun e w' => e = .returned (.bool true) ∧ Below w.heap.size w w' := by
  by_cases big : 1048576 < wrap64 ((n : Int) + (m : Int))
  · have d1 : decide (1048576 < wrap64 ((n : Int) + (m : Int))) = true := decide_eq_true big
    go_enter Tryd.func3, Tryd.ntmps3
    go_wp2_with fail
    go_ret
    exact ⟨rfl, Below.refl _ _⟩
  have d1 : decide (1048576 < wrap64 ((n : Int) + (m : Int))) = false := decide_eq_false big
  have Y1 := hide h
  have Y2 := hide h'
  have HT := hide ht
  have BW : Hid (Below w.heap.size w w) := hide (Below.refl _ _)
  clear h h' ht
  go_enter Tryd.func3, Tryd.ntmps3
  go_wp2_with fail
  refine (drawAdd a n c _ (unhide Y1)).mono ?_
  rintro e w1 ⟨ba, bb, da, db, rfl, aa, ab, oa, ob, la, lb, hb⟩
  replace Y2 := hide ((unhide Y2).later hb)
  replace HT := hide ((unhide HT).later hb)
  replace BW := hide (below_on (unhide BW) hb)
  clear hb
  clear oa ob Y1 big d1
  have Aa := hide (aa)
  have Ab := hide (ab)
  clear aa ab
  have al : Below w1.heap.size w1 ((w1.alloc (.cells #[.bool ba.g, .slice ba.a ba.n ba.c] 25)).alloc (.cells #[.bool bb.g, .slice bb.a bb.n bb.c] 25)) := ((Below.refl _ _).alloc (Nat.le_refl _) _).alloc (by simp) _
  replace Y2 := hide ((unhide Y2).later al)
  replace HT := hide ((unhide HT).later al)
  replace Aa := hide ((unhide Aa).later al)
  replace Ab := hide ((unhide Ab).later al)
  replace BW := hide (below_on (unhide BW) al)
  clear al
  have Ka : Hid (BxN ((w1.alloc (.cells #[.bool ba.g, .slice ba.a ba.n ba.c] 25)).alloc (.cells #[.bool bb.g, .slice bb.a bb.n bb.c] 25)) w1.heap.size ba) := hide ((BxN.new (b := ba)).later ((Below.refl _ _).alloc (Nat.le_refl _) _))
  have Kb : Hid (BxN ((w1.alloc (.cells #[.bool ba.g, .slice ba.a ba.n ba.c] 25)).alloc (.cells #[.bool bb.g, .slice bb.a bb.n bb.c] 25)) (w1.heap.size + 1) bb) := hide (BxN.new2 (b := bb))
  have Ka_0 := (unhide Ka).c0
  have Ka_1 := (unhide Ka).c1
  have Kb_0 := (unhide Kb).c0
  have Kb_1 := (unhide Kb).c1
  go_wp2_with fail
  refine (addR_I ba bb da db _ (unhide Aa) (unhide Ab)).mono ?_
  rintro e w2 ⟨bs, ds, ok, rfl, hb, aa, an⟩
  clear Ka_0 Ka_1 Kb_0 Kb_1
  replace Ka := hide ((unhide Ka).later hb)
  replace Kb := hide ((unhide Kb).later hb)
  replace Y2 := hide ((unhide Y2).later hb)
  replace HT := hide ((unhide HT).later hb)
  replace Aa := hide ((unhide Aa).later hb)
  replace Ab := hide ((unhide Ab).later hb)
  replace BW := hide (below_on (unhide BW) hb)
  clear hb
  have NS := hide an
  clear an
  have As := hide (aa)
  clear aa
  have al : Below w2.heap.size w2 (w2.alloc (.cells #[.bool bs.g, .slice bs.a bs.n bs.c] 25)) := (Below.refl _ _).alloc (Nat.le_refl _) _
  replace Ka := hide ((unhide Ka).later al)
  replace Kb := hide ((unhide Kb).later al)
  replace Y2 := hide ((unhide Y2).later al)
  replace HT := hide ((unhide HT).later al)
  replace Aa := hide ((unhide Aa).later al)
  replace Ab := hide ((unhide Ab).later al)
  replace As := hide ((unhide As).later al)
  replace BW := hide (below_on (unhide BW) al)
  clear al
  have Ks : Hid (BxN (w2.alloc (.cells #[.bool bs.g, .slice bs.a bs.n bs.c] 25)) w2.heap.size bs) := hide BxN.new
  have Ka_0 := (unhide Ka).c0
  have Ka_1 := (unhide Ka).c1
  have Kb_0 := (unhide Kb).c0
  have Kb_1 := (unhide Kb).c1
  go_wp2_with fail
  refine (addR_S ba bb da db _ (unhide Aa) (unhide Ab)).mono ?_
  rintro e w3 ⟨bw, dw, ok1, rfl, hb, aa, an⟩
  clear Ka_0 Ka_1 Kb_0 Kb_1
  replace Ka := hide ((unhide Ka).later hb)
  replace Kb := hide ((unhide Kb).later hb)
  replace Ks := hide ((unhide Ks).later hb)
  replace Y2 := hide ((unhide Y2).later hb)
  replace HT := hide ((unhide HT).later hb)
  replace Aa := hide ((unhide Aa).later hb)
  replace Ab := hide ((unhide Ab).later hb)
  replace As := hide ((unhide As).later hb)
  replace BW := hide (below_on (unhide BW) hb)
  clear hb
  obtain ⟨ed, eo⟩ := Ans.sameD (unhide NS) an
  subst ed eo
  clear an
  have Aw := hide (aa)
  clear aa
  have al : Below w3.heap.size w3 (w3.alloc (.cells #[.bool bw.g, .slice bw.a bw.n bw.c] 25)) := (Below.refl _ _).alloc (Nat.le_refl _) _
  replace Ka := hide ((unhide Ka).later al)
  replace Kb := hide ((unhide Kb).later al)
  replace Ks := hide ((unhide Ks).later al)
  replace Y2 := hide ((unhide Y2).later al)
  replace HT := hide ((unhide HT).later al)
  replace Aa := hide ((unhide Aa).later al)
  replace Ab := hide ((unhide Ab).later al)
  replace As := hide ((unhide As).later al)
  replace Aw := hide ((unhide Aw).later al)
  replace BW := hide (below_on (unhide BW) al)
  clear al
  have Kw : Hid (BxN (w3.alloc (.cells #[.bool bw.g, .slice bw.a bw.n bw.c] 25)) w3.heap.size bw) := hide BxN.new
  have Ka_0 := (unhide Ka).c0
  have Ka_1 := (unhide Ka).c1
  have Kb_0 := (unhide Kb).c0
  have Kb_1 := (unhide Kb).c1
  go_wp2_with fail
  refine (subR_I ba bb da db _ (unhide Aa) (unhide Ab)).mono ?_
  rintro e w4 ⟨bd, dd, one, rfl, hb, aa, an⟩
  clear Ka_0 Ka_1 Kb_0 Kb_1
  replace Ka := hide ((unhide Ka).later hb)
  replace Kb := hide ((unhide Kb).later hb)
  replace Ks := hide ((unhide Ks).later hb)
  replace Kw := hide ((unhide Kw).later hb)
  replace Y2 := hide ((unhide Y2).later hb)
  replace HT := hide ((unhide HT).later hb)
  replace Aa := hide ((unhide Aa).later hb)
  replace Ab := hide ((unhide Ab).later hb)
  replace As := hide ((unhide As).later hb)
  replace Aw := hide ((unhide Aw).later hb)
  replace BW := hide (below_on (unhide BW) hb)
  clear hb
  have ND := hide an
  clear an
  have Ad := hide (aa)
  clear aa
  have al : Below w4.heap.size w4 (w4.alloc (.cells #[.bool bd.g, .slice bd.a bd.n bd.c] 25)) := (Below.refl _ _).alloc (Nat.le_refl _) _
  replace Ka := hide ((unhide Ka).later al)
  replace Kb := hide ((unhide Kb).later al)
  replace Ks := hide ((unhide Ks).later al)
  replace Kw := hide ((unhide Kw).later al)
  replace Y2 := hide ((unhide Y2).later al)
  replace HT := hide ((unhide HT).later al)
  replace Aa := hide ((unhide Aa).later al)
  replace Ab := hide ((unhide Ab).later al)
  replace As := hide ((unhide As).later al)
  replace Aw := hide ((unhide Aw).later al)
  replace Ad := hide ((unhide Ad).later al)
  replace BW := hide (below_on (unhide BW) al)
  clear al
  have Kd : Hid (BxN (w4.alloc (.cells #[.bool bd.g, .slice bd.a bd.n bd.c] 25)) w4.heap.size bd) := hide BxN.new
  have Ka_0 := (unhide Ka).c0
  have Ka_1 := (unhide Ka).c1
  have Kb_0 := (unhide Kb).c0
  have Kb_1 := (unhide Kb).c1
  go_wp2_with fail
  refine (subR_S ba bb da db _ (unhide Aa) (unhide Ab)).mono ?_
  rintro e w5 ⟨bv, dv, ok2, rfl, hb, aa, an⟩
  clear Ka_0 Ka_1 Kb_0 Kb_1
  replace Ka := hide ((unhide Ka).later hb)
  replace Kb := hide ((unhide Kb).later hb)
  replace Ks := hide ((unhide Ks).later hb)
  replace Kw := hide ((unhide Kw).later hb)
  replace Kd := hide ((unhide Kd).later hb)
  replace Y2 := hide ((unhide Y2).later hb)
  replace HT := hide ((unhide HT).later hb)
  replace Aa := hide ((unhide Aa).later hb)
  replace Ab := hide ((unhide Ab).later hb)
  replace As := hide ((unhide As).later hb)
  replace Aw := hide ((unhide Aw).later hb)
  replace Ad := hide ((unhide Ad).later hb)
  replace BW := hide (below_on (unhide BW) hb)
  clear hb
  obtain ⟨ed, eo⟩ := Ans.sameD (unhide ND) an
  subst ed eo
  clear an
  have Av := hide (aa)
  clear aa
  have al : Below w5.heap.size w5 (w5.alloc (.cells #[.bool bv.g, .slice bv.a bv.n bv.c] 25)) := (Below.refl _ _).alloc (Nat.le_refl _) _
  replace Ka := hide ((unhide Ka).later al)
  replace Kb := hide ((unhide Kb).later al)
  replace Ks := hide ((unhide Ks).later al)
  replace Kw := hide ((unhide Kw).later al)
  replace Kd := hide ((unhide Kd).later al)
  replace Y2 := hide ((unhide Y2).later al)
  replace HT := hide ((unhide HT).later al)
  replace Aa := hide ((unhide Aa).later al)
  replace Ab := hide ((unhide Ab).later al)
  replace As := hide ((unhide As).later al)
  replace Aw := hide ((unhide Aw).later al)
  replace Ad := hide ((unhide Ad).later al)
  replace Av := hide ((unhide Av).later al)
  replace BW := hide (below_on (unhide BW) al)
  clear al
  have Kv : Hid (BxN (w5.alloc (.cells #[.bool bv.g, .slice bv.a bv.n bv.c] 25)) w5.heap.size bv) := hide BxN.new
  have Ka_0 := (unhide Ka).c0
  have Ka_1 := (unhide Ka).c1
  have Kb_0 := (unhide Kb).c0
  have Kb_1 := (unhide Kb).c1
  go_wp2_with fail
  refine (cmpR_I ba bb da db _ (unhide Aa) (unhide Ab) (by omega) (by omega)).mono ?_
  rintro e w6 ⟨rfl, hb⟩
  clear Ka_0 Ka_1 Kb_0 Kb_1
  replace Ka := hide ((unhide Ka).later hb)
  replace Kb := hide ((unhide Kb).later hb)
  replace Ks := hide ((unhide Ks).later hb)
  replace Kw := hide ((unhide Kw).later hb)
  replace Kd := hide ((unhide Kd).later hb)
  replace Kv := hide ((unhide Kv).later hb)
  replace Y2 := hide ((unhide Y2).later hb)
  replace HT := hide ((unhide HT).later hb)
  replace Aa := hide ((unhide Aa).later hb)
  replace Ab := hide ((unhide Ab).later hb)
  replace As := hide ((unhide As).later hb)
  replace Aw := hide ((unhide Aw).later hb)
  replace Ad := hide ((unhide Ad).later hb)
  replace Av := hide ((unhide Av).later hb)
  replace BW := hide (below_on (unhide BW) hb)
  clear hb
  have Ka_0 := (unhide Ka).c0
  have Ka_1 := (unhide Ka).c1
  have Kb_0 := (unhide Kb).c0
  have Kb_1 := (unhide Kb).c1
  go_wp2_with fail
  refine (cmpR_S ba bb da db _ (unhide Aa) (unhide Ab) (by omega) (by omega)).mono ?_
  rintro e w7 ⟨rfl, hb⟩
  clear Ka_0 Ka_1 Kb_0 Kb_1
  replace Ka := hide ((unhide Ka).later hb)
  replace Kb := hide ((unhide Kb).later hb)
  replace Ks := hide ((unhide Ks).later hb)
  replace Kw := hide ((unhide Kw).later hb)
  replace Kd := hide ((unhide Kd).later hb)
  replace Kv := hide ((unhide Kv).later hb)
  replace Y2 := hide ((unhide Y2).later hb)
  replace HT := hide ((unhide HT).later hb)
  replace Aa := hide ((unhide Aa).later hb)
  replace Ab := hide ((unhide Ab).later hb)
  replace As := hide ((unhide As).later hb)
  replace Aw := hide ((unhide Aw).later hb)
  replace Ad := hide ((unhide Ad).later hb)
  replace Av := hide ((unhide Av).later hb)
  replace BW := hide (below_on (unhide BW) hb)
  clear hb
  have HC : Hid (one = true → dd.g = decide (cmpV da.g da.xs db.g db.xs < 0) ∧ (dd.xs.length = 0 ↔ cmpV da.g da.xs db.g db.xs = 0) ∧ (cmpV da.g da.xs db.g db.xs = -1 ∨ cmpV da.g da.xs db.g db.xs = 0 ∨ cmpV da.g da.xs db.g db.xs = 1)) := hide (fun k => nb_cmp (by have h := unhide ND; rw [k] at h; exact h))
  have LS := hide ((unhide NS).len)
  have LD := hide ((unhide ND).len)
  have CGI := hide (fun (w' : World) (k : AllAr w' [(ba, da)]) => gdR_I ba da w' k (by omega))
  have CGS := hide (fun (w' : World) (k : AllAr w' [(ba, da)]) => gdR_S ba da w' k (by omega))
  generalize cmpV da.g da.xs db.g db.xs = cv at *
  generalize cmpOk da.g da.xs db.g db.xs = ck at *
  generalize hga : goodB da.g da.xs = ga at CGI CGS
  clear hga ND
  have x1 : (ok != ok) = false := by simp
  have x2 : (one != one) = false := by simp
  have x3 : (ck != ck) = false := by simp
  have x4 : (cv != cv) = false := by simp
  have x5 : (ga != ga) = false := by simp
  go_upto_region 10 with fail
  have Ks_0 := (unhide Ks).c0
  have Ks_1 := (unhide Ks).c1
  have Kw_0 := (unhide Kw).c0
  have Kw_1 := (unhide Kw).c1
  have Kd_0 := (unhide Kd).c0
  have Kd_1 := (unhide Kd).c1
  have Kv_0 := (unhide Kv).c0
  have Kv_1 := (unhide Kv).c1
  have Ka_0 := (unhide Ka).c0
  have Ka_1 := (unhide Ka).c1
  refine wp_region_held_drew (S := fun w' => w'.cell? ⟨w2.heap.size, 0, none⟩ = some (.bool bs.g) ∧ w'.cell? ⟨w2.heap.size, 1, none⟩ = some (.slice bs.a bs.n bs.c) ∧ w'.cell? ⟨w3.heap.size, 0, none⟩ = some (.bool bw.g) ∧ w'.cell? ⟨w3.heap.size, 1, none⟩ = some (.slice bw.a bw.n bw.c) ∧ w'.cell? ⟨w4.heap.size, 0, none⟩ = some (.bool bd.g) ∧ w'.cell? ⟨w4.heap.size, 1, none⟩ = some (.slice bd.a bd.n bd.c) ∧ w'.cell? ⟨w5.heap.size, 0, none⟩ = some (.bool bv.g) ∧ w'.cell? ⟨w5.heap.size, 1, none⟩ = some (.slice bv.a bv.n bv.c) ∧ w'.cell? ⟨w1.heap.size, 0, none⟩ = some (.bool ba.g) ∧ w'.cell? ⟨w1.heap.size, 1, none⟩ = some (.slice ba.a ba.n ba.c)) (by kernel_rfl) ⟨Ks_0, Ks_1, Kw_0, Kw_1, Kd_0, Kd_1, Kv_0, Kv_1, Ka_0, Ka_1⟩ (fun hHeld => ?_)
  simp only [List.size_toArray, List.length_cons, List.length_nil, Nat.reduceAdd, Array.replicate_succ, Array.replicate_zero, List.push_toArray, List.nil_append, List.cons_append]
  have BD := (Below.refl w7.heap.size w7).drew
  replace Ks_0 := cell_later BD Ks_0
  replace Ks_1 := cell_later BD Ks_1
  replace Kw_0 := cell_later BD Kw_0
  replace Kw_1 := cell_later BD Kw_1
  replace Kd_0 := cell_later BD Kd_0
  replace Kd_1 := cell_later BD Kd_1
  replace Kv_0 := cell_later BD Kv_0
  replace Kv_1 := cell_later BD Kv_1
  replace Ka_0 := cell_later BD Ka_0
  replace Ka_1 := cell_later BD Ka_1
  replace Ka := hide ((unhide Ka).later BD)
  replace Kb := hide ((unhide Kb).later BD)
  replace Ks := hide ((unhide Ks).later BD)
  replace Kw := hide ((unhide Kw).later BD)
  replace Kd := hide ((unhide Kd).later BD)
  replace Kv := hide ((unhide Kv).later BD)
  replace Y2 := hide ((unhide Y2).later BD)
  replace HT := hide ((unhide HT).later BD)
  replace Aa := hide ((unhide Aa).later BD)
  replace Ab := hide ((unhide Ab).later BD)
  replace As := hide ((unhide As).later BD)
  replace Aw := hide ((unhide Aw).later BD)
  replace Ad := hide ((unhide Ad).later BD)
  replace Av := hide ((unhide Av).later BD)
  replace BW := hide (below_on (unhide BW) BD)
  clear BD
  generalize w7.drew = wd at *
  refine wpAnyH_take (i := 0) (v := .bool ok) rfl (by kernel_rfl) (by kernel_rfl) (by kernel_rfl) (fun _ _ _ h => h) (Or.inl ⟨by rfl, by intro w hSw; (try dsimp only at hSw); go_simp⟩) hHeld ?_
  simp only [List.getElem_toArray, List.getElem_cons_zero, List.getElem_cons_succ, Act.put, List.setIfInBounds_toArray, List.set_cons_zero, List.set_cons_succ]
  refine wpAnyH_take (i := 1) (v := .bool ok) rfl (by kernel_rfl) (by kernel_rfl) (by kernel_rfl) (fun _ _ _ h => h) (Or.inl ⟨by rfl, by intro w hSw; (try dsimp only at hSw); go_simp⟩) hHeld ?_
  simp only [List.getElem_toArray, List.getElem_cons_zero, List.getElem_cons_succ, Act.put, List.setIfInBounds_toArray, List.set_cons_zero, List.set_cons_succ]
  refine wpAnyH_take (i := 2) (v := .bool false) rfl (by kernel_rfl) (by kernel_rfl) (by kernel_rfl) (fun _ _ _ h => h) (Or.inl ⟨by rfl, by intro w hSw; (try dsimp only at hSw); go_simp⟩) hHeld ?_
  simp only [List.getElem_toArray, List.getElem_cons_zero, List.getElem_cons_succ, Act.put, List.setIfInBounds_toArray, List.set_cons_zero, List.set_cons_succ]
  refine wpAnyH_take (i := 3) (v := .bool false) rfl (by kernel_rfl) (by kernel_rfl) (by kernel_rfl) (fun _ _ _ h => h) (Or.inl ⟨by rfl, by intro w hSw; (try dsimp only at hSw); go_simp⟩) hHeld ?_
  simp only [List.getElem_toArray, List.getElem_cons_zero, List.getElem_cons_succ, Act.put, List.setIfInBounds_toArray, List.set_cons_zero, List.set_cons_succ]
  refine wpAnyH_take (i := 4) (v := .agg #[.bool bs.g, .slice bs.a bs.n bs.c]) rfl (by kernel_rfl) (by kernel_rfl) (by kernel_rfl) (fun _ _ _ h => h) (Or.inl ⟨by rfl, by intro w hSw; (try dsimp only at hSw); go_simp⟩) hHeld ?_
  simp only [List.getElem_toArray, List.getElem_cons_zero, List.getElem_cons_succ, Act.put, List.setIfInBounds_toArray, List.set_cons_zero, List.set_cons_succ]
  refine wpAnyH_take (i := 5) (v := .agg #[.bool bw.g, .slice bw.a bw.n bw.c]) rfl (by kernel_rfl) (by kernel_rfl) (by kernel_rfl) (fun _ _ _ h => h) (Or.inl ⟨by rfl, by intro w hSw; (try dsimp only at hSw); go_simp⟩) hHeld ?_
  simp only [List.getElem_toArray, List.getElem_cons_zero, List.getElem_cons_succ, Act.put, List.setIfInBounds_toArray, List.set_cons_zero, List.set_cons_succ]
  refine wpAnyH_ready (rs := [6]) (by kernel_rfl) (by simp) (AllReadyH.cons rfl (fun K hK => ?_) AllReadyH.nil)
  go_simp
  refine (sameB bs bw ds _ (unhide As).sl (unhide Aw).sl (by have := unhide LS; omega)).mono ?_
  rintro e wa ⟨rfl, hb1⟩
  have hbx := hb1
  replace Ks_0 := cell_later hbx Ks_0
  replace Ks_1 := cell_later hbx Ks_1
  replace Kw_0 := cell_later hbx Kw_0
  replace Kw_1 := cell_later hbx Kw_1
  replace Kd_0 := cell_later hbx Kd_0
  replace Kd_1 := cell_later hbx Kd_1
  replace Kv_0 := cell_later hbx Kv_0
  replace Kv_1 := cell_later hbx Kv_1
  replace Ka_0 := cell_later hbx Ka_0
  replace Ka_1 := cell_later hbx Ka_1
  replace Ka := hide ((unhide Ka).later hbx)
  replace Kb := hide ((unhide Kb).later hbx)
  replace Ks := hide ((unhide Ks).later hbx)
  replace Kw := hide ((unhide Kw).later hbx)
  replace Kd := hide ((unhide Kd).later hbx)
  replace Kv := hide ((unhide Kv).later hbx)
  replace Y2 := hide ((unhide Y2).later hbx)
  replace HT := hide ((unhide HT).later hbx)
  replace Aa := hide ((unhide Aa).later hbx)
  replace Ab := hide ((unhide Ab).later hbx)
  replace As := hide ((unhide As).later hbx)
  replace Aw := hide ((unhide Aw).later hbx)
  replace Ad := hide ((unhide Ad).later hbx)
  replace Av := hide ((unhide Av).later hbx)
  replace BW := hide (below_on (unhide BW) hbx)
  refine hK.out _ _ ⟨Ks_0, Ks_1, Kw_0, Kw_1, Kd_0, Kd_1, Kv_0, Kv_1, Ka_0, Ka_1⟩ (fun hHeld2 => ?_)
  clear hK K hb1 hbx hHeld
  have hHeld := hHeld2
  clear hHeld2
  simp only [Act.put, List.setIfInBounds_toArray, List.set_cons_zero, List.set_cons_succ]
  refine wpAnyH_take (i := 7) (v := .bool false) rfl (by kernel_rfl) (by kernel_rfl) (by kernel_rfl) (fun _ _ _ h => h) (Or.inl ⟨by rfl, by intro w hSw; (try dsimp only at hSw); go_simp⟩) hHeld ?_
  simp only [List.getElem_toArray, List.getElem_cons_zero, List.getElem_cons_succ, Act.put, List.setIfInBounds_toArray, List.set_cons_zero, List.set_cons_succ]
  refine wpAnyH_take (i := 8) (v := .bool false) rfl (by kernel_rfl) (by kernel_rfl) (by kernel_rfl) (fun _ _ _ h => h) (Or.inl ⟨by rfl, by intro w hSw; (try dsimp only at hSw); go_simp⟩) hHeld ?_
  simp only [List.getElem_toArray, List.getElem_cons_zero, List.getElem_cons_succ, Act.put, List.setIfInBounds_toArray, List.set_cons_zero, List.set_cons_succ]
  refine wpAnyH_take (i := 9) (v := .bool false) rfl (by kernel_rfl) (by kernel_rfl) (by kernel_rfl) (fun _ _ _ h => h) (Or.inl ⟨by rfl, by intro w hSw; (try dsimp only at hSw); go_simp⟩) hHeld ?_
  simp only [List.getElem_toArray, List.getElem_cons_zero, List.getElem_cons_succ, Act.put, List.setIfInBounds_toArray, List.set_cons_zero, List.set_cons_succ]
  refine wpAnyH_take (i := 10) (v := .bool one) rfl (by kernel_rfl) (by kernel_rfl) (by kernel_rfl) (fun _ _ _ h => h) (Or.inl ⟨by rfl, by intro w hSw; (try dsimp only at hSw); go_simp⟩) hHeld ?_
  simp only [List.getElem_toArray, List.getElem_cons_zero, List.getElem_cons_succ, Act.put, List.setIfInBounds_toArray, List.set_cons_zero, List.set_cons_succ]
  refine wpAnyH_take (i := 11) (v := .bool one) rfl (by kernel_rfl) (by kernel_rfl) (by kernel_rfl) (fun _ _ _ h => h) (Or.inl ⟨by rfl, by intro w hSw; (try dsimp only at hSw); go_simp⟩) hHeld ?_
  simp only [List.getElem_toArray, List.getElem_cons_zero, List.getElem_cons_succ, Act.put, List.setIfInBounds_toArray, List.set_cons_zero, List.set_cons_succ]
  refine wpAnyH_take (i := 12) (v := .bool false) rfl (by kernel_rfl) (by kernel_rfl) (by kernel_rfl) (fun _ _ _ h => h) (Or.inl ⟨by rfl, by intro w hSw; (try dsimp only at hSw); go_simp⟩) hHeld ?_
  simp only [List.getElem_toArray, List.getElem_cons_zero, List.getElem_cons_succ, Act.put, List.setIfInBounds_toArray, List.set_cons_zero, List.set_cons_succ]
  refine wpAnyH_take (i := 13) (v := .bool false) rfl (by kernel_rfl) (by kernel_rfl) (by kernel_rfl) (fun _ _ _ h => h) (Or.inl ⟨by rfl, by intro w hSw; (try dsimp only at hSw); go_simp⟩) hHeld ?_
  simp only [List.getElem_toArray, List.getElem_cons_zero, List.getElem_cons_succ, Act.put, List.setIfInBounds_toArray, List.set_cons_zero, List.set_cons_succ]
  refine wpAnyH_take (i := 14) (v := .bool false) rfl (by kernel_rfl) (by kernel_rfl) (by kernel_rfl) (fun _ _ _ h => h) (Or.inl ⟨by rfl, by intro w hSw; (try dsimp only at hSw); go_simp⟩) hHeld ?_
  simp only [List.getElem_toArray, List.getElem_cons_zero, List.getElem_cons_succ, Act.put, List.setIfInBounds_toArray, List.set_cons_zero, List.set_cons_succ]
  refine wpAnyH_take (i := 15) (v := .agg #[.bool bd.g, .slice bd.a bd.n bd.c]) rfl (by kernel_rfl) (by kernel_rfl) (by kernel_rfl) (fun _ _ _ h => h) (Or.inl ⟨by rfl, by intro w hSw; (try dsimp only at hSw); go_simp⟩) hHeld ?_
  simp only [List.getElem_toArray, List.getElem_cons_zero, List.getElem_cons_succ, Act.put, List.setIfInBounds_toArray, List.set_cons_zero, List.set_cons_succ]
  refine wpAnyH_take (i := 16) (v := .agg #[.bool bv.g, .slice bv.a bv.n bv.c]) rfl (by kernel_rfl) (by kernel_rfl) (by kernel_rfl) (fun _ _ _ h => h) (Or.inl ⟨by rfl, by intro w hSw; (try dsimp only at hSw); go_simp⟩) hHeld ?_
  simp only [List.getElem_toArray, List.getElem_cons_zero, List.getElem_cons_succ, Act.put, List.setIfInBounds_toArray, List.set_cons_zero, List.set_cons_succ]
  refine wpAnyH_ready (rs := [17]) (by kernel_rfl) (by simp) (AllReadyH.cons rfl (fun K hK => ?_) AllReadyH.nil)
  go_simp
  refine (sameB bd bv dd _ (unhide Ad).sl (unhide Av).sl (by have := unhide LD; omega)).mono ?_
  rintro e wb ⟨rfl, hb1⟩
  have hbx := hb1
  replace Ks_0 := cell_later hbx Ks_0
  replace Ks_1 := cell_later hbx Ks_1
  replace Kw_0 := cell_later hbx Kw_0
  replace Kw_1 := cell_later hbx Kw_1
  replace Kd_0 := cell_later hbx Kd_0
  replace Kd_1 := cell_later hbx Kd_1
  replace Kv_0 := cell_later hbx Kv_0
  replace Kv_1 := cell_later hbx Kv_1
  replace Ka_0 := cell_later hbx Ka_0
  replace Ka_1 := cell_later hbx Ka_1
  replace Ka := hide ((unhide Ka).later hbx)
  replace Kb := hide ((unhide Kb).later hbx)
  replace Ks := hide ((unhide Ks).later hbx)
  replace Kw := hide ((unhide Kw).later hbx)
  replace Kd := hide ((unhide Kd).later hbx)
  replace Kv := hide ((unhide Kv).later hbx)
  replace Y2 := hide ((unhide Y2).later hbx)
  replace HT := hide ((unhide HT).later hbx)
  replace Aa := hide ((unhide Aa).later hbx)
  replace Ab := hide ((unhide Ab).later hbx)
  replace As := hide ((unhide As).later hbx)
  replace Aw := hide ((unhide Aw).later hbx)
  replace Ad := hide ((unhide Ad).later hbx)
  replace Av := hide ((unhide Av).later hbx)
  replace BW := hide (below_on (unhide BW) hbx)
  refine hK.out _ _ ⟨Ks_0, Ks_1, Kw_0, Kw_1, Kd_0, Kd_1, Kv_0, Kv_1, Ka_0, Ka_1⟩ (fun hHeld2 => ?_)
  clear hK K hb1 hbx hHeld
  have hHeld := hHeld2
  clear hHeld2
  simp only [Act.put, List.setIfInBounds_toArray, List.set_cons_zero, List.set_cons_succ]
  refine wpAnyH_take (i := 18) (v := .bool false) rfl (by kernel_rfl) (by kernel_rfl) (by kernel_rfl) (fun _ _ _ h => h) (Or.inl ⟨by rfl, by intro w hSw; (try dsimp only at hSw); go_simp⟩) hHeld ?_
  simp only [List.getElem_toArray, List.getElem_cons_zero, List.getElem_cons_succ, Act.put, List.setIfInBounds_toArray, List.set_cons_zero, List.set_cons_succ]
  refine wpAnyH_take (i := 19) (v := .bool false) rfl (by kernel_rfl) (by kernel_rfl) (by kernel_rfl) (fun _ _ _ h => h) (Or.inl ⟨by rfl, by intro w hSw; (try dsimp only at hSw); go_simp⟩) hHeld ?_
  simp only [List.getElem_toArray, List.getElem_cons_zero, List.getElem_cons_succ, Act.put, List.setIfInBounds_toArray, List.set_cons_zero, List.set_cons_succ]
  refine wpAnyH_take (i := 20) (v := .bool false) rfl (by kernel_rfl) (by kernel_rfl) (by kernel_rfl) (fun _ _ _ h => h) (Or.inl ⟨by rfl, by intro w hSw; (try dsimp only at hSw); go_simp⟩) hHeld ?_
  simp only [List.getElem_toArray, List.getElem_cons_zero, List.getElem_cons_succ, Act.put, List.setIfInBounds_toArray, List.set_cons_zero, List.set_cons_succ]
  refine wpAnyH_take (i := 21) (v := .bool ck) rfl (by kernel_rfl) (by kernel_rfl) (by kernel_rfl) (fun _ _ _ h => h) (Or.inl ⟨by rfl, by intro w hSw; (try dsimp only at hSw); go_simp⟩) hHeld ?_
  simp only [List.getElem_toArray, List.getElem_cons_zero, List.getElem_cons_succ, Act.put, List.setIfInBounds_toArray, List.set_cons_zero, List.set_cons_succ]
  refine wpAnyH_take (i := 22) (v := .bool ck) rfl (by kernel_rfl) (by kernel_rfl) (by kernel_rfl) (fun _ _ _ h => h) (Or.inl ⟨by rfl, by intro w hSw; (try dsimp only at hSw); go_simp⟩) hHeld ?_
  simp only [List.getElem_toArray, List.getElem_cons_zero, List.getElem_cons_succ, Act.put, List.setIfInBounds_toArray, List.set_cons_zero, List.set_cons_succ]
  refine wpAnyH_take (i := 23) (v := .bool false) rfl (by kernel_rfl) (by kernel_rfl) (by kernel_rfl) (fun _ _ _ h => h) (Or.inl ⟨by rfl, by intro w hSw; (try dsimp only at hSw); go_simp⟩) hHeld ?_
  simp only [List.getElem_toArray, List.getElem_cons_zero, List.getElem_cons_succ, Act.put, List.setIfInBounds_toArray, List.set_cons_zero, List.set_cons_succ]
  refine wpAnyH_take (i := 24) (v := .bool false) rfl (by kernel_rfl) (by kernel_rfl) (by kernel_rfl) (fun _ _ _ h => h) (Or.inl ⟨by rfl, by intro w hSw; (try dsimp only at hSw); go_simp⟩) hHeld ?_
  simp only [List.getElem_toArray, List.getElem_cons_zero, List.getElem_cons_succ, Act.put, List.setIfInBounds_toArray, List.set_cons_zero, List.set_cons_succ]
  refine wpAnyH_take (i := 25) (v := .bool false) rfl (by kernel_rfl) (by kernel_rfl) (by kernel_rfl) (fun _ _ _ h => h) (Or.inl ⟨by rfl, by intro w hSw; (try dsimp only at hSw); go_simp⟩) hHeld ?_
  simp only [List.getElem_toArray, List.getElem_cons_zero, List.getElem_cons_succ, Act.put, List.setIfInBounds_toArray, List.set_cons_zero, List.set_cons_succ]
  refine wpAnyH_take (i := 26) (v := .int .i64 cv) rfl (by kernel_rfl) (by kernel_rfl) (by kernel_rfl) (fun _ _ _ h => h) (Or.inl ⟨by rfl, by intro w hSw; (try dsimp only at hSw); go_simp⟩) hHeld ?_
  simp only [List.getElem_toArray, List.getElem_cons_zero, List.getElem_cons_succ, Act.put, List.setIfInBounds_toArray, List.set_cons_zero, List.set_cons_succ]
  refine wpAnyH_take (i := 27) (v := .int .i64 cv) rfl (by kernel_rfl) (by kernel_rfl) (by kernel_rfl) (fun _ _ _ h => h) (Or.inl ⟨by rfl, by intro w hSw; (try dsimp only at hSw); go_simp⟩) hHeld ?_
  simp only [List.getElem_toArray, List.getElem_cons_zero, List.getElem_cons_succ, Act.put, List.setIfInBounds_toArray, List.set_cons_zero, List.set_cons_succ]
  refine wpAnyH_take (i := 28) (v := .bool false) rfl (by kernel_rfl) (by kernel_rfl) (by kernel_rfl) (fun _ _ _ h => h) (Or.inl ⟨by rfl, by intro w hSw; (try dsimp only at hSw); go_simp⟩) hHeld ?_
  simp only [List.getElem_toArray, List.getElem_cons_zero, List.getElem_cons_succ, Act.put, List.setIfInBounds_toArray, List.set_cons_zero, List.set_cons_succ]
  refine wpAnyH_take (i := 29) (v := .bool false) rfl (by kernel_rfl) (by kernel_rfl) (by kernel_rfl) (fun _ _ _ h => h) (Or.inl ⟨by rfl, by intro w hSw; (try dsimp only at hSw); go_simp⟩) hHeld ?_
  simp only [List.getElem_toArray, List.getElem_cons_zero, List.getElem_cons_succ, Act.put, List.setIfInBounds_toArray, List.set_cons_zero, List.set_cons_succ]
  refine wpAnyH_take (i := 30) (v := .bool false) rfl (by kernel_rfl) (by kernel_rfl) (by kernel_rfl) (fun _ _ _ h => h) (Or.inl ⟨by rfl, by intro w hSw; (try dsimp only at hSw); go_simp⟩) hHeld ?_
  simp only [List.getElem_toArray, List.getElem_cons_zero, List.getElem_cons_succ, Act.put, List.setIfInBounds_toArray, List.set_cons_zero, List.set_cons_succ]
  refine wpAnyH_take (i := 31) (v := .agg #[.bool ba.g, .slice ba.a ba.n ba.c]) rfl (by kernel_rfl) (by kernel_rfl) (by kernel_rfl) (fun _ _ _ h => h) (Or.inl ⟨by rfl, by intro w hSw; (try dsimp only at hSw); go_simp⟩) hHeld ?_
  simp only [List.getElem_toArray, List.getElem_cons_zero, List.getElem_cons_succ, Act.put, List.setIfInBounds_toArray, List.set_cons_zero, List.set_cons_succ]
  refine wpAnyH_take (i := 33) (v := .agg #[.bool ba.g, .slice ba.a ba.n ba.c]) rfl (by kernel_rfl) (by kernel_rfl) (by kernel_rfl) (fun _ _ _ h => h) (Or.inl ⟨by rfl, by intro w hSw; (try dsimp only at hSw); go_simp⟩) hHeld ?_
  simp only [List.getElem_toArray, List.getElem_cons_zero, List.getElem_cons_succ, Act.put, List.setIfInBounds_toArray, List.set_cons_zero, List.set_cons_succ]
  refine wpAnyH_ready (rs := [32]) (by kernel_rfl) (by simp) (AllReadyH.cons rfl (fun K hK => ?_) AllReadyH.nil)
  go_simp
  refine (unhide CGI _ (unhide Aa)).mono ?_
  rintro e wc_ ⟨rfl, hb1⟩
  have hbx := hb1
  replace Ks_0 := cell_later hbx Ks_0
  replace Ks_1 := cell_later hbx Ks_1
  replace Kw_0 := cell_later hbx Kw_0
  replace Kw_1 := cell_later hbx Kw_1
  replace Kd_0 := cell_later hbx Kd_0
  replace Kd_1 := cell_later hbx Kd_1
  replace Kv_0 := cell_later hbx Kv_0
  replace Kv_1 := cell_later hbx Kv_1
  replace Ka_0 := cell_later hbx Ka_0
  replace Ka_1 := cell_later hbx Ka_1
  replace Ka := hide ((unhide Ka).later hbx)
  replace Kb := hide ((unhide Kb).later hbx)
  replace Ks := hide ((unhide Ks).later hbx)
  replace Kw := hide ((unhide Kw).later hbx)
  replace Kd := hide ((unhide Kd).later hbx)
  replace Kv := hide ((unhide Kv).later hbx)
  replace Y2 := hide ((unhide Y2).later hbx)
  replace HT := hide ((unhide HT).later hbx)
  replace Aa := hide ((unhide Aa).later hbx)
  replace Ab := hide ((unhide Ab).later hbx)
  replace As := hide ((unhide As).later hbx)
  replace Aw := hide ((unhide Aw).later hbx)
  replace Ad := hide ((unhide Ad).later hbx)
  replace Av := hide ((unhide Av).later hbx)
  replace BW := hide (below_on (unhide BW) hbx)
  refine hK.out _ _ ⟨Ks_0, Ks_1, Kw_0, Kw_1, Kd_0, Kd_1, Kv_0, Kv_1, Ka_0, Ka_1⟩ (fun hHeld2 => ?_)
  clear hK K hb1 hbx hHeld
  have hHeld := hHeld2
  clear hHeld2
  simp only [Act.put, List.setIfInBounds_toArray, List.set_cons_zero, List.set_cons_succ]
  refine wpAnyH_ready (rs := [34]) (by kernel_rfl) (by simp) (AllReadyH.cons rfl (fun K hK => ?_) AllReadyH.nil)
  go_simp
  refine (unhide CGS _ (unhide Aa)).mono ?_
  rintro e wd_ ⟨rfl, hb1⟩
  have hbx := hb1
  replace Ks_0 := cell_later hbx Ks_0
  replace Ks_1 := cell_later hbx Ks_1
  replace Kw_0 := cell_later hbx Kw_0
  replace Kw_1 := cell_later hbx Kw_1
  replace Kd_0 := cell_later hbx Kd_0
  replace Kd_1 := cell_later hbx Kd_1
  replace Kv_0 := cell_later hbx Kv_0
  replace Kv_1 := cell_later hbx Kv_1
  replace Ka_0 := cell_later hbx Ka_0
  replace Ka_1 := cell_later hbx Ka_1
  replace Ka := hide ((unhide Ka).later hbx)
  replace Kb := hide ((unhide Kb).later hbx)
  replace Ks := hide ((unhide Ks).later hbx)
  replace Kw := hide ((unhide Kw).later hbx)
  replace Kd := hide ((unhide Kd).later hbx)
  replace Kv := hide ((unhide Kv).later hbx)
  replace Y2 := hide ((unhide Y2).later hbx)
  replace HT := hide ((unhide HT).later hbx)
  replace Aa := hide ((unhide Aa).later hbx)
  replace Ab := hide ((unhide Ab).later hbx)
  replace As := hide ((unhide As).later hbx)
  replace Aw := hide ((unhide Aw).later hbx)
  replace Ad := hide ((unhide Ad).later hbx)
  replace Av := hide ((unhide Av).later hbx)
  replace BW := hide (below_on (unhide BW) hbx)
  refine hK.out _ _ ⟨Ks_0, Ks_1, Kw_0, Kw_1, Kd_0, Kd_1, Kv_0, Kv_1, Ka_0, Ka_1⟩ (fun hHeld2 => ?_)
  clear hK K hb1 hbx hHeld
  have hHeld := hHeld2
  clear hHeld2
  simp only [Act.put, List.setIfInBounds_toArray, List.set_cons_zero, List.set_cons_succ]
  refine wpAnyH_take (i := 35) (v := .bool false) rfl (by kernel_rfl) (by kernel_rfl) (by kernel_rfl) (fun _ _ _ h => h) (Or.inl ⟨by rfl, by intro w hSw; (try dsimp only at hSw); go_simp⟩) hHeld ?_
  simp only [List.getElem_toArray, List.getElem_cons_zero, List.getElem_cons_succ, Act.put, List.setIfInBounds_toArray, List.set_cons_zero, List.set_cons_succ]
  refine wpAnyH_take (i := 36) (v := .bool false) rfl (by kernel_rfl) (by kernel_rfl) (by kernel_rfl) (fun _ _ _ h => h) (Or.inl ⟨by rfl, by intro w hSw; (try dsimp only at hSw); go_simp⟩) hHeld ?_
  simp only [List.getElem_toArray, List.getElem_cons_zero, List.getElem_cons_succ, Act.put, List.setIfInBounds_toArray, List.set_cons_zero, List.set_cons_succ]
  refine wpAnyH_done (by kernel_rfl) ?_ _
  clear hHeld
  clear Ks_0 Ks_1 Kw_0 Kw_1 Kd_0 Kd_1 Kv_0 Kv_1 Ka_0 Ka_1
  clear CGI CGS x1 x2 x3 x4 x5
  clear Kw Kv Aw Av
  go_upto_if 123 with fail
  have FB0 : Hid (Below wd_.heap.size wd_ wd_) := hide (Below.refl _ _)
  go_cut [] (fun wx => Hid (Below wd_.heap.size wd_ wx))
  case first => as_aux_lemma =>
    cases ok
    · skip
      go_wp2_with fail
      go_meet
      exact FB0
    · skip
      have Ks_0 := (unhide Ks).c0
      have Ks_1 := (unhide Ks).c1
      have Kb_0 := (unhide Kb).c0
      have Kb_1 := (unhide Kb).c1
      go_wp2_with fail
      refine (subR_I bs bb ds db _ (unhide As) (unhide Ab)).mono ?_
      rintro e w8 ⟨bx, dx, okx, rfl, hb, ax, an⟩
      clear Ks_0 Ks_1 Kb_0 Kb_1
      replace Ka := hide ((unhide Ka).later hb)
      replace Kb := hide ((unhide Kb).later hb)
      replace Ks := hide ((unhide Ks).later hb)
      replace Kd := hide ((unhide Kd).later hb)
      replace Y2 := hide ((unhide Y2).later hb)
      replace HT := hide ((unhide HT).later hb)
      replace Aa := hide ((unhide Aa).later hb)
      replace Ab := hide ((unhide Ab).later hb)
      replace As := hide ((unhide As).later hb)
      replace Ad := hide ((unhide Ad).later hb)
      replace BW := hide (below_on (unhide BW) hb)
      replace FB0 := hide (below_on (unhide FB0) hb)
      clear hb
      obtain ⟨g1, e1, e2⟩ := nb_back (unhide NS) an
      subst e1
      rw [e2] at ax
      clear an e2
      have Ax := hide (ax)
      clear ax
      have al : Below w8.heap.size w8 (w8.alloc (.cells #[.bool bx.g, .slice bx.a bx.n bx.c] 25)) := (Below.refl _ _).alloc (Nat.le_refl _) _
      replace Ka := hide ((unhide Ka).later al)
      replace Kb := hide ((unhide Kb).later al)
      replace Ks := hide ((unhide Ks).later al)
      replace Kd := hide ((unhide Kd).later al)
      replace Y2 := hide ((unhide Y2).later al)
      replace HT := hide ((unhide HT).later al)
      replace Aa := hide ((unhide Aa).later al)
      replace Ab := hide ((unhide Ab).later al)
      replace As := hide ((unhide As).later al)
      replace Ad := hide ((unhide Ad).later al)
      replace Ax := hide ((unhide Ax).later al)
      replace BW := hide (below_on (unhide BW) al)
      replace FB0 := hide (below_on (unhide FB0) al)
      clear al
      have Kx : Hid (BxN (w8.alloc (.cells #[.bool bx.g, .slice bx.a bx.n bx.c] 25)) w8.heap.size bx) := hide BxN.new
      have Kb_0 := (unhide Kb).c0
      have Kb_1 := (unhide Kb).c1
      have Ka_0 := (unhide Ka).c0
      have Ka_1 := (unhide Ka).c1
      go_wp2_with fail
      refine (addR_I bb ba db da _ (unhide Ab) (unhide Aa)).mono ?_
      rintro e w9 ⟨bz, dz, okz, rfl, hb, az, an⟩
      clear Kb_0 Kb_1 Ka_0 Ka_1
      replace Ka := hide ((unhide Ka).later hb)
      replace Kb := hide ((unhide Kb).later hb)
      replace Ks := hide ((unhide Ks).later hb)
      replace Kd := hide ((unhide Kd).later hb)
      replace Kx := hide ((unhide Kx).later hb)
      replace Y2 := hide ((unhide Y2).later hb)
      replace HT := hide ((unhide HT).later hb)
      replace Aa := hide ((unhide Aa).later hb)
      replace Ab := hide ((unhide Ab).later hb)
      replace As := hide ((unhide As).later hb)
      replace Ad := hide ((unhide Ad).later hb)
      replace Ax := hide ((unhide Ax).later hb)
      replace BW := hide (below_on (unhide BW) hb)
      replace FB0 := hide (below_on (unhide FB0) hb)
      clear hb
      obtain ⟨e1, e2⟩ := nb_other (unhide NS) an
      subst e1
      rw [e2] at az
      clear an e2
      have Az := hide (az)
      clear az
      have al : Below w9.heap.size w9 (w9.alloc (.cells #[.bool bz.g, .slice bz.a bz.n bz.c] 25)) := (Below.refl _ _).alloc (Nat.le_refl _) _
      replace Ka := hide ((unhide Ka).later al)
      replace Kb := hide ((unhide Kb).later al)
      replace Ks := hide ((unhide Ks).later al)
      replace Kd := hide ((unhide Kd).later al)
      replace Kx := hide ((unhide Kx).later al)
      replace Y2 := hide ((unhide Y2).later al)
      replace HT := hide ((unhide HT).later al)
      replace Aa := hide ((unhide Aa).later al)
      replace Ab := hide ((unhide Ab).later al)
      replace As := hide ((unhide As).later al)
      replace Ad := hide ((unhide Ad).later al)
      replace Ax := hide ((unhide Ax).later al)
      replace Az := hide ((unhide Az).later al)
      replace BW := hide (below_on (unhide BW) al)
      replace FB0 := hide (below_on (unhide FB0) al)
      clear al
      have Kz : Hid (BxN (w9.alloc (.cells #[.bool bz.g, .slice bz.a bz.n bz.c] 25)) w9.heap.size bz) := hide BxN.new
      have Ks_0 := (unhide Ks).c0
      have Ks_1 := (unhide Ks).c1
      go_wp2_with fail
      refine (gdR_I bs ds _ (unhide As) (by have := unhide LS; omega)).mono ?_
      rintro e w10 ⟨rfl, hb⟩
      clear Ks_0 Ks_1
      replace Ka := hide ((unhide Ka).later hb)
      replace Kb := hide ((unhide Kb).later hb)
      replace Ks := hide ((unhide Ks).later hb)
      replace Kd := hide ((unhide Kd).later hb)
      replace Kx := hide ((unhide Kx).later hb)
      replace Kz := hide ((unhide Kz).later hb)
      replace Y2 := hide ((unhide Y2).later hb)
      replace HT := hide ((unhide HT).later hb)
      replace Aa := hide ((unhide Aa).later hb)
      replace Ab := hide ((unhide Ab).later hb)
      replace As := hide ((unhide As).later hb)
      replace Ad := hide ((unhide Ad).later hb)
      replace Ax := hide ((unhide Ax).later hb)
      replace Az := hide ((unhide Az).later hb)
      replace BW := hide (below_on (unhide BW) hb)
      replace FB0 := hide (below_on (unhide FB0) hb)
      clear hb
      have Kx_0 := (unhide Kx).c0
      have Kx_1 := (unhide Kx).c1
      have Ka_0 := (unhide Ka).c0
      have Ka_1 := (unhide Ka).c1
      go_wp2_with fail
      refine (sameB bx ba da _ ((unhide Ax).sl) ((unhide Aa).sl) (by have := la; omega)).mono ?_
      rintro e w11 ⟨rfl, hb⟩
      clear Kx_0 Kx_1 Ka_0 Ka_1
      replace Ka := hide ((unhide Ka).later hb)
      replace Kb := hide ((unhide Kb).later hb)
      replace Ks := hide ((unhide Ks).later hb)
      replace Kd := hide ((unhide Kd).later hb)
      replace Kx := hide ((unhide Kx).later hb)
      replace Kz := hide ((unhide Kz).later hb)
      replace Y2 := hide ((unhide Y2).later hb)
      replace HT := hide ((unhide HT).later hb)
      replace Aa := hide ((unhide Aa).later hb)
      replace Ab := hide ((unhide Ab).later hb)
      replace As := hide ((unhide As).later hb)
      replace Ad := hide ((unhide Ad).later hb)
      replace Ax := hide ((unhide Ax).later hb)
      replace Az := hide ((unhide Az).later hb)
      replace BW := hide (below_on (unhide BW) hb)
      replace FB0 := hide (below_on (unhide FB0) hb)
      clear hb
      have Kz_0 := (unhide Kz).c0
      have Kz_1 := (unhide Kz).c1
      have Ks_0 := (unhide Ks).c0
      have Ks_1 := (unhide Ks).c1
      go_wp2_with fail
      refine (sameB bz bs ds _ ((unhide Az).sl) ((unhide As).sl) (by have := unhide LS; omega)).mono ?_
      rintro e w12 ⟨rfl, hb⟩
      clear Kz_0 Kz_1 Ks_0 Ks_1
      replace Ka := hide ((unhide Ka).later hb)
      replace Kb := hide ((unhide Kb).later hb)
      replace Ks := hide ((unhide Ks).later hb)
      replace Kd := hide ((unhide Kd).later hb)
      replace Kx := hide ((unhide Kx).later hb)
      replace Kz := hide ((unhide Kz).later hb)
      replace Y2 := hide ((unhide Y2).later hb)
      replace HT := hide ((unhide HT).later hb)
      replace Aa := hide ((unhide Aa).later hb)
      replace Ab := hide ((unhide Ab).later hb)
      replace As := hide ((unhide As).later hb)
      replace Ad := hide ((unhide Ad).later hb)
      replace Ax := hide ((unhide Ax).later hb)
      replace Az := hide ((unhide Az).later hb)
      replace BW := hide (below_on (unhide BW) hb)
      replace FB0 := hide (below_on (unhide FB0) hb)
      clear hb
      go_wp2_with fail
      go_meet
      exact FB0
  case rest => as_aux_lemma =>
    obtain hcut := hcut
    obtain ⟨w13, hwc⟩ : ∃ x, x = wc := ⟨_, rfl⟩
    subst hwc
    have hb := unhide hcut
    clear hcut FB0
    replace Ka := hide ((unhide Ka).later hb)
    replace Kb := hide ((unhide Kb).later hb)
    replace Ks := hide ((unhide Ks).later hb)
    replace Kd := hide ((unhide Kd).later hb)
    replace Y2 := hide ((unhide Y2).later hb)
    replace HT := hide ((unhide HT).later hb)
    replace Aa := hide ((unhide Aa).later hb)
    replace Ab := hide ((unhide Ab).later hb)
    replace As := hide ((unhide As).later hb)
    replace Ad := hide ((unhide Ad).later hb)
    replace BW := hide (below_on (unhide BW) hb)
    clear hb
    clear NS
    clear Ks As Ka Kb Aa Ab
    go_upto_region 17 with fail
    have FB1 : Hid (Below w13.heap.size w13 w13) := hide (Below.refl _ _)
    go_cut [173] (fun v wx => v = .bool false ∧ Hid (Below w13.heap.size w13 wx))
    case first => as_aux_lemma =>
      cases one
      · skip
        go_wp2_with fail
        go_meet
        exact ⟨rfl, FB1⟩
      · obtain ⟨q1, q2, q3⟩ := unhide HC rfl
        have HG := hide ((unhide Ad).head.sg.trans q1)
        have HN : dd.xs.length = bd.n := (unhide Ad).n_len
        rw [HN] at q2
        clear HC q1 HN
        rcases q3 with rfl | rfl | rfl
        · have bg : bd.g = true := (unhide HG).trans (by decide)
          have Kd_0 := (unhide Kd).c0
          have Kd_1 := (unhide Kd).c1
          rw [bg] at Kd_0
          go_wp2_with fail
          refine (zeroB (⟨true, bd.a, bd.n, bd.c⟩ : BV) _).mono ?_
          rintro e w14 ⟨z, rfl, hb, hz⟩
          clear Kd_0 Kd_1
          replace Kd := hide ((unhide Kd).later hb)
          replace Y2 := hide ((unhide Y2).later hb)
          replace HT := hide ((unhide HT).later hb)
          replace Ad := hide ((unhide Ad).later hb)
          replace BW := hide (below_on (unhide BW) hb)
          replace FB1 := hide (below_on (unhide FB1) hb)
          clear hb
          obtain rfl : z = false := by
            cases z
            · rfl
            · exact absurd (q2.1 (hz.1 rfl)) (by decide)
          clear hz q2 HG bg
          go_wp2_with fail
          go_meet
          exact ⟨rfl, FB1⟩
        · have bg : bd.g = false := (unhide HG).trans (by decide)
          have Kd_0 := (unhide Kd).c0
          have Kd_1 := (unhide Kd).c1
          rw [bg] at Kd_0
          go_wp2_with fail
          refine (zeroB (⟨false, bd.a, bd.n, bd.c⟩ : BV) _).mono ?_
          rintro e w15 ⟨z, rfl, hb, hz⟩
          clear Kd_0 Kd_1
          replace Kd := hide ((unhide Kd).later hb)
          replace Y2 := hide ((unhide Y2).later hb)
          replace HT := hide ((unhide HT).later hb)
          replace Ad := hide ((unhide Ad).later hb)
          replace BW := hide (below_on (unhide BW) hb)
          replace FB1 := hide (below_on (unhide FB1) hb)
          clear hb
          obtain rfl : z = true := hz.2 (q2.2 (by simp))
          clear hz q2 HG bg
          go_wp2_with fail
          go_meet
          exact ⟨rfl, FB1⟩
        · have bg : bd.g = false := (unhide HG).trans (by decide)
          have Kd_0 := (unhide Kd).c0
          have Kd_1 := (unhide Kd).c1
          rw [bg] at Kd_0
          go_wp2_with fail
          refine (zeroB (⟨false, bd.a, bd.n, bd.c⟩ : BV) _).mono ?_
          rintro e w16 ⟨z, rfl, hb, hz⟩
          clear Kd_0 Kd_1
          replace Kd := hide ((unhide Kd).later hb)
          replace Y2 := hide ((unhide Y2).later hb)
          replace HT := hide ((unhide HT).later hb)
          replace Ad := hide ((unhide Ad).later hb)
          replace BW := hide (below_on (unhide BW) hb)
          replace FB1 := hide (below_on (unhide FB1) hb)
          clear hb
          obtain rfl : z = false := by
            cases z
            · rfl
            · exact absurd (q2.1 (hz.1 rfl)) (by decide)
          clear hz q2 HG bg
          go_wp2_with fail
          go_meet
          exact ⟨rfl, FB1⟩
    case rest => as_aux_lemma =>
      obtain ⟨rfl, hcut⟩ := hcut
      obtain ⟨w17, hwc⟩ : ∃ x, x = wc := ⟨_, rfl⟩
      subst hwc
      have hb := unhide hcut
      clear hcut FB1
      replace Kd := hide ((unhide Kd).later hb)
      replace Y2 := hide ((unhide Y2).later hb)
      replace HT := hide ((unhide HT).later hb)
      replace Ad := hide ((unhide Ad).later hb)
      replace BW := hide (below_on (unhide BW) hb)
      clear hb
      clear HC LD
      clear Kd Ad
      go_wp2_with fail
      refine (drawBO a' m c' _ (unhide Y2)).mono ?_
      rintro e w18 ⟨nn, rfl, n0, n1, hb⟩
      replace Y2 := hide ((unhide Y2).later hb)
      replace HT := hide ((unhide HT).later hb)
      replace BW := hide (below_on (unhide BW) hb)
      clear hb
      go_wp2_with fail
      refine (ofR_I nn _ n0 n1).mono ?_
      rintro e w19 ⟨bx, dx, rfl, hb, ax, fx⟩
      replace Y2 := hide ((unhide Y2).later hb)
      replace HT := hide ((unhide HT).later hb)
      replace BW := hide (below_on (unhide BW) hb)
      clear hb
      have Ax := hide (ax)
      have FX := hide fx
      clear ax fx
      have al : Below w19.heap.size w19 (w19.alloc (.cells #[.bool bx.g, .slice bx.a bx.n bx.c] 25)) := (Below.refl _ _).alloc (Nat.le_refl _) _
      replace Y2 := hide ((unhide Y2).later al)
      replace HT := hide ((unhide HT).later al)
      replace Ax := hide ((unhide Ax).later al)
      replace BW := hide (below_on (unhide BW) al)
      clear al
      have Kx : Hid (BxN (w19.alloc (.cells #[.bool bx.g, .slice bx.a bx.n bx.c] 25)) w19.heap.size bx) := hide BxN.new
      have LX : dx.xs.length ≤ 1048576 := by have := (unhide FX).len; omega
      have CG := hide (fun (w' : World) (k : AllAr w' [(bx, dx)]) => (show Calls Tryd.prog 12 #[.agg #[.bool bx.g, .slice bx.a bx.n bx.c]] w' fun e w'' => e = .returned (.bool true) ∧ Below w'.heap.size w' w'' from by have q := gdR_I bx dx w' k LX; rw [(unhide FX).good] at q; exact q))
      have Kx_0 := (unhide Kx).c0
      have Kx_1 := (unhide Kx).c1
      clear Kx_0 Kx_1
      go_upto_region 21 with fail
      generalize (w19.alloc (.cells #[.bool bx.g, .slice bx.a bx.n bx.c] 25)) = wq at *
      have Kx_0 := (unhide Kx).c0
      have Kx_1 := (unhide Kx).c1
      refine wp_region_held_drew (S := fun w' => w'.cell? ⟨w19.heap.size, 0, none⟩ = some (.bool bx.g) ∧ w'.cell? ⟨w19.heap.size, 1, none⟩ = some (.slice bx.a bx.n bx.c)) (by kernel_rfl) ⟨Kx_0, Kx_1⟩ (fun hHeld => ?_)
      simp only [List.size_toArray, List.length_cons, List.length_nil, Nat.reduceAdd, Array.replicate_succ, Array.replicate_zero, List.push_toArray, List.nil_append, List.cons_append]
      have BD := (Below.refl wq.heap.size wq).drew
      replace Kx_0 := cell_later BD Kx_0
      replace Kx_1 := cell_later BD Kx_1
      replace Kx := hide ((unhide Kx).later BD)
      replace Y2 := hide ((unhide Y2).later BD)
      replace HT := hide ((unhide HT).later BD)
      replace Ax := hide ((unhide Ax).later BD)
      replace BW := hide (below_on (unhide BW) BD)
      clear BD
      generalize wq.drew = wd at *
      refine wpAnyH_take (i := 0) (v := .agg #[.bool bx.g, .slice bx.a bx.n bx.c]) rfl (by kernel_rfl) (by kernel_rfl) (by kernel_rfl) (fun _ _ _ h => h) (Or.inl ⟨by rfl, by intro w hSw; (try dsimp only at hSw); go_simp⟩) hHeld ?_
      simp only [List.getElem_toArray, List.getElem_cons_zero, List.getElem_cons_succ, Act.put, List.setIfInBounds_toArray, List.set_cons_zero, List.set_cons_succ]
      refine wpAnyH_ready (rs := [1]) (by kernel_rfl) (by simp) (AllReadyH.cons rfl (fun K hK => ?_) AllReadyH.nil)
      go_simp
      refine (unhide CG _ (unhide Ax)).mono ?_
      rintro e we ⟨rfl, hb1⟩
      have hbx := hb1
      replace Kx_0 := cell_later hbx Kx_0
      replace Kx_1 := cell_later hbx Kx_1
      replace Kx := hide ((unhide Kx).later hbx)
      replace Y2 := hide ((unhide Y2).later hbx)
      replace HT := hide ((unhide HT).later hbx)
      replace Ax := hide ((unhide Ax).later hbx)
      replace BW := hide (below_on (unhide BW) hbx)
      refine hK.out _ _ ⟨Kx_0, Kx_1⟩ (fun hHeld2 => ?_)
      clear hK K hb1 hbx hHeld
      have hHeld := hHeld2
      clear hHeld2
      simp only [Act.put, List.setIfInBounds_toArray, List.set_cons_zero, List.set_cons_succ]
      refine wpAnyH_take (i := 2) (v := .bool false) rfl (by kernel_rfl) (by kernel_rfl) (by kernel_rfl) (fun _ _ _ h => h) (Or.inl ⟨by rfl, by intro w hSw; (try dsimp only at hSw); go_simp⟩) hHeld ?_
      simp only [List.getElem_toArray, List.getElem_cons_zero, List.getElem_cons_succ, Act.put, List.setIfInBounds_toArray, List.set_cons_zero, List.set_cons_succ]
      refine wpAnyH_take (i := 3) (v := .bool false) rfl (by kernel_rfl) (by kernel_rfl) (by kernel_rfl) (fun _ _ _ h => h) (Or.inl ⟨by rfl, by intro w hSw; (try dsimp only at hSw); go_simp⟩) hHeld ?_
      simp only [List.getElem_toArray, List.getElem_cons_zero, List.getElem_cons_succ, Act.put, List.setIfInBounds_toArray, List.set_cons_zero, List.set_cons_succ]
      refine wpAnyH_take (i := 4) (v := .agg #[.bool bx.g, .slice bx.a bx.n bx.c]) rfl (by kernel_rfl) (by kernel_rfl) (by kernel_rfl) (fun _ _ _ h => h) (Or.inl ⟨by rfl, by intro w hSw; (try dsimp only at hSw); go_simp⟩) hHeld ?_
      simp only [List.getElem_toArray, List.getElem_cons_zero, List.getElem_cons_succ, Act.put, List.setIfInBounds_toArray, List.set_cons_zero, List.set_cons_succ]
      refine wpAnyH_take (i := 5) (v := .int .i64 nn) rfl (by kernel_rfl) (by kernel_rfl) (by kernel_rfl) (fun _ _ _ h => h) (Or.inl ⟨by rfl, by intro w hSw; (try dsimp only at hSw); go_simp⟩) hHeld ?_
      simp only [List.getElem_toArray, List.getElem_cons_zero, List.getElem_cons_succ, Act.put, List.setIfInBounds_toArray, List.set_cons_zero, List.set_cons_succ]
      refine wpAnyH_ready (rs := [6]) (by kernel_rfl) (by simp) (AllReadyH.cons rfl (fun K hK => ?_) AllReadyH.nil)
      go_simp
      refine (ofR_S nn _ n0 n1).mono ?_
      rintro e wf ⟨by2, dz, rfl, hb1, az, fz⟩
      have hbx := hb1
      replace Kx_0 := cell_later hbx Kx_0
      replace Kx_1 := cell_later hbx Kx_1
      replace Kx := hide ((unhide Kx).later hbx)
      replace Y2 := hide ((unhide Y2).later hbx)
      replace HT := hide ((unhide HT).later hbx)
      replace Ax := hide ((unhide Ax).later hbx)
      replace BW := hide (below_on (unhide BW) hbx)
      refine hK.out _ _ ⟨Kx_0, Kx_1⟩ (fun hHeld2 => ?_)
      clear hK K hb1 hbx hHeld
      have hHeld := hHeld2
      clear hHeld2
      simp only [Act.put, List.setIfInBounds_toArray, List.set_cons_zero, List.set_cons_succ]
      have ez := fz.same (unhide FX)
      rw [ez] at az
      have AZ := hide az
      clear az fz ez dz
      refine wpAnyH_ready (rs := [7]) (by kernel_rfl) (by simp) (AllReadyH.cons rfl (fun K hK => ?_) AllReadyH.nil)
      go_simp
      refine (sameB bx by2 dx _ (unhide Ax).sl (unhide AZ).sl (by omega)).mono ?_
      rintro e wg ⟨rfl, hb1⟩
      have hbx := hb1
      replace Kx_0 := cell_later hbx Kx_0
      replace Kx_1 := cell_later hbx Kx_1
      replace Kx := hide ((unhide Kx).later hbx)
      replace Y2 := hide ((unhide Y2).later hbx)
      replace HT := hide ((unhide HT).later hbx)
      replace Ax := hide ((unhide Ax).later hbx)
      replace AZ := hide ((unhide AZ).later hbx)
      replace BW := hide (below_on (unhide BW) hbx)
      refine hK.out _ _ ⟨Kx_0, Kx_1⟩ (fun hHeld2 => ?_)
      clear hK K hb1 hbx hHeld
      have hHeld := hHeld2
      clear hHeld2
      simp only [Act.put, List.setIfInBounds_toArray, List.set_cons_zero, List.set_cons_succ]
      refine wpAnyH_take (i := 8) (v := .bool false) rfl (by kernel_rfl) (by kernel_rfl) (by kernel_rfl) (fun _ _ _ h => h) (Or.inl ⟨by rfl, by intro w hSw; (try dsimp only at hSw); go_simp⟩) hHeld ?_
      simp only [List.getElem_toArray, List.getElem_cons_zero, List.getElem_cons_succ, Act.put, List.setIfInBounds_toArray, List.set_cons_zero, List.set_cons_succ]
      refine wpAnyH_take (i := 9) (v := .bool false) rfl (by kernel_rfl) (by kernel_rfl) (by kernel_rfl) (fun _ _ _ h => h) (Or.inl ⟨by rfl, by intro w hSw; (try dsimp only at hSw); go_simp⟩) hHeld ?_
      simp only [List.getElem_toArray, List.getElem_cons_zero, List.getElem_cons_succ, Act.put, List.setIfInBounds_toArray, List.set_cons_zero, List.set_cons_succ]
      refine wpAnyH_done (by kernel_rfl) ?_ _
      clear hHeld
      clear Kx_0 Kx_1 AZ CG
      have Kx_0 := (unhide Kx).c0
      have Kx_1 := (unhide Kx).c1
      go_wp2_with fail
      refine (intR_I bx dx _ (unhide Ax) LX).mono ?_
      rintro e w20 ⟨rfl, hb⟩
      clear Kx_0 Kx_1
      replace Kx := hide ((unhide Kx).later hb)
      replace Y2 := hide ((unhide Y2).later hb)
      replace HT := hide ((unhide HT).later hb)
      replace Ax := hide ((unhide Ax).later hb)
      replace BW := hide (below_on (unhide BW) hb)
      clear hb
      have IO := nb_int (unhide FX)
      generalize intOk dx.g dx.xs = io at *
      generalize intV dx.g dx.xs = iv at *
      have IOH := hide IO
      clear IO FX LX
      clear Kx Ax
      go_upto_region 24 with fail
      have FB2 : Hid (Below w20.heap.size w20 w20) := hide (Below.refl _ _)
      go_cut [208] (fun v wx => v = .bool false ∧ Hid (Below w20.heap.size w20 wx))
      case first => as_aux_lemma =>
        have IO := unhide IOH
        clear IOH
        by_cases q1 : -4611686018427387904 ≤ nn
        · by_cases q2 : nn ≤ 4611686018427387904
          · have r1 : decide (-4611686018427387904 ≤ nn) = true := decide_eq_true q1
            have r2 : decide (nn ≤ 4611686018427387904) = true := decide_eq_true q2
            rw [r1, r2] at IO
            obtain ⟨e1, e2⟩ := IO
            have e1' : io = true := e1
            subst e1'
            obtain rfl := e2 rfl
            have r3 : (iv != iv) = false := by simp
            clear e1 e2
            go_wp2_with fail
            go_meet
            exact ⟨rfl, FB2⟩
          · have r1 : decide (-4611686018427387904 ≤ nn) = true := decide_eq_true q1
            have r2 : decide (nn ≤ 4611686018427387904) = false := decide_eq_false q2
            rw [r1, r2] at IO
            have e1' : io = false := IO.1
            subst e1'
            clear IO
            go_wp2_with fail
            go_meet
            exact ⟨rfl, FB2⟩
        · have r1 : decide (-4611686018427387904 ≤ nn) = false := decide_eq_false q1
          rw [r1, Bool.false_and] at IO
          have e1' : io = false := IO.1
          subst e1'
          clear IO
          go_wp2_with fail
          go_meet
          exact ⟨rfl, FB2⟩
      case rest => as_aux_lemma =>
        obtain ⟨rfl, hcut⟩ := hcut
        obtain ⟨w21, hwc⟩ : ∃ x, x = wc := ⟨_, rfl⟩
        subst hwc
        have hb := unhide hcut
        clear hcut FB2
        replace Y2 := hide ((unhide Y2).later hb)
        replace HT := hide ((unhide HT).later hb)
        replace BW := hide (below_on (unhide BW) hb)
        clear hb
        clear IOH
        go_wp2_with fail
        refine (drawBT a' m c' _ (unhide Y2)).mono ?_
        rintro e w22 ⟨bi, di, rfl, ai, oi, li, hb⟩
        replace Y2 := hide ((unhide Y2).later hb)
        replace HT := hide ((unhide HT).later hb)
        replace BW := hide (below_on (unhide BW) hb)
        clear hb
        have Ai := hide (ai)
        clear ai oi
        have al : Below w22.heap.size w22 (w22.alloc (.cells #[.bool bi.g, .slice bi.a bi.n bi.c] 25)) := (Below.refl _ _).alloc (Nat.le_refl _) _
        replace Y2 := hide ((unhide Y2).later al)
        replace HT := hide ((unhide HT).later al)
        replace Ai := hide ((unhide Ai).later al)
        replace BW := hide (below_on (unhide BW) al)
        clear al
        have Ki : Hid (BxN (w22.alloc (.cells #[.bool bi.g, .slice bi.a bi.n bi.c] 25)) w22.heap.size bi) := hide BxN.new
        have Ki_0 := (unhide Ki).c0
        have Ki_1 := (unhide Ki).c1
        go_wp2_with fail
        refine (btR_I bi di _ (unhide Ai) (unhide HT)).mono ?_
        rintro e w23 ⟨rfl, hb⟩
        clear Ki_0 Ki_1
        replace Ki := hide ((unhide Ki).later hb)
        replace Y2 := hide ((unhide Y2).later hb)
        replace HT := hide ((unhide HT).later hb)
        replace Ai := hide ((unhide Ai).later hb)
        replace BW := hide (below_on (unhide BW) hb)
        clear hb
        have Ki_0 := (unhide Ki).c0
        have Ki_1 := (unhide Ki).c1
        go_wp2_with fail
        refine (btR_S bi di _ (unhide Ai)).mono ?_
        rintro e w24 ⟨rfl, hb⟩
        clear Ki_0 Ki_1
        replace Ki := hide ((unhide Ki).later hb)
        replace Y2 := hide ((unhide Y2).later hb)
        replace HT := hide ((unhide HT).later hb)
        replace Ai := hide ((unhide Ai).later hb)
        replace BW := hide (below_on (unhide BW) hb)
        clear hb
        have SZ : Hid ((btV di.g di.xs).size ≤ 2000) := hide (btV_size di)
        have RT : Hid (goodB di.g di.xs = true → rbB (btV di.g di.xs).data.toList = true ∧ rbV (btV di.g di.xs).data.toList = sv di.g di.xs) := hide (fun k => rb_text k)
        have FD : Hid (goodB di.g di.xs = true → Fm di (sv di.g di.xs)) := hide (fun k => Fm.of k)
        generalize btV di.g di.xs = tt at *
        generalize goodB di.g di.xs = gg at *
        have y1 : (tt != tt) = false := st_ne tt
        have y2 : (gg != gg) = false := by simp
        have y3 : (tt.toList == tt.toList) = true := by simp
        go_upto_if 229 with fail
        have FB3 : Hid (Below w24.heap.size w24 w24) := hide (Below.refl _ _)
        go_cut [] (fun wx => Hid (Below w24.heap.size w24 wx))
        case first => as_aux_lemma =>
          cases gg
          · skip
            go_wp2_with fail
            go_meet
            exact FB3
          · skip
            obtain ⟨r1, r2⟩ := unhide RT rfl
            have r1h := hide r1
            go_wp2_with fail
            refine (rbR_I tt _ (by have := unhide SZ; omega)).mono ?_
            rintro e w25 ⟨bq, dq, rfl, hb, aq, fq⟩
            replace Ki := hide ((unhide Ki).later hb)
            replace Y2 := hide ((unhide Y2).later hb)
            replace HT := hide ((unhide HT).later hb)
            replace Ai := hide ((unhide Ai).later hb)
            replace BW := hide (below_on (unhide BW) hb)
            replace FB3 := hide (below_on (unhide FB3) hb)
            clear hb
            rw [r2] at fq
            have eq := fq.same (unhide FD (by simp))
            rw [eq] at aq
            clear fq eq dq
            have Aq := hide (aq)
            clear aq r2
            have al : Below w25.heap.size w25 (w25.alloc (.cells #[.bool bq.g, .slice bq.a bq.n bq.c] 25)) := (Below.refl _ _).alloc (Nat.le_refl _) _
            replace Ki := hide ((unhide Ki).later al)
            replace Y2 := hide ((unhide Y2).later al)
            replace HT := hide ((unhide HT).later al)
            replace Ai := hide ((unhide Ai).later al)
            replace Aq := hide ((unhide Aq).later al)
            replace BW := hide (below_on (unhide BW) al)
            replace FB3 := hide (below_on (unhide FB3) al)
            clear al
            have Kq : Hid (BxN (w25.alloc (.cells #[.bool bq.g, .slice bq.a bq.n bq.c] 25)) w25.heap.size bq) := hide BxN.new
            skip
            by_cases l2 : tt.size ≤ 200
            · have l2i : (tt.size : Int) ≤ 200 := by omega
              have l2d : decide ((tt.size : Int) ≤ 200) = true := decide_eq_true l2i
              have Kq_0 := (unhide Kq).c0
              have Kq_1 := (unhide Kq).c1
              have Ki_0 := (unhide Ki).c0
              have Ki_1 := (unhide Ki).c1
              go_wp2_with fail
              refine (sameB bq bi di _ ((unhide Aq).sl) ((unhide Ai).sl) (by have := li; omega)).mono ?_
              rintro e w26 ⟨rfl, hb⟩
              clear Kq_0 Kq_1 Ki_0 Ki_1
              replace Ki := hide ((unhide Ki).later hb)
              replace Kq := hide ((unhide Kq).later hb)
              replace Y2 := hide ((unhide Y2).later hb)
              replace HT := hide ((unhide HT).later hb)
              replace Ai := hide ((unhide Ai).later hb)
              replace Aq := hide ((unhide Aq).later hb)
              replace BW := hide (below_on (unhide BW) hb)
              replace FB3 := hide (below_on (unhide FB3) hb)
              clear hb
              go_wp2_with fail
              go_meet
              exact FB3
            · have l2i : ¬ (tt.size : Int) ≤ 200 := by omega
              have l2d : decide ((tt.size : Int) ≤ 200) = false := decide_eq_false l2i
              go_wp2_with fail
              go_meet
              exact FB3
        case rest => as_aux_lemma =>
          obtain hcut := hcut
          obtain ⟨w27, hwc⟩ : ∃ x, x = wc := ⟨_, rfl⟩
          subst hwc
          have hb := unhide hcut
          clear hcut FB3
          replace Ki := hide ((unhide Ki).later hb)
          replace Y2 := hide ((unhide Y2).later hb)
          replace HT := hide ((unhide HT).later hb)
          replace Ai := hide ((unhide Ai).later hb)
          replace BW := hide (below_on (unhide BW) hb)
          clear hb
          clear RT FD SZ
          clear Ki Ai
          go_wp2_with fail
          refine (drawRB a' m c' _ (unhide Y2)).mono ?_
          rintro e w28 ⟨u, rfl, su, hb⟩
          replace Y2 := hide ((unhide Y2).later hb)
          replace HT := hide ((unhide HT).later hb)
          replace BW := hide (below_on (unhide BW) hb)
          clear hb
          go_wp2_with fail
          refine (rbR_I u _ (by omega)).mono ?_
          rintro e w29 ⟨bv, dv, rfl, hb, av, fv⟩
          replace Y2 := hide ((unhide Y2).later hb)
          replace HT := hide ((unhide HT).later hb)
          replace BW := hide (below_on (unhide BW) hb)
          clear hb
          have Av := hide (av)
          have FV := hide fv
          clear av fv
          have al : Below w29.heap.size w29 (w29.alloc (.cells #[.bool bv.g, .slice bv.a bv.n bv.c] 25)) := (Below.refl _ _).alloc (Nat.le_refl _) _
          replace Y2 := hide ((unhide Y2).later al)
          replace HT := hide ((unhide HT).later al)
          replace Av := hide ((unhide Av).later al)
          replace BW := hide (below_on (unhide BW) al)
          clear al
          have Kv : Hid (BxN (w29.alloc (.cells #[.bool bv.g, .slice bv.a bv.n bv.c] 25)) w29.heap.size bv) := hide BxN.new
          go_wp2_with fail
          refine (rbR_S u _ (by omega)).mono ?_
          rintro e w30 ⟨bw, dw, rfl, hb, aw, fw⟩
          replace Kv := hide ((unhide Kv).later hb)
          replace Y2 := hide ((unhide Y2).later hb)
          replace HT := hide ((unhide HT).later hb)
          replace Av := hide ((unhide Av).later hb)
          replace BW := hide (below_on (unhide BW) hb)
          clear hb
          have ew := fw.same (unhide FV)
          rw [ew] at aw
          clear fw ew dw
          have Aw := hide (aw)
          clear aw
          have al : Below w30.heap.size w30 (w30.alloc (.cells #[.bool bw.g, .slice bw.a bw.n bw.c] 25)) := (Below.refl _ _).alloc (Nat.le_refl _) _
          replace Kv := hide ((unhide Kv).later al)
          replace Y2 := hide ((unhide Y2).later al)
          replace HT := hide ((unhide HT).later al)
          replace Av := hide ((unhide Av).later al)
          replace Aw := hide ((unhide Aw).later al)
          replace BW := hide (below_on (unhide BW) al)
          clear al
          have Kw : Hid (BxN (w30.alloc (.cells #[.bool bw.g, .slice bw.a bw.n bw.c] 25)) w30.heap.size bw) := hide BxN.new
          generalize rbB u.data.toList = ub at *
          have y4 : (ub == ub) = true := by simp
          have Kv_0 := (unhide Kv).c0
          have Kv_1 := (unhide Kv).c1
          have Kw_0 := (unhide Kw).c0
          have Kw_1 := (unhide Kw).c1
          go_wp2_with fail
          refine (sameB bv bw dv _ ((unhide Av).sl) ((unhide Aw).sl) (by have := (unhide FV).len; omega)).mono ?_
          rintro e w31 ⟨rfl, hb⟩
          clear Kv_0 Kv_1 Kw_0 Kw_1
          replace Kv := hide ((unhide Kv).later hb)
          replace Kw := hide ((unhide Kw).later hb)
          replace Y2 := hide ((unhide Y2).later hb)
          replace HT := hide ((unhide HT).later hb)
          replace Av := hide ((unhide Av).later hb)
          replace Aw := hide ((unhide Aw).later hb)
          replace BW := hide (below_on (unhide BW) hb)
          clear hb
          go_wp2_with fail
          go_ret
          exact ⟨rfl, unhide BW⟩
end Go.Proofs.YtdgonpbponnnaaaDoor
namespace Go.Proofs.YtdgonpbponnnaaaDoor
open Go.ChangeShapes Go.WideShapes Go.ChangeAt Go.RowKit Go.Joins
set_option linter.unusedVariables false
set_option maxRecDepth 100000
set_option linter.unusedSimpArgs false

theorem own : ownKnob Tryd.prog.godebug = none := by kernel_rfl
theorem laidOut : laidOutB Tryd.prog = true := by kernel_rfl
theorem Tryd.cells3 : Tryd.prog.cellsOf 3 = 1 := by kernel_rfl

end Go.Proofs.YtdgonpbponnnaaaDoor
namespace Go.Proofs.YtdgonpbponnnaaaDoor
open Go.ChangeShapes Go.WideShapes Go.ChangeAt Go.RowKit Go.Joins
set_option linter.unusedVariables false
set_option maxRecDepth 100000
set_option linter.unusedSimpArgs false

theorem byte_wf {n : Int} (h : (Lit.int .u8 n).wf = true) : 0 ≤ n ∧ n ≤ 255 := by
  simp [Lit.wf, IntKind.min, IntKind.max, IntKind.signed, IntKind.bits] at h
  omega
theorem open_Y {H : Type} {enc : TypeId × Value → H} {W : World} {r : Reach} {b0 : Nat} {v : Value} {d : DataW H} {p : List MemPlace}
    (hv : Value.okWide Tryd.prog W r b0 22 v) (h : DataW.Trod enc Tryd.prog W 0 (fun _ => true) true 22 v d p) :
    ∃ (a : Option Addr) (n c : Nat), v = .slice a n c ∧ ArY W a n := by
  obtain ⟨a, n, c, rfl⟩ := okWide_slice Tryd.underlying22 hv
  obtain ⟨fuel, hf⟩ := h
  rcases open_ints Tryd.underlying22 Tryd.underlying5 (by kernel_rfl) hf with ⟨hcs, _⟩ | ⟨x, l, c', zs, hcs, _, hl, hm, hz, _, hcell, hwz⟩
  · simp only [Value.cells, List.cons.injEq, Value.slice.injEq, and_true] at hcs
    obtain ⟨rfl, rfl, rfl⟩ := hcs
    exact ⟨none, 0, 0, rfl, .inl rfl, Nat.zero_le _⟩
  · simp only [Value.cells, List.cons.injEq, Value.slice.injEq, and_true] at hcs
    obtain ⟨rfl, rfl, rfl⟩ := hcs
    simp only [if_true] at hz
    refine ⟨some x, n, c, rfl, ?_, ?_⟩
    · by_cases h0 : n = 0
      · exact .inl h0
      · obtain ⟨b, off, spot⟩ := x
        have hc := hcell 0 (by omega)
        have hspot : spot = none := by simpa [Addr.add] using World.cell?_spot hc
        subst hspot
        refine .inr ⟨b, off, rfl, ?_, fun i hi => ?_⟩
        · exact World.block_lt_of_cell? _ _ hc
        · have h1 := hcell i (by omega)
          have hi2 : i < zs.length := by omega
          have hw := byte_wf (hwz (zs.getD i 0) (by rw [List.getD_eq_getElem?_getD, List.getElem?_eq_getElem hi2]; exact List.getElem_mem _))
          refine ⟨zs.getD i 0, hw.1, hw.2, ?_⟩
          by_cases hi0 : i = 0
          · subst hi0; simpa [Addr.add] using h1
          · simpa [Addr.add, hi0] using h1
    · have := Nat.le_trans hl hm
      unfold maxLen at this
      omega
end Go.Proofs.YtdgonpbponnnaaaDoor
