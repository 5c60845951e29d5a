/- The law FnFiles returns true for every argument and leaves it as it was, where the listed variables hold what the program's text lays; and the card that ties them to it. Conditions: the row's own. -/
import Derived.Test.YtcgbpcipdanfhaaDoorPkF160
import Derived.Deep.Cut
import Derived.Test.YtcgbpcipdanfhaaDoorCards
import Derived.Test.YtcgbpcipdanfhaaDoorTie
import Derived.WalkKit
import Derived.ProofKit
import Derived.OpenShut
import Derived.Deep.DeepHandedRow
import Derived.Lib.LaidTab
import Derived.LaidMore
import Derived.Stop.LaidErr
import Derived.ChangeMaps5
namespace Go.Proofs.YtcgbpcipdanfhaaDoor
open Go.RowKit
set_option linter.unusedVariables false
set_option maxRecDepth 100000
set_option linter.unusedSimpArgs false

set_option maxHeartbeats 16000000 in
theorem lawFiles_walk (a : Option Addr) (n c : Nat) (b : Option Addr) (m d : Nat) (mx : Int) (w : World) (h : ArY w a n) (h' : ArY w b m) (hm : MaxL mx w) :
    Calls Tryd.prog 4 #[.slice a n c, .slice b m d] w fun e w' => e = .returned (.bool true) ∧ Below w.heap.size w w' := by
  by_cases big : 1048576 < wrap64 ((n : Int) + (m : Int))
  · have d1 : decide (1048576 < wrap64 ((n : Int) + (m : Int))) = true := decide_eq_true big
    go_enter Tryd.func4, Tryd.ntmps4
    go_wp2_with fail
    go_ret
    exact ⟨rfl, Below.refl _ _⟩
  have d1 : decide (1048576 < wrap64 ((n : Int) + (m : Int))) = false := decide_eq_false big
  have Y1 := hide h
  have Y2 := hide h'
  have HM := hide hm
  have BW : Hid (Below w.heap.size w w) := hide (Below.refl _ _)
  clear h h' hm
  go_enter Tryd.func4, Tryd.ntmps4
  go_wp2_with fail
  refine (drawPb a n c _ (unhide Y1)).mono ?_
  rintro e w1 ⟨x, y, a0, c0, l, rfl, ar, hl, hx, hy, hb⟩
  replace Y2 := hide ((unhide Y2).later hb)
  replace HM := hide ((unhide HM).later hb)
  replace BW := hide (below_on (unhide BW) hb)
  clear hb
  clear Y1 d1 big
  have AR := hide (ar)
  clear ar
  have C1 := hide (fun w (k : Arg w a0 l.length c0 l) => PictureBytesI a0 l.length c0 l x y w k (by omega) (by omega) (by omega))
  have C2 := hide (fun w (k : Arg w a0 l.length c0 l) => PictureBytesS a0 l.length c0 l x y w k (by omega) (by omega) (by omega))
  have PB := hide (@pb_back x y l)
  have HS := hide (pbV_size (x := x) (y := y) hl)
  have HL : Hid (l.length ≤ 1048576) := hide (by omega)
  clear hl hx hy
  generalize pbV x y l = s at *
  generalize pbB x y l = ok at *
  have x1 : (ok != ok) = false := by simp
  have x2 : (s != s) = false := st_ne s
  go_wp2_with fail
  refine (unhide C1 _ (unhide AR)).mono ?_
  rintro e w2 ⟨rfl, hb⟩
  replace Y2 := hide ((unhide Y2).later hb)
  replace HM := hide ((unhide HM).later hb)
  replace AR := hide ((unhide AR).later hb)
  replace BW := hide (below_on (unhide BW) hb)
  clear hb
  go_wp2_with fail
  refine (unhide C2 _ (unhide AR)).mono ?_
  rintro e w3 ⟨rfl, hb⟩
  replace Y2 := hide ((unhide Y2).later hb)
  replace HM := hide ((unhide HM).later hb)
  replace AR := hide ((unhide AR).later hb)
  replace BW := hide (below_on (unhide BW) hb)
  clear hb
  clear C1 C2
  go_upto_if 61 with fail
  have FB0 : Hid (Below w3.heap.size w3 w3) := hide (Below.refl _ _)
  go_cut [] (fun wx => Hid (Below w3.heap.size w3 wx))
  case first => as_aux_lemma =>
    cases ok
    · clear PB HS HL
      go_wp2_with fail
      go_meet
      exact FB0
    · obtain ⟨E1, E2, E3, E4⟩ := unhide PB rfl
      have CR := hide (fun w (k : MaxL mx w) => ReadPictureI2 s mx w (by have := unhide HS; omega) k)
      rw [E1, E2, E3, E4] at CR
      have x3 : (x != x) = false := by simp
      have x4 : (y != y) = false := by simp
      clear PB HS E1 E2 E3 E4
      go_wp2_with fail
      refine (unhide CR _ (unhide HM)).mono ?_
      rintro e w4 ⟨v, rfl, hb, rr, _⟩
      replace Y2 := hide ((unhide Y2).later hb)
      replace HM := hide ((unhide HM).later hb)
      replace AR := hide ((unhide AR).later hb)
      replace BW := hide (below_on (unhide BW) hb)
      replace FB0 := hide (below_on (unhide FB0) hb)
      clear hb
      obtain ⟨a1, c1, rfl, sl1⟩ := rr.sl
      have S1 := hide sl1
      clear rr sl1 CR
      go_wp2_with fail
      refine (sameI15 a1 a0 l.length c1 c0 l _ (unhide S1) (unhide AR).sl rfl (unhide HL)).mono ?_
      rintro e w5 ⟨rfl, hb⟩
      replace Y2 := hide ((unhide Y2).later hb)
      replace HM := hide ((unhide HM).later hb)
      replace AR := hide ((unhide AR).later hb)
      replace BW := hide (below_on (unhide BW) hb)
      replace FB0 := hide (below_on (unhide FB0) hb)
      clear hb
      clear S1
      go_wp2_with fail
      go_meet
      exact FB0
  case rest => as_aux_lemma =>
    obtain hcut := hcut
    obtain ⟨w6, hwc⟩ : ∃ x, x = wc := ⟨_, rfl⟩
    subst hwc
    have hb := unhide hcut
    clear hcut FB0
    replace Y2 := hide ((unhide Y2).later hb)
    replace HM := hide ((unhide HM).later hb)
    replace AR := hide ((unhide AR).later hb)
    replace BW := hide (below_on (unhide BW) hb)
    clear hb
    clear AR
    clear PB HS HL x1 x2
    go_wp2_with fail
    refine (drawRp b m d _ (unhide Y2)).mono ?_
    rintro e w7 ⟨t, rfl, ht, hb⟩
    replace Y2 := hide ((unhide Y2).later hb)
    replace HM := hide ((unhide HM).later hb)
    replace BW := hide (below_on (unhide BW) hb)
    clear hb
    clear Y2
    have C1 := hide (fun w (k : MaxL mx w) => ReadPictureI2 t mx w (by omega) k)
    have C2 := hide (fun w => ReadPictureS t w (by omega))
    have BP := hide (@back_pb t)
    clear ht
    generalize rpW t.data.toList = x3 at *
    generalize rpH t.data.toList = y3 at *
    generalize rpL t.data.toList = l3 at *
    generalize rpB t.data.toList = ok3 at *
    have e1 : (ok3 != ok3) = false := by simp
    have e2 : (x3 != x3) = false := by simp
    have e3 : (y3 != y3) = false := by simp
    go_wp2_with fail
    refine (unhide C1 _ (unhide HM)).mono ?_
    rintro e w8 ⟨v3, rfl, hb, rr, lr⟩
    replace HM := hide ((unhide HM).later hb)
    replace BW := hide (below_on (unhide BW) hb)
    clear hb
    have LR := hide lr
    clear lr
    have R3 := hide (rr)
    obtain ⟨a3, c3, rfl, _⟩ := rr.sl
    clear rr C1
    clear HM
    go_wp2_with fail
    refine (unhide C2 _).mono ?_
    rintro e w9 ⟨a4, n4, c4, rfl, hb, rt, _⟩
    replace R3 := hide ((unhide R3).later hb)
    replace BW := hide (below_on (unhide BW) hb)
    clear hb
    obtain rfl := rt.len
    have R4 := hide (rt)
    clear rt C2
    go_wp2_with fail
    refine (sameI15 a3 a4 l3.length c3 c4 l3 _ (unhide R3).sl15 (unhide R4).sl rfl (unhide LR)).mono ?_
    rintro e w10 ⟨rfl, hb⟩
    replace R3 := hide ((unhide R3).later hb)
    replace R4 := hide ((unhide R4).later hb)
    replace BW := hide (below_on (unhide BW) hb)
    clear hb
    clear R4
    clear e1 e2 e3
    cases ok3
    · clear BP LR
      go_wp2_with fail
      go_ret
      exact ⟨rfl, unhide BW⟩
    · obtain ⟨⟨E1, E2⟩, E3, E4⟩ := unhide BP rfl
      have CP := hide (fun w (k : Arg w a3 l3.length c3 l3) => PictureBytesI a3 l3.length c3 l3 x3 y3 w k (unhide LR) (by omega) (by omega))
      rw [E1, E2] at CP
      have tt : (t == t) = true := st_beq t
      clear BP E1 E2 E3 E4
      go_wp2_with fail
      refine (unhide CP _ (unhide R3).argc15).mono ?_
      rintro e w11 ⟨rfl, hb⟩
      replace R3 := hide ((unhide R3).later hb)
      replace BW := hide (below_on (unhide BW) hb)
      clear hb
      go_wp2_with fail
      go_ret
      exact ⟨rfl, unhide BW⟩
end Go.Proofs.YtcgbpcipdanfhaaDoor
namespace Go.Proofs.YtcgbpcipdanfhaaDoor
open Go.ChangeShapes Go.WideShapes Go.ChangeAt Go.RowKit
set_option linter.unusedVariables false
set_option linter.unusedSimpArgs false
set_option maxRecDepth 100000

theorem files_holds_own : ownKnob Tryd.prog.godebug = none := by kernel_rfl
noncomputable def files_holds_world (os : Os) : World := World.doorLaid Tryd.prog 2000 os
theorem files_holds_met (os : Os) : laidMet Tryd.prog Rows.fnFilesRow.laid ((files_holds_world os).forCall (fun _ _ => 0) ⟨#[], #[.slice none 0 0, .slice none 0 0], []⟩).memory :=
  laidMet_of_run' 8 (by kernel_rfl) (by kernel_rfl)
theorem files_holds_reads (os : Os) {H : Type} (enc : TypeId × Value → H) : ∃ places, DataW.whole enc Tryd.prog ((files_holds_world os).forCall (fun _ _ => 0) ⟨#[], #[.slice none 0 0, .slice none 0 0], []⟩).memory Tryd.f4.params.toList Rows.fnFilesSpec.vars false (#[.slice none 0 0, .slice none 0 0] : Array Value).toList 8 = some ([.nil, .nil], [], places) :=
  ⟨[], by kernel_rfl⟩
theorem files_holds_lifted (os : Os) (started : os.Started) (H : Type) (enc : TypeId × Value → H) (F : Stop.Interp) :
    ReturnsInHanded {} Tryd.checked os 4 .any ((OpenSpec.ofChange Rows.fnFilesSpec).preRow enc Tryd.prog Tryd.f4 Rows.fnFilesRow.domain false Rows.fnFilesRow.laid) (((OpenSpec.ofChange Rows.fnFilesSpec).at F).post enc Tryd.prog Tryd.f4 false true false false) := by
  obtain ⟨places, hx⟩ := files_holds_reads os enc
  refine returnsInHanded_of_row (C := Tryd.checked) (s := OpenSpec.ofChange Rows.fnFilesSpec) files_holds_own started (by kernel_rfl) Tryd.func4
    (witness_row_at (enc := enc) (C := Tryd.checked) false (files_holds_world os) #[.slice none 0 0, .slice none 0 0] rfl (by kernel_rfl) (by kernel_rfl) (by kernel_rfl)
      (OpenSpec.preRow_of_cond 8 hx (by kernel_rfl) (fun k hk => by cases hk) (by kernel_rfl) (files_holds_met os))) ?_
  intro W base args ds gs before hval0 hW _ _ hsz hL hSh _
  have hval : ∀ (j : Nat) t v, Tryd.f4.params[j]? = some t → args[j]? = some v → Value.okWide Tryd.prog W .any base t v := hval0
  have hW' := hW
  obtain ⟨p, q, hA0, hV, rfl, hfz, hnd⟩ := hW
  have hA : DataW.TrodAll enc Tryd.prog W 0 (fun _ => true) true Tryd.f4.params.toList args.toList ds p := hA0
  rw [Tryd.params4] at hA hval
  obtain ⟨v0, vs0, d0, ds0, p0, q0, hargs, rfl, rfl, h0, r0⟩ := trodAll_cons hA
  obtain ⟨v1, vs1, d1, ds1, p1, q1, rfl, rfl, rfl, h1, r1⟩ := trodAll_cons r0
  obtain ⟨rfl, rfl, rfl⟩ := trodAll_nil r1
  obtain rfl : args = #[v0, v1] := by cases args; simp_all
  obtain ⟨rfl, rfl⟩ := trodVars_none hV
  have lt0 : ∀ x ∈ p0, x.block < W.heap.size := by obtain ⟨m, hm⟩ := h0; exact DataW.trod_lt m _ _ _ hm
  obtain ⟨a0, n0, c0, rfl, y0⟩ := open_Y (hval 0 22 v0 rfl rfl) h0
  have lt1 : ∀ x ∈ p1, x.block < W.heap.size := by obtain ⟨m, hm⟩ := h1; exact DataW.trod_lt m _ _ _ hm
  obtain ⟨a1, n1, c1, rfl, y1⟩ := open_Y (hval 1 22 v1 rfl rfl) h1
  clear hA0 hval0
  obtain ⟨m0, hm0⟩ := Tryd.laysM145.s1_3 W hSh
  refine (lawFiles_walk a0 n0 c0 a1 n1 c1 m0 W y0 y1 hm0).mono fun e W' ⟨he, bel⟩ => ?_
  subst he
  exact ⟨_, rfl, _, _, _, [], _, [], hW', trodAll_mk1 (shut_bool Tryd.underlying4 _), (trodAll_cons_mk (Below.trod laidOut (by kernel_rfl) (of_decide_eq_true (by kernel_rfl)) h0 bel lt0) (trodAll_cons_mk (Below.trod laidOut (by kernel_rfl) (of_decide_eq_true (by kernel_rfl)) h1 bel lt1) trodAll_mk0)), rfl, bel.frame _, fun h => by cases h⟩
theorem files_holds_row : Rows.FnFilesSaid :=
  OpenClaim.holds_of_cond 4 Tryd.f4 rfl rfl rfl rfl rfl rfl rfl ⟨rfl, rfl, rfl, rfl, rfl⟩ rfl rfl rfl rfl rfl (by kernel_rfl) Tryd.func4 (by kernel_rfl)
    (of_decide_eq_true (by kernel_rfl)) (by unfold Func.isWrapper; first | (rw [if_pos (by decide +kernel)]; kernel_rfl) | (rw [if_neg (by decide +kernel)]; exact ⟨rfl, rfl⟩))
    (fun os started H enc _ F => by rw [OpenClaim.pre_eq_preRow]; exact files_holds_lifted os started H enc F)
/-- No parameter wants a stand-in; the program's own looks are off. -/
theorem files_holds_plain (f : FuncId) (fn : Func) (hf : Tryd.pinned.checked.prog.funcNamed Rows.fnFilesRow.func = some f) (hfn : Tryd.pinned.checked.prog.funcs[f]? = some fn) :
    false = Tryd.pinned.checked.prog.looks [] ∧ ∀ (j : Nat) t, fn.params[j]? = some t → Tryd.pinned.checked.prog.wantsStandIn t = false := by
  obtain rfl : f = 4 := Option.some.inj ((show Tryd.prog.funcNamed Rows.fnFilesRow.func = some 4 by kernel_rfl).symm.trans hf) |>.symm
  obtain rfl : fn = Tryd.f4 := (Option.some.inj (Tryd.func4.symm.trans hfn)).symm
  refine ⟨by kernel_rfl, fun j t ht => ?_⟩
  rw [Tryd.params4] at ht
  have hm : t ∈ [22, 22] := by simpa using Array.mem_of_getElem? ht
  have hall : ([22, 22].all fun u => !Tryd.prog.wantsStandIn u) = true := by kernel_rfl
  exact (show Tryd.prog.wantsStandIn t = false by simpa using List.all_eq_true.1 hall t hm)
theorem files_holds : Rows.FnFilesCardSaid :=
  Claim7.holds_tied_plain_at .later [] _ _ _ _ files_holds_row (fun _ h => by cases h) (by kernel_rfl) (fun _ h => by cases h) fnFiles_row_tie rfl ⟨rfl, rfl⟩ (by kernel_rfl) rfl files_holds_plain (by kernel_rfl)
#print axioms files_holds
end Go.Proofs.YtcgbpcipdanfhaaDoor
