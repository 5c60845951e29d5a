/- MixPt: the program's and the specification's, at every two points and fraction. No condition beyond those typed. Written by mkmp12.py. -/
import Derived.Test.YthmpikagenodjaaGreatPkC13
import Derived.Test.YthmpikagenodjaaGreatPkB13
namespace Go.Proofs.YthmpikagenodjaaGreat
open Go.RowKit
set_option linter.unusedVariables false
set_option maxRecDepth 100000
set_option linter.unusedSimpArgs false

theorem parS_two {w : World} {a b : SV} {da db : SD} (h : AllAr w [(a.lo.num, da.lo.num), (a.lo.den, da.lo.den), (a.hi.num, da.hi.num), (a.hi.den, da.hi.den)]) (k : AllAr w [(b.lo.num, db.lo.num), (b.lo.den, db.lo.den), (b.hi.num, db.hi.num), (b.hi.den, db.hi.den)]) : PArS (w.alloc (.cells #[.bool a.lo.num.g, .slice a.lo.num.a a.lo.num.n a.lo.num.c, .bool a.lo.den.g, .slice a.lo.den.a a.lo.den.n a.lo.den.c, .bool a.hi.num.g, .slice a.hi.num.a a.hi.num.n a.hi.num.c, .bool a.hi.den.g, .slice a.hi.den.a a.hi.den.n a.hi.den.c, .bool b.lo.num.g, .slice b.lo.num.a b.lo.num.n b.lo.num.c, .bool b.lo.den.g, .slice b.lo.den.a b.lo.den.n b.lo.den.c, .bool b.hi.num.g, .slice b.hi.num.a b.hi.num.n b.hi.num.c, .bool b.hi.den.g, .slice b.hi.den.a b.hi.den.n b.hi.den.c] 43)) (some ⟨w.heap.size, 0, none⟩) 2 2 [(a, da), (b, db)] := by
  have al : Below w.heap.size w (w.alloc (.cells #[.bool a.lo.num.g, .slice a.lo.num.a a.lo.num.n a.lo.num.c, .bool a.lo.den.g, .slice a.lo.den.a a.lo.den.n a.lo.den.c, .bool a.hi.num.g, .slice a.hi.num.a a.hi.num.n a.hi.num.c, .bool a.hi.den.g, .slice a.hi.den.a a.hi.den.n a.hi.den.c, .bool b.lo.num.g, .slice b.lo.num.a b.lo.num.n b.lo.num.c, .bool b.lo.den.g, .slice b.lo.den.a b.lo.den.n b.lo.den.c, .bool b.hi.num.g, .slice b.hi.num.a b.hi.num.n b.hi.num.c, .bool b.hi.den.g, .slice b.hi.den.a b.hi.den.n b.hi.den.c] 43)) := (Below.refl _ _).alloc (Nat.le_refl _) _
  refine ⟨.inr ⟨w.heap.size, 0, rfl, by simp, fun i hi => ?_⟩, fun p hp => ?_, rfl, Nat.le_refl _, by unfold maxLen; omega⟩
  · match i, hi with
    | 0, _ => refine ⟨?_, ?_, ?_, ?_, ?_, ?_, ?_, ?_⟩ <;> simp [go_sem]
    | 1, _ => refine ⟨?_, ?_, ?_, ?_, ?_, ?_, ?_, ?_⟩ <;> simp [go_sem]
  · rcases List.mem_cons.1 hp with rfl | hp
    · exact h.later al
    · obtain rfl := List.mem_singleton.1 hp
      exact k.later al
theorem goodTwo (a b : SV) (da db : SD) (w : World) (G : Nat) (hG : w.heap.size = G) (h : AllAr w [(a.lo.num, da.lo.num), (a.lo.den, da.lo.den), (a.hi.num, da.hi.num), (a.hi.den, da.hi.den)]) (k : AllAr w [(b.lo.num, db.lo.num), (b.lo.den, db.lo.den), (b.hi.num, db.hi.num), (b.hi.den, db.hi.den)]) :
    Calls Tryz.prog 52 #[.slice (some ⟨G, 0, none⟩) 2 2] (w.alloc (.cells #[.bool a.lo.num.g, .slice a.lo.num.a a.lo.num.n a.lo.num.c, .bool a.lo.den.g, .slice a.lo.den.a a.lo.den.n a.lo.den.c, .bool a.hi.num.g, .slice a.hi.num.a a.hi.num.n a.hi.num.c, .bool a.hi.den.g, .slice a.hi.den.a a.hi.den.n a.hi.den.c, .bool b.lo.num.g, .slice b.lo.num.a b.lo.num.n b.lo.num.c, .bool b.lo.den.g, .slice b.lo.den.a b.lo.den.n b.lo.den.c, .bool b.hi.num.g, .slice b.hi.num.a b.hi.num.n b.hi.num.c, .bool b.hi.den.g, .slice b.hi.den.a b.hi.den.n b.hi.den.c] 43)) fun e w' => e = .returned (.bool (gPt2 da && gPt2 db)) ∧ Below (w.alloc (.cells #[.bool a.lo.num.g, .slice a.lo.num.a a.lo.num.n a.lo.num.c, .bool a.lo.den.g, .slice a.lo.den.a a.lo.den.n a.lo.den.c, .bool a.hi.num.g, .slice a.hi.num.a a.hi.num.n a.hi.num.c, .bool a.hi.den.g, .slice a.hi.den.a a.hi.den.n a.hi.den.c, .bool b.lo.num.g, .slice b.lo.num.a b.lo.num.n b.lo.num.c, .bool b.lo.den.g, .slice b.lo.den.a b.lo.den.n b.lo.den.c, .bool b.hi.num.g, .slice b.hi.num.a b.hi.num.n b.hi.num.c, .bool b.hi.den.g, .slice b.hi.den.a b.hi.den.n b.hi.den.c] 43)).heap.size (w.alloc (.cells #[.bool a.lo.num.g, .slice a.lo.num.a a.lo.num.n a.lo.num.c, .bool a.lo.den.g, .slice a.lo.den.a a.lo.den.n a.lo.den.c, .bool a.hi.num.g, .slice a.hi.num.a a.hi.num.n a.hi.num.c, .bool a.hi.den.g, .slice a.hi.den.a a.hi.den.n a.hi.den.c, .bool b.lo.num.g, .slice b.lo.num.a b.lo.num.n b.lo.num.c, .bool b.lo.den.g, .slice b.lo.den.a b.lo.den.n b.lo.den.c, .bool b.hi.num.g, .slice b.hi.num.a b.hi.num.n b.hi.num.c, .bool b.hi.den.g, .slice b.hi.den.a b.hi.den.n b.hi.den.c] 43)) w' := by
  subst hG
  have h1 := GoodCI (some ⟨w.heap.size, 0, none⟩) 2 2 [(a, da), (b, db)] _ (parS_two h k)
  have e : gCv ([(a, da), (b, db)].map Prod.snd) = (gPt2 da && gPt2 db) := by unfold gCv many; simp
  rw [e] at h1
  exact h1
theorem bdR_good {w : World} {q : QV} {d : QD} (j : IsGood w q d) : BdR (vQ d) 40 := by
  have h := vQ_good j
  exact ⟨by rw [← h.1]; exact j.kn, by rw [← h.2]; exact j.kd⟩
theorem gF_good {w : World} {q : QV} {d : QD} (h : AllAr w [(q.num, d.num), (q.den, d.den)]) (hg : gF d = true) : IsGood w q d := isGood_of h (by unfold gF at hg; simp only [Bool.and_eq_true] at hg; exact hg.2)
/-- A point's values. -/
def vP (d : SD) : Rat × Rat := (vQ d.lo, vQ d.hi)
theorem isPt_good {w : World} {v : SV} {d : SD} (h : AllAr w [(v.lo.num, d.lo.num), (v.lo.den, d.lo.den), (v.hi.num, d.hi.num), (v.hi.den, d.hi.den)]) (hg : gPt2 d = true) : IsPt w v (vP d) ∧ BdP (vP d) 40 := by
  unfold gPt2 at hg
  simp only [Bool.and_eq_true] at hg
  have j1 := gF_good (AllAr.cons h.head (AllAr.cons h.tail.head (AllAr.nil _))) hg.1
  have j2 := gF_good (AllAr.cons h.tail.tail.head (AllAr.cons h.tail.tail.tail.head (AllAr.nil _))) hg.2
  exact ⟨⟨isR_good j1, isR_good j2⟩, ⟨bdR_good j1, bdR_good j2⟩⟩
/-- Two points mixed. -/
def mx (z x y : Rat) : Rat := (((1 : Int) : Rat) - z) * x + z * y
theorem mx_eq (z x y : Rat) : x + z * (y - x) = mx z x y := by
  unfold mx
  rw [show ((1 : Int) : Rat) = 1 from rfl]
  grind
theorem BdR.mx {z x y : Rat} {L K : Nat} (hz : BdR z 2000) (h : BdR x L) (k : BdR y L) : BdR (mx z x y) (2 * L + 4003 + 2 * 0) := by
  unfold Go.Proofs.YthmpikagenodjaaGreat.mx
  exact (((((bdR_int (n := 1) (by omega) (by omega)).sub hz).mul h).add (hz.mul k)).mono (by omega))

set_option maxHeartbeats 8000000 in
theorem MixPtI (a b : SV) (t : QV) (da db : SD) (dt : QD) (w : World) (h : AllAr w [(a.lo.num, da.lo.num), (a.lo.den, da.lo.den), (a.hi.num, da.hi.num), (a.hi.den, da.hi.den)]) (h' : AllAr w [(b.lo.num, db.lo.num), (b.lo.den, db.lo.den), (b.hi.num, db.hi.num), (b.hi.den, db.hi.den)]) (h'' : AllAr w [(t.num, dt.num), (t.den, dt.den)]) :
    Calls Tryz.prog 24 #[.agg #[.bool a.lo.num.g, .slice a.lo.num.a a.lo.num.n a.lo.num.c, .bool a.lo.den.g, .slice a.lo.den.a a.lo.den.n a.lo.den.c, .bool a.hi.num.g, .slice a.hi.num.a a.hi.num.n a.hi.num.c, .bool a.hi.den.g, .slice a.hi.den.a a.hi.den.n a.hi.den.c], .agg #[.bool b.lo.num.g, .slice b.lo.num.a b.lo.num.n b.lo.num.c, .bool b.lo.den.g, .slice b.lo.den.a b.lo.den.n b.lo.den.c, .bool b.hi.num.g, .slice b.hi.num.a b.hi.num.n b.hi.num.c, .bool b.hi.den.g, .slice b.hi.den.a b.hi.den.n b.hi.den.c], .agg #[.bool t.num.g, .slice t.num.a t.num.n t.num.c, .bool t.den.g, .slice t.den.a t.den.n t.den.c]] w (RetS w (AnsS (gPt2 da && gPt2 db && gF dt) (nR (mx (vQ dt) (vP da).1 (vP db).1)) (dR (mx (vQ dt) (vP da).1 (vP db).1)) (nR (mx (vQ dt) (vP da).2 (vP db).2)) (dR (mx (vQ dt) (vP da).2 (vP db).2)))) := by
  have HA := hide h
  have HC := hide h'
  have HT := hide h''
  clear h h' h''
  have CG := hide (fun w1 G (hG : w1.heap.size = G) (k : AllAr w1 [(a.lo.num, da.lo.num), (a.lo.den, da.lo.den), (a.hi.num, da.hi.num), (a.hi.den, da.hi.den)]) (k' : AllAr w1 [(b.lo.num, db.lo.num), (b.lo.den, db.lo.den), (b.hi.num, db.hi.num), (b.hi.den, db.hi.den)]) => goodTwo a b da db w1 G hG k k')
  have CT := hide (fun w1 (k : AllAr w1 [(t.num, dt.num), (t.den, dt.den)]) => goodDI t dt w1 k)
  cases hp : (gPt2 da && gPt2 db)
  · rw [hp] at CG
    rw [Bool.false_and]
    clear CT
    have B0 := hide (show Below w.heap.size w (((((w.alloc (.cells #[.bool a.lo.num.g, .slice a.lo.num.a a.lo.num.n a.lo.num.c, .bool a.lo.den.g, .slice a.lo.den.a a.lo.den.n a.lo.den.c, .bool a.hi.num.g, .slice a.hi.num.a a.hi.num.n a.hi.num.c, .bool a.hi.den.g, .slice a.hi.den.a a.hi.den.n a.hi.den.c] 43)).alloc (.cells #[.bool b.lo.num.g, .slice b.lo.num.a b.lo.num.n b.lo.num.c, .bool b.lo.den.g, .slice b.lo.den.a b.lo.den.n b.lo.den.c, .bool b.hi.num.g, .slice b.hi.num.a b.hi.num.n b.hi.num.c, .bool b.hi.den.g, .slice b.hi.den.a b.hi.den.n b.hi.den.c] 43)).alloc (.cells #[.bool t.num.g, .slice t.num.a t.num.n t.num.c, .bool t.den.g, .slice t.den.a t.den.n t.den.c] 29)).alloc (.cells #[.bool false, .slice none 0 0, .bool false, .slice none 0 0, .bool false, .slice none 0 0, .bool false, .slice none 0 0] 43)).alloc (.cells #[.bool a.lo.num.g, .slice a.lo.num.a a.lo.num.n a.lo.num.c, .bool a.lo.den.g, .slice a.lo.den.a a.lo.den.n a.lo.den.c, .bool a.hi.num.g, .slice a.hi.num.a a.hi.num.n a.hi.num.c, .bool a.hi.den.g, .slice a.hi.den.a a.hi.den.n a.hi.den.c, .bool b.lo.num.g, .slice b.lo.num.a b.lo.num.n b.lo.num.c, .bool b.lo.den.g, .slice b.lo.den.a b.lo.den.n b.lo.den.c, .bool b.hi.num.g, .slice b.hi.num.a b.hi.num.n b.hi.num.c, .bool b.hi.den.g, .slice b.hi.den.a b.hi.den.n b.hi.den.c] 43)) from ((((((Below.refl _ _).alloc (by simp) _).alloc (by simp) _).alloc (by simp <;> omega) _).alloc (by simp <;> omega) _).alloc (by simp <;> omega) _))
    go_enter Tryz.func24, Tryz.ntmps24
    go_wp2_with fail
    refine (unhide CG _ (w.heap.size + 1 + 1 + 1 + 1) (by simp) ((unhide HA).later (((((Below.refl _ _).alloc (by simp) _).alloc (by simp) _).alloc (by simp <;> omega) _).alloc (by simp <;> omega) _)) ((unhide HC).later (((((Below.refl _ _).alloc (by simp) _).alloc (by simp) _).alloc (by simp <;> omega) _).alloc (by simp <;> omega) _))).mono ?_
    rintro e w1 ⟨rfl, hb⟩
    have s1 := hb.size
    simp at s1
    have k3_0 : w1.cell? ⟨w.heap.size + 1 + 1 + 1, 0, none⟩ = some (.bool false) := cell_later hb (by simp [go_sem])
    have k3_1 : w1.cell? ⟨w.heap.size + 1 + 1 + 1, 1, none⟩ = some (.slice none 0 0) := cell_later hb (by simp [go_sem])
    have k3_2 : w1.cell? ⟨w.heap.size + 1 + 1 + 1, 2, none⟩ = some (.bool false) := cell_later hb (by simp [go_sem])
    have k3_3 : w1.cell? ⟨w.heap.size + 1 + 1 + 1, 3, none⟩ = some (.slice none 0 0) := cell_later hb (by simp [go_sem])
    have k3_4 : w1.cell? ⟨w.heap.size + 1 + 1 + 1, 4, none⟩ = some (.bool false) := cell_later hb (by simp [go_sem])
    have k3_5 : w1.cell? ⟨w.heap.size + 1 + 1 + 1, 5, none⟩ = some (.slice none 0 0) := cell_later hb (by simp [go_sem])
    have k3_6 : w1.cell? ⟨w.heap.size + 1 + 1 + 1, 6, none⟩ = some (.bool false) := cell_later hb (by simp [go_sem])
    have k3_7 : w1.cell? ⟨w.heap.size + 1 + 1 + 1, 7, none⟩ = some (.slice none 0 0) := cell_later hb (by simp [go_sem])
    have z3 : ∀ o, w1.frozen? ⟨w.heap.size + 1 + 1 + 1, o, none⟩ = false := fun o => frozen_later hb (by simp) (by simp [go_sem])
    have HB := hide (below_on (unhide B0) hb)
    clear hb
    go_wp2
    refine bodyPost_ret (v := .tuple #[.agg #[.bool false, .slice none 0 0, .bool false, .slice none 0 0, .bool false, .slice none 0 0, .bool false, .slice none 0 0], .bool false]) (by simp [results, Tryz.results24, go_sem, k3_0, k3_1, k3_2, k3_3, k3_4, k3_5, k3_6, k3_7]) rfl ?_
    exact retS_fin (v := (⟨⟨⟨false, none, 0, 0⟩, ⟨false, none, 0, 0⟩⟩, ⟨⟨false, none, 0, 0⟩, ⟨false, none, 0, 0⟩⟩⟩ : SV)) (d := (⟨⟨⟨false, []⟩, ⟨false, []⟩⟩, ⟨⟨false, []⟩, ⟨false, []⟩⟩⟩ : SD)) (R := w.heap.size + 1 + 1 + 1) (by omega) (unhide HB) (metS_but (w5 := w1) (v := (⟨⟨⟨false, none, 0, 0⟩, ⟨false, none, 0, 0⟩⟩, ⟨⟨false, none, 0, 0⟩, ⟨false, none, 0, 0⟩⟩⟩ : SV)) (G := w.heap.size + 1 + 1 + 1)) (zeroS _ _ _) (ansS_none _ _ _ _)
  · cases hq : gF dt
    · rw [hp] at CG
      rw [hq] at CT
      have B0 := hide (show Below w.heap.size w (((((w.alloc (.cells #[.bool a.lo.num.g, .slice a.lo.num.a a.lo.num.n a.lo.num.c, .bool a.lo.den.g, .slice a.lo.den.a a.lo.den.n a.lo.den.c, .bool a.hi.num.g, .slice a.hi.num.a a.hi.num.n a.hi.num.c, .bool a.hi.den.g, .slice a.hi.den.a a.hi.den.n a.hi.den.c] 43)).alloc (.cells #[.bool b.lo.num.g, .slice b.lo.num.a b.lo.num.n b.lo.num.c, .bool b.lo.den.g, .slice b.lo.den.a b.lo.den.n b.lo.den.c, .bool b.hi.num.g, .slice b.hi.num.a b.hi.num.n b.hi.num.c, .bool b.hi.den.g, .slice b.hi.den.a b.hi.den.n b.hi.den.c] 43)).alloc (.cells #[.bool t.num.g, .slice t.num.a t.num.n t.num.c, .bool t.den.g, .slice t.den.a t.den.n t.den.c] 29)).alloc (.cells #[.bool false, .slice none 0 0, .bool false, .slice none 0 0, .bool false, .slice none 0 0, .bool false, .slice none 0 0] 43)).alloc (.cells #[.bool a.lo.num.g, .slice a.lo.num.a a.lo.num.n a.lo.num.c, .bool a.lo.den.g, .slice a.lo.den.a a.lo.den.n a.lo.den.c, .bool a.hi.num.g, .slice a.hi.num.a a.hi.num.n a.hi.num.c, .bool a.hi.den.g, .slice a.hi.den.a a.hi.den.n a.hi.den.c, .bool b.lo.num.g, .slice b.lo.num.a b.lo.num.n b.lo.num.c, .bool b.lo.den.g, .slice b.lo.den.a b.lo.den.n b.lo.den.c, .bool b.hi.num.g, .slice b.hi.num.a b.hi.num.n b.hi.num.c, .bool b.hi.den.g, .slice b.hi.den.a b.hi.den.n b.hi.den.c] 43)) from ((((((Below.refl _ _).alloc (by simp) _).alloc (by simp) _).alloc (by simp <;> omega) _).alloc (by simp <;> omega) _).alloc (by simp <;> omega) _))
      go_enter Tryz.func24, Tryz.ntmps24
      go_wp2_with fail
      refine (unhide CG _ (w.heap.size + 1 + 1 + 1 + 1) (by simp) ((unhide HA).later (((((Below.refl _ _).alloc (by simp) _).alloc (by simp) _).alloc (by simp <;> omega) _).alloc (by simp <;> omega) _)) ((unhide HC).later (((((Below.refl _ _).alloc (by simp) _).alloc (by simp) _).alloc (by simp <;> omega) _).alloc (by simp <;> omega) _))).mono ?_
      rintro e w1 ⟨rfl, hb⟩
      have s1 := hb.size
      simp at s1
      have k2_0 : w1.cell? ⟨w.heap.size + 1 + 1, 0, none⟩ = some (.bool t.num.g) := cell_later hb (by simp [go_sem])
      have k2_1 : w1.cell? ⟨w.heap.size + 1 + 1, 1, none⟩ = some (.slice t.num.a t.num.n t.num.c) := cell_later hb (by simp [go_sem])
      have k2_2 : w1.cell? ⟨w.heap.size + 1 + 1, 2, none⟩ = some (.bool t.den.g) := cell_later hb (by simp [go_sem])
      have k2_3 : w1.cell? ⟨w.heap.size + 1 + 1, 3, none⟩ = some (.slice t.den.a t.den.n t.den.c) := cell_later hb (by simp [go_sem])
      have k3_0 : w1.cell? ⟨w.heap.size + 1 + 1 + 1, 0, none⟩ = some (.bool false) := cell_later hb (by simp [go_sem])
      have k3_1 : w1.cell? ⟨w.heap.size + 1 + 1 + 1, 1, none⟩ = some (.slice none 0 0) := cell_later hb (by simp [go_sem])
      have k3_2 : w1.cell? ⟨w.heap.size + 1 + 1 + 1, 2, none⟩ = some (.bool false) := cell_later hb (by simp [go_sem])
      have k3_3 : w1.cell? ⟨w.heap.size + 1 + 1 + 1, 3, none⟩ = some (.slice none 0 0) := cell_later hb (by simp [go_sem])
      have k3_4 : w1.cell? ⟨w.heap.size + 1 + 1 + 1, 4, none⟩ = some (.bool false) := cell_later hb (by simp [go_sem])
      have k3_5 : w1.cell? ⟨w.heap.size + 1 + 1 + 1, 5, none⟩ = some (.slice none 0 0) := cell_later hb (by simp [go_sem])
      have k3_6 : w1.cell? ⟨w.heap.size + 1 + 1 + 1, 6, none⟩ = some (.bool false) := cell_later hb (by simp [go_sem])
      have k3_7 : w1.cell? ⟨w.heap.size + 1 + 1 + 1, 7, none⟩ = some (.slice none 0 0) := cell_later hb (by simp [go_sem])
      have z3 : ∀ o, w1.frozen? ⟨w.heap.size + 1 + 1 + 1, o, none⟩ = false := fun o => frozen_later hb (by simp) (by simp [go_sem])
      have HB := hide (below_on (unhide B0) hb)
      clear hb
      go_wp2_with fail
      refine (unhide CT _ ((unhide HT).later (unhide HB))).mono ?_
      rintro e w2 ⟨rfl, hb⟩
      have s2 := hb.size
      replace z3 := fun o => frozen_later hb (World.block_lt_of_cell? _ _ k3_0) (z3 o)
      replace k3_0 := cell_later hb k3_0
      replace k3_1 := cell_later hb k3_1
      replace k3_2 := cell_later hb k3_2
      replace k3_3 := cell_later hb k3_3
      replace k3_4 := cell_later hb k3_4
      replace k3_5 := cell_later hb k3_5
      replace k3_6 := cell_later hb k3_6
      replace k3_7 := cell_later hb k3_7
      clear k2_0 k2_1 k2_2 k2_3
      replace HB := hide (below_on (unhide HB) hb)
      clear hb
      go_wp2
      refine bodyPost_ret (v := .tuple #[.agg #[.bool false, .slice none 0 0, .bool false, .slice none 0 0, .bool false, .slice none 0 0, .bool false, .slice none 0 0], .bool false]) (by simp [results, Tryz.results24, go_sem, k3_0, k3_1, k3_2, k3_3, k3_4, k3_5, k3_6, k3_7]) rfl ?_
      exact retS_fin (v := (⟨⟨⟨false, none, 0, 0⟩, ⟨false, none, 0, 0⟩⟩, ⟨⟨false, none, 0, 0⟩, ⟨false, none, 0, 0⟩⟩⟩ : SV)) (d := (⟨⟨⟨false, []⟩, ⟨false, []⟩⟩, ⟨⟨false, []⟩, ⟨false, []⟩⟩⟩ : SD)) (R := w.heap.size + 1 + 1 + 1) (by omega) (unhide HB) (metS_but (w5 := w2) (v := (⟨⟨⟨false, none, 0, 0⟩, ⟨false, none, 0, 0⟩⟩, ⟨⟨false, none, 0, 0⟩, ⟨false, none, 0, 0⟩⟩⟩ : SV)) (G := w.heap.size + 1 + 1 + 1)) (zeroS _ _ _) (ansS_none _ _ _ _)
    · rw [hp] at CG
      rw [hq] at CT
      have hpq := hp
      simp only [Bool.and_eq_true] at hpq
      have JA := hide (isPt_good (unhide HA) hpq.1)
      have JB := hide (isPt_good (unhide HC) hpq.2)
      have JT := hide (gF_good (unhide HT) hq)
      clear hpq
      have B0 := hide (show Below w.heap.size w (((((w.alloc (.cells #[.bool a.lo.num.g, .slice a.lo.num.a a.lo.num.n a.lo.num.c, .bool a.lo.den.g, .slice a.lo.den.a a.lo.den.n a.lo.den.c, .bool a.hi.num.g, .slice a.hi.num.a a.hi.num.n a.hi.num.c, .bool a.hi.den.g, .slice a.hi.den.a a.hi.den.n a.hi.den.c] 43)).alloc (.cells #[.bool b.lo.num.g, .slice b.lo.num.a b.lo.num.n b.lo.num.c, .bool b.lo.den.g, .slice b.lo.den.a b.lo.den.n b.lo.den.c, .bool b.hi.num.g, .slice b.hi.num.a b.hi.num.n b.hi.num.c, .bool b.hi.den.g, .slice b.hi.den.a b.hi.den.n b.hi.den.c] 43)).alloc (.cells #[.bool t.num.g, .slice t.num.a t.num.n t.num.c, .bool t.den.g, .slice t.den.a t.den.n t.den.c] 29)).alloc (.cells #[.bool false, .slice none 0 0, .bool false, .slice none 0 0, .bool false, .slice none 0 0, .bool false, .slice none 0 0] 43)).alloc (.cells #[.bool a.lo.num.g, .slice a.lo.num.a a.lo.num.n a.lo.num.c, .bool a.lo.den.g, .slice a.lo.den.a a.lo.den.n a.lo.den.c, .bool a.hi.num.g, .slice a.hi.num.a a.hi.num.n a.hi.num.c, .bool a.hi.den.g, .slice a.hi.den.a a.hi.den.n a.hi.den.c, .bool b.lo.num.g, .slice b.lo.num.a b.lo.num.n b.lo.num.c, .bool b.lo.den.g, .slice b.lo.den.a b.lo.den.n b.lo.den.c, .bool b.hi.num.g, .slice b.hi.num.a b.hi.num.n b.hi.num.c, .bool b.hi.den.g, .slice b.hi.den.a b.hi.den.n b.hi.den.c] 43)) from ((((((Below.refl _ _).alloc (by simp) _).alloc (by simp) _).alloc (by simp <;> omega) _).alloc (by simp <;> omega) _).alloc (by simp <;> omega) _))
      go_enter Tryz.func24, Tryz.ntmps24
      go_wp2_with fail
      refine (unhide CG _ (w.heap.size + 1 + 1 + 1 + 1) (by simp) ((unhide HA).later (((((Below.refl _ _).alloc (by simp) _).alloc (by simp) _).alloc (by simp <;> omega) _).alloc (by simp <;> omega) _)) ((unhide HC).later (((((Below.refl _ _).alloc (by simp) _).alloc (by simp) _).alloc (by simp <;> omega) _).alloc (by simp <;> omega) _))).mono ?_
      rintro e w1 ⟨rfl, hb⟩
      have s1 := hb.size
      simp at s1
      have k0_0 : w1.cell? ⟨w.heap.size, 0, none⟩ = some (.bool a.lo.num.g) := cell_later hb (by simp [go_sem])
      have k0_1 : w1.cell? ⟨w.heap.size, 1, none⟩ = some (.slice a.lo.num.a a.lo.num.n a.lo.num.c) := cell_later hb (by simp [go_sem])
      have k0_2 : w1.cell? ⟨w.heap.size, 2, none⟩ = some (.bool a.lo.den.g) := cell_later hb (by simp [go_sem])
      have k0_3 : w1.cell? ⟨w.heap.size, 3, none⟩ = some (.slice a.lo.den.a a.lo.den.n a.lo.den.c) := cell_later hb (by simp [go_sem])
      have k0_4 : w1.cell? ⟨w.heap.size, 4, none⟩ = some (.bool a.hi.num.g) := cell_later hb (by simp [go_sem])
      have k0_5 : w1.cell? ⟨w.heap.size, 5, none⟩ = some (.slice a.hi.num.a a.hi.num.n a.hi.num.c) := cell_later hb (by simp [go_sem])
      have k0_6 : w1.cell? ⟨w.heap.size, 6, none⟩ = some (.bool a.hi.den.g) := cell_later hb (by simp [go_sem])
      have k0_7 : w1.cell? ⟨w.heap.size, 7, none⟩ = some (.slice a.hi.den.a a.hi.den.n a.hi.den.c) := cell_later hb (by simp [go_sem])
      have k1_0 : w1.cell? ⟨w.heap.size + 1, 0, none⟩ = some (.bool b.lo.num.g) := cell_later hb (by simp [go_sem])
      have k1_1 : w1.cell? ⟨w.heap.size + 1, 1, none⟩ = some (.slice b.lo.num.a b.lo.num.n b.lo.num.c) := cell_later hb (by simp [go_sem])
      have k1_2 : w1.cell? ⟨w.heap.size + 1, 2, none⟩ = some (.bool b.lo.den.g) := cell_later hb (by simp [go_sem])
      have k1_3 : w1.cell? ⟨w.heap.size + 1, 3, none⟩ = some (.slice b.lo.den.a b.lo.den.n b.lo.den.c) := cell_later hb (by simp [go_sem])
      have k1_4 : w1.cell? ⟨w.heap.size + 1, 4, none⟩ = some (.bool b.hi.num.g) := cell_later hb (by simp [go_sem])
      have k1_5 : w1.cell? ⟨w.heap.size + 1, 5, none⟩ = some (.slice b.hi.num.a b.hi.num.n b.hi.num.c) := cell_later hb (by simp [go_sem])
      have k1_6 : w1.cell? ⟨w.heap.size + 1, 6, none⟩ = some (.bool b.hi.den.g) := cell_later hb (by simp [go_sem])
      have k1_7 : w1.cell? ⟨w.heap.size + 1, 7, none⟩ = some (.slice b.hi.den.a b.hi.den.n b.hi.den.c) := cell_later hb (by simp [go_sem])
      have k2_0 : w1.cell? ⟨w.heap.size + 1 + 1, 0, none⟩ = some (.bool t.num.g) := cell_later hb (by simp [go_sem])
      have k2_1 : w1.cell? ⟨w.heap.size + 1 + 1, 1, none⟩ = some (.slice t.num.a t.num.n t.num.c) := cell_later hb (by simp [go_sem])
      have k2_2 : w1.cell? ⟨w.heap.size + 1 + 1, 2, none⟩ = some (.bool t.den.g) := cell_later hb (by simp [go_sem])
      have k2_3 : w1.cell? ⟨w.heap.size + 1 + 1, 3, none⟩ = some (.slice t.den.a t.den.n t.den.c) := cell_later hb (by simp [go_sem])
      have k3_0 : w1.cell? ⟨w.heap.size + 1 + 1 + 1, 0, none⟩ = some (.bool false) := cell_later hb (by simp [go_sem])
      have k3_1 : w1.cell? ⟨w.heap.size + 1 + 1 + 1, 1, none⟩ = some (.slice none 0 0) := cell_later hb (by simp [go_sem])
      have k3_2 : w1.cell? ⟨w.heap.size + 1 + 1 + 1, 2, none⟩ = some (.bool false) := cell_later hb (by simp [go_sem])
      have k3_3 : w1.cell? ⟨w.heap.size + 1 + 1 + 1, 3, none⟩ = some (.slice none 0 0) := cell_later hb (by simp [go_sem])
      have k3_4 : w1.cell? ⟨w.heap.size + 1 + 1 + 1, 4, none⟩ = some (.bool false) := cell_later hb (by simp [go_sem])
      have k3_5 : w1.cell? ⟨w.heap.size + 1 + 1 + 1, 5, none⟩ = some (.slice none 0 0) := cell_later hb (by simp [go_sem])
      have k3_6 : w1.cell? ⟨w.heap.size + 1 + 1 + 1, 6, none⟩ = some (.bool false) := cell_later hb (by simp [go_sem])
      have k3_7 : w1.cell? ⟨w.heap.size + 1 + 1 + 1, 7, none⟩ = some (.slice none 0 0) := cell_later hb (by simp [go_sem])
      have z3 : ∀ o, w1.frozen? ⟨w.heap.size + 1 + 1 + 1, o, none⟩ = false := fun o => frozen_later hb (by simp) (by simp [go_sem])
      have HB := hide (below_on (unhide B0) hb)
      clear hb
      go_wp2_with fail
      refine (unhide CT _ ((unhide HT).later (unhide HB))).mono ?_
      rintro e w2 ⟨rfl, hb⟩
      have s2 := hb.size
      replace z3 := fun o => frozen_later hb (World.block_lt_of_cell? _ _ k3_0) (z3 o)
      replace k0_0 := cell_later hb k0_0
      replace k0_1 := cell_later hb k0_1
      replace k0_2 := cell_later hb k0_2
      replace k0_3 := cell_later hb k0_3
      replace k0_4 := cell_later hb k0_4
      replace k0_5 := cell_later hb k0_5
      replace k0_6 := cell_later hb k0_6
      replace k0_7 := cell_later hb k0_7
      replace k1_0 := cell_later hb k1_0
      replace k1_1 := cell_later hb k1_1
      replace k1_2 := cell_later hb k1_2
      replace k1_3 := cell_later hb k1_3
      replace k1_4 := cell_later hb k1_4
      replace k1_5 := cell_later hb k1_5
      replace k1_6 := cell_later hb k1_6
      replace k1_7 := cell_later hb k1_7
      replace k2_0 := cell_later hb k2_0
      replace k2_1 := cell_later hb k2_1
      replace k2_2 := cell_later hb k2_2
      replace k2_3 := cell_later hb k2_3
      replace k3_0 := cell_later hb k3_0
      replace k3_1 := cell_later hb k3_1
      replace k3_2 := cell_later hb k3_2
      replace k3_3 := cell_later hb k3_3
      replace k3_4 := cell_later hb k3_4
      replace k3_5 := cell_later hb k3_5
      replace k3_6 := cell_later hb k3_6
      replace k3_7 := cell_later hb k3_7
      replace HB := hide (below_on (unhide HB) hb)
      clear hb
      go_wp2_with fail
      refine (mixP a b t (vP da) (vP db) (vQ dt) _ ((unhide JA).1.later (unhide HB)) ((unhide JA).2.mono (by omega)) ((unhide JB).1.later (unhide HB)) ((unhide JB).2.mono (by omega)) ((isR_good (unhide JT)).later (unhide HB)) ((bdR_good (unhide JT)).mono (by omega))).mono ?_
      rintro e w3 ⟨r, xs, us, ys, vs, rfl, hb, ho, ha, n1, n2, n3, n4⟩
      have s3 := hb.size
      have HO := hide ho
      have m1 : r.lo.den.n ≤ maxLen := Nat.le_trans ha.tail.head.ar.cap ha.tail.head.ar.top
      have m2 : r.hi.den.n ≤ maxLen := Nat.le_trans ha.tail.tail.tail.head.ar.cap ha.tail.tail.tail.head.ar.top
      have NN := hide (And.intro n1 (And.intro n2 (And.intro n3 n4)))
      clear ho ha n1 n2 n3 n4
      replace z3 := fun o => frozen_later hb (World.block_lt_of_cell? _ _ k3_0) (z3 o)
      replace k3_0 := cell_later hb k3_0
      replace k3_1 := cell_later hb k3_1
      replace k3_2 := cell_later hb k3_2
      replace k3_3 := cell_later hb k3_3
      replace k3_4 := cell_later hb k3_4
      replace k3_5 := cell_later hb k3_5
      replace k3_6 := cell_later hb k3_6
      replace k3_7 := cell_later hb k3_7
      clear k0_0 k0_1 k0_2 k0_3 k0_4 k0_5 k0_6 k0_7 k1_0 k1_1 k1_2 k1_3 k1_4 k1_5 k1_6 k1_7 k2_0 k2_1 k2_2 k2_3
      replace HB := hide (below_on (unhide HB) hb)
      clear hb
      go_wp2_with fail
      refine (whereS r _ _ _ _ xs us ys vs w2.heap.size w3.heap.size _ (unhide HO) (Nat.le_refl _) m1 m2 (unhide NN).1 (unhide NN).2.1 (unhide NN).2.2.1 (unhide NN).2.2.2 (dR_ne _) (dR_ne _)).mono ?_
      rintro e w4 ⟨r2, d2, ok, rfl, hb, ov, hu⟩
      have s4 := hb.size
      have OV := hide ov
      have UU := hide hu
      clear ov hu
      replace z3 := fun o => frozen_later hb (World.block_lt_of_cell? _ _ k3_0) (z3 o)
      replace k3_0 := cell_later hb k3_0
      replace k3_1 := cell_later hb k3_1
      replace k3_2 := cell_later hb k3_2
      replace k3_3 := cell_later hb k3_3
      replace k3_4 := cell_later hb k3_4
      replace k3_5 := cell_later hb k3_5
      replace k3_6 := cell_later hb k3_6
      replace k3_7 := cell_later hb k3_7
      replace HB := hide (below_on (unhide HB) hb)
      clear hb
      go_wp2
      refine bodyPost_ret (v := .tuple #[.agg #[.bool r2.lo.num.g, .slice r2.lo.num.a r2.lo.num.n r2.lo.num.c, .bool r2.lo.den.g, .slice r2.lo.den.a r2.lo.den.n r2.lo.den.c, .bool r2.hi.num.g, .slice r2.hi.num.a r2.hi.num.n r2.hi.num.c, .bool r2.hi.den.g, .slice r2.hi.den.a r2.hi.den.n r2.hi.den.c], .bool ok]) (by simp [results, Tryz.results24, go_sem, k3_0, k3_1, k3_2, k3_3, k3_4, k3_5, k3_6, k3_7]) rfl ?_
      exact retS_fin (v := r2) (d := d2) (R := w.heap.size + 1 + 1 + 1) (by omega) (unhide HB) (metS_but (w5 := w4) (v := r2) (G := w.heap.size + 1 + 1 + 1)) ((unhide OV).wide (by omega) (by omega)) (unhide UU)

set_option maxHeartbeats 8000000 in
theorem MixPtS (a b : SV) (t : QV) (da db : SD) (dt : QD) (w : World) (h : AllAr w [(a.lo.num, da.lo.num), (a.lo.den, da.lo.den), (a.hi.num, da.hi.num), (a.hi.den, da.hi.den)]) (h' : AllAr w [(b.lo.num, db.lo.num), (b.lo.den, db.lo.den), (b.hi.num, db.hi.num), (b.hi.den, db.hi.den)]) (h'' : AllAr w [(t.num, dt.num), (t.den, dt.den)]) :
    Calls Tryz.prog 25 #[.agg #[.bool a.lo.num.g, .slice a.lo.num.a a.lo.num.n a.lo.num.c, .bool a.lo.den.g, .slice a.lo.den.a a.lo.den.n a.lo.den.c, .bool a.hi.num.g, .slice a.hi.num.a a.hi.num.n a.hi.num.c, .bool a.hi.den.g, .slice a.hi.den.a a.hi.den.n a.hi.den.c], .agg #[.bool b.lo.num.g, .slice b.lo.num.a b.lo.num.n b.lo.num.c, .bool b.lo.den.g, .slice b.lo.den.a b.lo.den.n b.lo.den.c, .bool b.hi.num.g, .slice b.hi.num.a b.hi.num.n b.hi.num.c, .bool b.hi.den.g, .slice b.hi.den.a b.hi.den.n b.hi.den.c], .agg #[.bool t.num.g, .slice t.num.a t.num.n t.num.c, .bool t.den.g, .slice t.den.a t.den.n t.den.c]] w (RetS w (AnsS (gPt2 da && gPt2 db && gF dt) (nR (mx (vQ dt) (vP da).1 (vP db).1)) (dR (mx (vQ dt) (vP da).1 (vP db).1)) (nR (mx (vQ dt) (vP da).2 (vP db).2)) (dR (mx (vQ dt) (vP da).2 (vP db).2)))) := by
  have HA := hide h
  have HC := hide h'
  have HT := hide h''
  clear h h' h''
  have C1 := hide (fun w1 (k : AllAr w1 [(a.lo.num, da.lo.num), (a.lo.den, da.lo.den), (a.hi.num, da.hi.num), (a.hi.den, da.hi.den)]) => ptS2 a da w1 k)
  have C2 := hide (fun w1 (k : AllAr w1 [(b.lo.num, db.lo.num), (b.lo.den, db.lo.den), (b.hi.num, db.hi.num), (b.hi.den, db.hi.den)]) => ptS2 b db w1 k)
  have C3 := hide (fun w1 (k : AllAr w1 [(t.num, dt.num), (t.den, dt.den)]) => smallS2 t dt w1 k)
  cases h1 : gPt2 da
  · rw [h1] at C1
    rw [Bool.false_and, Bool.false_and]
    have B0 := hide (show Below w.heap.size w ((((w.alloc (.cells #[.bool a.lo.num.g, .slice a.lo.num.a a.lo.num.n a.lo.num.c, .bool a.lo.den.g, .slice a.lo.den.a a.lo.den.n a.lo.den.c, .bool a.hi.num.g, .slice a.hi.num.a a.hi.num.n a.hi.num.c, .bool a.hi.den.g, .slice a.hi.den.a a.hi.den.n a.hi.den.c] 43)).alloc (.cells #[.bool b.lo.num.g, .slice b.lo.num.a b.lo.num.n b.lo.num.c, .bool b.lo.den.g, .slice b.lo.den.a b.lo.den.n b.lo.den.c, .bool b.hi.num.g, .slice b.hi.num.a b.hi.num.n b.hi.num.c, .bool b.hi.den.g, .slice b.hi.den.a b.hi.den.n b.hi.den.c] 43)).alloc (.cells #[.bool t.num.g, .slice t.num.a t.num.n t.num.c, .bool t.den.g, .slice t.den.a t.den.n t.den.c] 29)).alloc (.cells #[.bool false, .slice none 0 0, .bool false, .slice none 0 0, .bool false, .slice none 0 0, .bool false, .slice none 0 0] 43)) from (((((Below.refl _ _).alloc (by simp) _).alloc (by simp) _).alloc (by simp <;> omega) _).alloc (by simp <;> omega) _))
    go_enter Tryz.func25, Tryz.ntmps25
    go_wp2_with fail
    refine (unhide C1 _ ((unhide HA).later (unhide B0))).mono ?_
    rintro e w1 ⟨rfl, hb⟩
    have s1 := hb.size
    simp at s1
    have k3_0 : w1.cell? ⟨w.heap.size + 1 + 1 + 1, 0, none⟩ = some (.bool false) := cell_later hb (by simp [go_sem])
    have k3_1 : w1.cell? ⟨w.heap.size + 1 + 1 + 1, 1, none⟩ = some (.slice none 0 0) := cell_later hb (by simp [go_sem])
    have k3_2 : w1.cell? ⟨w.heap.size + 1 + 1 + 1, 2, none⟩ = some (.bool false) := cell_later hb (by simp [go_sem])
    have k3_3 : w1.cell? ⟨w.heap.size + 1 + 1 + 1, 3, none⟩ = some (.slice none 0 0) := cell_later hb (by simp [go_sem])
    have k3_4 : w1.cell? ⟨w.heap.size + 1 + 1 + 1, 4, none⟩ = some (.bool false) := cell_later hb (by simp [go_sem])
    have k3_5 : w1.cell? ⟨w.heap.size + 1 + 1 + 1, 5, none⟩ = some (.slice none 0 0) := cell_later hb (by simp [go_sem])
    have k3_6 : w1.cell? ⟨w.heap.size + 1 + 1 + 1, 6, none⟩ = some (.bool false) := cell_later hb (by simp [go_sem])
    have k3_7 : w1.cell? ⟨w.heap.size + 1 + 1 + 1, 7, none⟩ = some (.slice none 0 0) := cell_later hb (by simp [go_sem])
    have z3 : ∀ o, w1.frozen? ⟨w.heap.size + 1 + 1 + 1, o, none⟩ = false := fun o => frozen_later hb (by simp) (by simp [go_sem])
    have HB := hide (below_on (unhide B0) hb)
    clear hb
    go_wp2
    refine bodyPost_ret (v := .tuple #[.agg #[.bool false, .slice none 0 0, .bool false, .slice none 0 0, .bool false, .slice none 0 0, .bool false, .slice none 0 0], .bool false]) (by simp [results, Tryz.results25, go_sem, k3_0, k3_1, k3_2, k3_3, k3_4, k3_5, k3_6, k3_7]) rfl ?_
    exact retS_fin (v := (⟨⟨⟨false, none, 0, 0⟩, ⟨false, none, 0, 0⟩⟩, ⟨⟨false, none, 0, 0⟩, ⟨false, none, 0, 0⟩⟩⟩ : SV)) (d := (⟨⟨⟨false, []⟩, ⟨false, []⟩⟩, ⟨⟨false, []⟩, ⟨false, []⟩⟩⟩ : SD)) (R := w.heap.size + 1 + 1 + 1) (by omega) (unhide HB) (metS_but (w5 := w1) (v := (⟨⟨⟨false, none, 0, 0⟩, ⟨false, none, 0, 0⟩⟩, ⟨⟨false, none, 0, 0⟩, ⟨false, none, 0, 0⟩⟩⟩ : SV)) (G := w.heap.size + 1 + 1 + 1)) (zeroS _ _ _) (ansS_none _ _ _ _)
  · cases h2 : gPt2 db
    · rw [h1] at C1
      rw [h2] at C2
      rw [Bool.and_false, Bool.false_and]
      have B0 := hide (show Below w.heap.size w ((((w.alloc (.cells #[.bool a.lo.num.g, .slice a.lo.num.a a.lo.num.n a.lo.num.c, .bool a.lo.den.g, .slice a.lo.den.a a.lo.den.n a.lo.den.c, .bool a.hi.num.g, .slice a.hi.num.a a.hi.num.n a.hi.num.c, .bool a.hi.den.g, .slice a.hi.den.a a.hi.den.n a.hi.den.c] 43)).alloc (.cells #[.bool b.lo.num.g, .slice b.lo.num.a b.lo.num.n b.lo.num.c, .bool b.lo.den.g, .slice b.lo.den.a b.lo.den.n b.lo.den.c, .bool b.hi.num.g, .slice b.hi.num.a b.hi.num.n b.hi.num.c, .bool b.hi.den.g, .slice b.hi.den.a b.hi.den.n b.hi.den.c] 43)).alloc (.cells #[.bool t.num.g, .slice t.num.a t.num.n t.num.c, .bool t.den.g, .slice t.den.a t.den.n t.den.c] 29)).alloc (.cells #[.bool false, .slice none 0 0, .bool false, .slice none 0 0, .bool false, .slice none 0 0, .bool false, .slice none 0 0] 43)) from (((((Below.refl _ _).alloc (by simp) _).alloc (by simp) _).alloc (by simp <;> omega) _).alloc (by simp <;> omega) _))
      go_enter Tryz.func25, Tryz.ntmps25
      go_wp2_with fail
      refine (unhide C1 _ ((unhide HA).later (unhide B0))).mono ?_
      rintro e w1 ⟨rfl, hb⟩
      have s1 := hb.size
      simp at s1
      have k1_0 : w1.cell? ⟨w.heap.size + 1, 0, none⟩ = some (.bool b.lo.num.g) := cell_later hb (by simp [go_sem])
      have k1_1 : w1.cell? ⟨w.heap.size + 1, 1, none⟩ = some (.slice b.lo.num.a b.lo.num.n b.lo.num.c) := cell_later hb (by simp [go_sem])
      have k1_2 : w1.cell? ⟨w.heap.size + 1, 2, none⟩ = some (.bool b.lo.den.g) := cell_later hb (by simp [go_sem])
      have k1_3 : w1.cell? ⟨w.heap.size + 1, 3, none⟩ = some (.slice b.lo.den.a b.lo.den.n b.lo.den.c) := cell_later hb (by simp [go_sem])
      have k1_4 : w1.cell? ⟨w.heap.size + 1, 4, none⟩ = some (.bool b.hi.num.g) := cell_later hb (by simp [go_sem])
      have k1_5 : w1.cell? ⟨w.heap.size + 1, 5, none⟩ = some (.slice b.hi.num.a b.hi.num.n b.hi.num.c) := cell_later hb (by simp [go_sem])
      have k1_6 : w1.cell? ⟨w.heap.size + 1, 6, none⟩ = some (.bool b.hi.den.g) := cell_later hb (by simp [go_sem])
      have k1_7 : w1.cell? ⟨w.heap.size + 1, 7, none⟩ = some (.slice b.hi.den.a b.hi.den.n b.hi.den.c) := cell_later hb (by simp [go_sem])
      have k3_0 : w1.cell? ⟨w.heap.size + 1 + 1 + 1, 0, none⟩ = some (.bool false) := cell_later hb (by simp [go_sem])
      have k3_1 : w1.cell? ⟨w.heap.size + 1 + 1 + 1, 1, none⟩ = some (.slice none 0 0) := cell_later hb (by simp [go_sem])
      have k3_2 : w1.cell? ⟨w.heap.size + 1 + 1 + 1, 2, none⟩ = some (.bool false) := cell_later hb (by simp [go_sem])
      have k3_3 : w1.cell? ⟨w.heap.size + 1 + 1 + 1, 3, none⟩ = some (.slice none 0 0) := cell_later hb (by simp [go_sem])
      have k3_4 : w1.cell? ⟨w.heap.size + 1 + 1 + 1, 4, none⟩ = some (.bool false) := cell_later hb (by simp [go_sem])
      have k3_5 : w1.cell? ⟨w.heap.size + 1 + 1 + 1, 5, none⟩ = some (.slice none 0 0) := cell_later hb (by simp [go_sem])
      have k3_6 : w1.cell? ⟨w.heap.size + 1 + 1 + 1, 6, none⟩ = some (.bool false) := cell_later hb (by simp [go_sem])
      have k3_7 : w1.cell? ⟨w.heap.size + 1 + 1 + 1, 7, none⟩ = some (.slice none 0 0) := cell_later hb (by simp [go_sem])
      have z3 : ∀ o, w1.frozen? ⟨w.heap.size + 1 + 1 + 1, o, none⟩ = false := fun o => frozen_later hb (by simp) (by simp [go_sem])
      have HB := hide (below_on (unhide B0) hb)
      clear hb
      go_wp2_with fail
      refine (unhide C2 _ ((unhide HC).later (unhide HB))).mono ?_
      rintro e w2 ⟨rfl, hb⟩
      have s2 := hb.size
      replace z3 := fun o => frozen_later hb (World.block_lt_of_cell? _ _ k3_0) (z3 o)
      replace k3_0 := cell_later hb k3_0
      replace k3_1 := cell_later hb k3_1
      replace k3_2 := cell_later hb k3_2
      replace k3_3 := cell_later hb k3_3
      replace k3_4 := cell_later hb k3_4
      replace k3_5 := cell_later hb k3_5
      replace k3_6 := cell_later hb k3_6
      replace k3_7 := cell_later hb k3_7
      clear k1_0 k1_1 k1_2 k1_3 k1_4 k1_5 k1_6 k1_7
      replace HB := hide (below_on (unhide HB) hb)
      clear hb
      go_wp2
      refine bodyPost_ret (v := .tuple #[.agg #[.bool false, .slice none 0 0, .bool false, .slice none 0 0, .bool false, .slice none 0 0, .bool false, .slice none 0 0], .bool false]) (by simp [results, Tryz.results25, go_sem, k3_0, k3_1, k3_2, k3_3, k3_4, k3_5, k3_6, k3_7]) rfl ?_
      exact retS_fin (v := (⟨⟨⟨false, none, 0, 0⟩, ⟨false, none, 0, 0⟩⟩, ⟨⟨false, none, 0, 0⟩, ⟨false, none, 0, 0⟩⟩⟩ : SV)) (d := (⟨⟨⟨false, []⟩, ⟨false, []⟩⟩, ⟨⟨false, []⟩, ⟨false, []⟩⟩⟩ : SD)) (R := w.heap.size + 1 + 1 + 1) (by omega) (unhide HB) (metS_but (w5 := w2) (v := (⟨⟨⟨false, none, 0, 0⟩, ⟨false, none, 0, 0⟩⟩, ⟨⟨false, none, 0, 0⟩, ⟨false, none, 0, 0⟩⟩⟩ : SV)) (G := w.heap.size + 1 + 1 + 1)) (zeroS _ _ _) (ansS_none _ _ _ _)
    · cases h3 : gF dt
      · rw [h1] at C1
        rw [h2] at C2
        rw [h3] at C3
        have B0 := hide (show Below w.heap.size w ((((w.alloc (.cells #[.bool a.lo.num.g, .slice a.lo.num.a a.lo.num.n a.lo.num.c, .bool a.lo.den.g, .slice a.lo.den.a a.lo.den.n a.lo.den.c, .bool a.hi.num.g, .slice a.hi.num.a a.hi.num.n a.hi.num.c, .bool a.hi.den.g, .slice a.hi.den.a a.hi.den.n a.hi.den.c] 43)).alloc (.cells #[.bool b.lo.num.g, .slice b.lo.num.a b.lo.num.n b.lo.num.c, .bool b.lo.den.g, .slice b.lo.den.a b.lo.den.n b.lo.den.c, .bool b.hi.num.g, .slice b.hi.num.a b.hi.num.n b.hi.num.c, .bool b.hi.den.g, .slice b.hi.den.a b.hi.den.n b.hi.den.c] 43)).alloc (.cells #[.bool t.num.g, .slice t.num.a t.num.n t.num.c, .bool t.den.g, .slice t.den.a t.den.n t.den.c] 29)).alloc (.cells #[.bool false, .slice none 0 0, .bool false, .slice none 0 0, .bool false, .slice none 0 0, .bool false, .slice none 0 0] 43)) from (((((Below.refl _ _).alloc (by simp) _).alloc (by simp) _).alloc (by simp <;> omega) _).alloc (by simp <;> omega) _))
        go_enter Tryz.func25, Tryz.ntmps25
        go_wp2_with fail
        refine (unhide C1 _ ((unhide HA).later (unhide B0))).mono ?_
        rintro e w1 ⟨rfl, hb⟩
        have s1 := hb.size
        simp at s1
        have k1_0 : w1.cell? ⟨w.heap.size + 1, 0, none⟩ = some (.bool b.lo.num.g) := cell_later hb (by simp [go_sem])
        have k1_1 : w1.cell? ⟨w.heap.size + 1, 1, none⟩ = some (.slice b.lo.num.a b.lo.num.n b.lo.num.c) := cell_later hb (by simp [go_sem])
        have k1_2 : w1.cell? ⟨w.heap.size + 1, 2, none⟩ = some (.bool b.lo.den.g) := cell_later hb (by simp [go_sem])
        have k1_3 : w1.cell? ⟨w.heap.size + 1, 3, none⟩ = some (.slice b.lo.den.a b.lo.den.n b.lo.den.c) := cell_later hb (by simp [go_sem])
        have k1_4 : w1.cell? ⟨w.heap.size + 1, 4, none⟩ = some (.bool b.hi.num.g) := cell_later hb (by simp [go_sem])
        have k1_5 : w1.cell? ⟨w.heap.size + 1, 5, none⟩ = some (.slice b.hi.num.a b.hi.num.n b.hi.num.c) := cell_later hb (by simp [go_sem])
        have k1_6 : w1.cell? ⟨w.heap.size + 1, 6, none⟩ = some (.bool b.hi.den.g) := cell_later hb (by simp [go_sem])
        have k1_7 : w1.cell? ⟨w.heap.size + 1, 7, none⟩ = some (.slice b.hi.den.a b.hi.den.n b.hi.den.c) := cell_later hb (by simp [go_sem])
        have k2_0 : w1.cell? ⟨w.heap.size + 1 + 1, 0, none⟩ = some (.bool t.num.g) := cell_later hb (by simp [go_sem])
        have k2_1 : w1.cell? ⟨w.heap.size + 1 + 1, 1, none⟩ = some (.slice t.num.a t.num.n t.num.c) := cell_later hb (by simp [go_sem])
        have k2_2 : w1.cell? ⟨w.heap.size + 1 + 1, 2, none⟩ = some (.bool t.den.g) := cell_later hb (by simp [go_sem])
        have k2_3 : w1.cell? ⟨w.heap.size + 1 + 1, 3, none⟩ = some (.slice t.den.a t.den.n t.den.c) := cell_later hb (by simp [go_sem])
        have k3_0 : w1.cell? ⟨w.heap.size + 1 + 1 + 1, 0, none⟩ = some (.bool false) := cell_later hb (by simp [go_sem])
        have k3_1 : w1.cell? ⟨w.heap.size + 1 + 1 + 1, 1, none⟩ = some (.slice none 0 0) := cell_later hb (by simp [go_sem])
        have k3_2 : w1.cell? ⟨w.heap.size + 1 + 1 + 1, 2, none⟩ = some (.bool false) := cell_later hb (by simp [go_sem])
        have k3_3 : w1.cell? ⟨w.heap.size + 1 + 1 + 1, 3, none⟩ = some (.slice none 0 0) := cell_later hb (by simp [go_sem])
        have k3_4 : w1.cell? ⟨w.heap.size + 1 + 1 + 1, 4, none⟩ = some (.bool false) := cell_later hb (by simp [go_sem])
        have k3_5 : w1.cell? ⟨w.heap.size + 1 + 1 + 1, 5, none⟩ = some (.slice none 0 0) := cell_later hb (by simp [go_sem])
        have k3_6 : w1.cell? ⟨w.heap.size + 1 + 1 + 1, 6, none⟩ = some (.bool false) := cell_later hb (by simp [go_sem])
        have k3_7 : w1.cell? ⟨w.heap.size + 1 + 1 + 1, 7, none⟩ = some (.slice none 0 0) := cell_later hb (by simp [go_sem])
        have z3 : ∀ o, w1.frozen? ⟨w.heap.size + 1 + 1 + 1, o, none⟩ = false := fun o => frozen_later hb (by simp) (by simp [go_sem])
        have HB := hide (below_on (unhide B0) hb)
        clear hb
        go_wp2_with fail
        refine (unhide C2 _ ((unhide HC).later (unhide HB))).mono ?_
        rintro e w2 ⟨rfl, hb⟩
        have s2 := hb.size
        replace z3 := fun o => frozen_later hb (World.block_lt_of_cell? _ _ k3_0) (z3 o)
        replace k2_0 := cell_later hb k2_0
        replace k2_1 := cell_later hb k2_1
        replace k2_2 := cell_later hb k2_2
        replace k2_3 := cell_later hb k2_3
        replace k3_0 := cell_later hb k3_0
        replace k3_1 := cell_later hb k3_1
        replace k3_2 := cell_later hb k3_2
        replace k3_3 := cell_later hb k3_3
        replace k3_4 := cell_later hb k3_4
        replace k3_5 := cell_later hb k3_5
        replace k3_6 := cell_later hb k3_6
        replace k3_7 := cell_later hb k3_7
        clear k1_0 k1_1 k1_2 k1_3 k1_4 k1_5 k1_6 k1_7
        replace HB := hide (below_on (unhide HB) hb)
        clear hb
        go_wp2_with fail
        refine (unhide C3 _ ((unhide HT).later (unhide HB))).mono ?_
        rintro e w3 ⟨rfl, hb⟩
        have s3 := hb.size
        replace z3 := fun o => frozen_later hb (World.block_lt_of_cell? _ _ k3_0) (z3 o)
        replace k3_0 := cell_later hb k3_0
        replace k3_1 := cell_later hb k3_1
        replace k3_2 := cell_later hb k3_2
        replace k3_3 := cell_later hb k3_3
        replace k3_4 := cell_later hb k3_4
        replace k3_5 := cell_later hb k3_5
        replace k3_6 := cell_later hb k3_6
        replace k3_7 := cell_later hb k3_7
        clear k2_0 k2_1 k2_2 k2_3
        replace HB := hide (below_on (unhide HB) hb)
        clear hb
        go_wp2
        refine bodyPost_ret (v := .tuple #[.agg #[.bool false, .slice none 0 0, .bool false, .slice none 0 0, .bool false, .slice none 0 0, .bool false, .slice none 0 0], .bool false]) (by simp [results, Tryz.results25, go_sem, k3_0, k3_1, k3_2, k3_3, k3_4, k3_5, k3_6, k3_7]) rfl ?_
        exact retS_fin (v := (⟨⟨⟨false, none, 0, 0⟩, ⟨false, none, 0, 0⟩⟩, ⟨⟨false, none, 0, 0⟩, ⟨false, none, 0, 0⟩⟩⟩ : SV)) (d := (⟨⟨⟨false, []⟩, ⟨false, []⟩⟩, ⟨⟨false, []⟩, ⟨false, []⟩⟩⟩ : SD)) (R := w.heap.size + 1 + 1 + 1) (by omega) (unhide HB) (metS_but (w5 := w3) (v := (⟨⟨⟨false, none, 0, 0⟩, ⟨false, none, 0, 0⟩⟩, ⟨⟨false, none, 0, 0⟩, ⟨false, none, 0, 0⟩⟩⟩ : SV)) (G := w.heap.size + 1 + 1 + 1)) (zeroS _ _ _) (ansS_none _ _ _ _)
      · rw [h1] at C1
        rw [h2] at C2
        rw [h3] at C3
        have JA := hide (isPt_good (unhide HA) h1)
        have JB := hide (isPt_good (unhide HC) h2)
        have JT := hide (gF_good (unhide HT) h3)
        have B0 := hide (show Below w.heap.size w ((((w.alloc (.cells #[.bool a.lo.num.g, .slice a.lo.num.a a.lo.num.n a.lo.num.c, .bool a.lo.den.g, .slice a.lo.den.a a.lo.den.n a.lo.den.c, .bool a.hi.num.g, .slice a.hi.num.a a.hi.num.n a.hi.num.c, .bool a.hi.den.g, .slice a.hi.den.a a.hi.den.n a.hi.den.c] 43)).alloc (.cells #[.bool b.lo.num.g, .slice b.lo.num.a b.lo.num.n b.lo.num.c, .bool b.lo.den.g, .slice b.lo.den.a b.lo.den.n b.lo.den.c, .bool b.hi.num.g, .slice b.hi.num.a b.hi.num.n b.hi.num.c, .bool b.hi.den.g, .slice b.hi.den.a b.hi.den.n b.hi.den.c] 43)).alloc (.cells #[.bool t.num.g, .slice t.num.a t.num.n t.num.c, .bool t.den.g, .slice t.den.a t.den.n t.den.c] 29)).alloc (.cells #[.bool false, .slice none 0 0, .bool false, .slice none 0 0, .bool false, .slice none 0 0, .bool false, .slice none 0 0] 43)) from (((((Below.refl _ _).alloc (by simp) _).alloc (by simp) _).alloc (by simp <;> omega) _).alloc (by simp <;> omega) _))
        go_enter Tryz.func25, Tryz.ntmps25
        go_wp2_with fail
        refine (unhide C1 _ ((unhide HA).later (unhide B0))).mono ?_
        rintro e w1 ⟨rfl, hb⟩
        have s1 := hb.size
        simp at s1
        have k0_0 : w1.cell? ⟨w.heap.size, 0, none⟩ = some (.bool a.lo.num.g) := cell_later hb (by simp [go_sem])
        have k0_1 : w1.cell? ⟨w.heap.size, 1, none⟩ = some (.slice a.lo.num.a a.lo.num.n a.lo.num.c) := cell_later hb (by simp [go_sem])
        have k0_2 : w1.cell? ⟨w.heap.size, 2, none⟩ = some (.bool a.lo.den.g) := cell_later hb (by simp [go_sem])
        have k0_3 : w1.cell? ⟨w.heap.size, 3, none⟩ = some (.slice a.lo.den.a a.lo.den.n a.lo.den.c) := cell_later hb (by simp [go_sem])
        have k0_4 : w1.cell? ⟨w.heap.size, 4, none⟩ = some (.bool a.hi.num.g) := cell_later hb (by simp [go_sem])
        have k0_5 : w1.cell? ⟨w.heap.size, 5, none⟩ = some (.slice a.hi.num.a a.hi.num.n a.hi.num.c) := cell_later hb (by simp [go_sem])
        have k0_6 : w1.cell? ⟨w.heap.size, 6, none⟩ = some (.bool a.hi.den.g) := cell_later hb (by simp [go_sem])
        have k0_7 : w1.cell? ⟨w.heap.size, 7, none⟩ = some (.slice a.hi.den.a a.hi.den.n a.hi.den.c) := cell_later hb (by simp [go_sem])
        have k1_0 : w1.cell? ⟨w.heap.size + 1, 0, none⟩ = some (.bool b.lo.num.g) := cell_later hb (by simp [go_sem])
        have k1_1 : w1.cell? ⟨w.heap.size + 1, 1, none⟩ = some (.slice b.lo.num.a b.lo.num.n b.lo.num.c) := cell_later hb (by simp [go_sem])
        have k1_2 : w1.cell? ⟨w.heap.size + 1, 2, none⟩ = some (.bool b.lo.den.g) := cell_later hb (by simp [go_sem])
        have k1_3 : w1.cell? ⟨w.heap.size + 1, 3, none⟩ = some (.slice b.lo.den.a b.lo.den.n b.lo.den.c) := cell_later hb (by simp [go_sem])
        have k1_4 : w1.cell? ⟨w.heap.size + 1, 4, none⟩ = some (.bool b.hi.num.g) := cell_later hb (by simp [go_sem])
        have k1_5 : w1.cell? ⟨w.heap.size + 1, 5, none⟩ = some (.slice b.hi.num.a b.hi.num.n b.hi.num.c) := cell_later hb (by simp [go_sem])
        have k1_6 : w1.cell? ⟨w.heap.size + 1, 6, none⟩ = some (.bool b.hi.den.g) := cell_later hb (by simp [go_sem])
        have k1_7 : w1.cell? ⟨w.heap.size + 1, 7, none⟩ = some (.slice b.hi.den.a b.hi.den.n b.hi.den.c) := cell_later hb (by simp [go_sem])
        have k2_0 : w1.cell? ⟨w.heap.size + 1 + 1, 0, none⟩ = some (.bool t.num.g) := cell_later hb (by simp [go_sem])
        have k2_1 : w1.cell? ⟨w.heap.size + 1 + 1, 1, none⟩ = some (.slice t.num.a t.num.n t.num.c) := cell_later hb (by simp [go_sem])
        have k2_2 : w1.cell? ⟨w.heap.size + 1 + 1, 2, none⟩ = some (.bool t.den.g) := cell_later hb (by simp [go_sem])
        have k2_3 : w1.cell? ⟨w.heap.size + 1 + 1, 3, none⟩ = some (.slice t.den.a t.den.n t.den.c) := cell_later hb (by simp [go_sem])
        have k3_0 : w1.cell? ⟨w.heap.size + 1 + 1 + 1, 0, none⟩ = some (.bool false) := cell_later hb (by simp [go_sem])
        have k3_1 : w1.cell? ⟨w.heap.size + 1 + 1 + 1, 1, none⟩ = some (.slice none 0 0) := cell_later hb (by simp [go_sem])
        have k3_2 : w1.cell? ⟨w.heap.size + 1 + 1 + 1, 2, none⟩ = some (.bool false) := cell_later hb (by simp [go_sem])
        have k3_3 : w1.cell? ⟨w.heap.size + 1 + 1 + 1, 3, none⟩ = some (.slice none 0 0) := cell_later hb (by simp [go_sem])
        have k3_4 : w1.cell? ⟨w.heap.size + 1 + 1 + 1, 4, none⟩ = some (.bool false) := cell_later hb (by simp [go_sem])
        have k3_5 : w1.cell? ⟨w.heap.size + 1 + 1 + 1, 5, none⟩ = some (.slice none 0 0) := cell_later hb (by simp [go_sem])
        have k3_6 : w1.cell? ⟨w.heap.size + 1 + 1 + 1, 6, none⟩ = some (.bool false) := cell_later hb (by simp [go_sem])
        have k3_7 : w1.cell? ⟨w.heap.size + 1 + 1 + 1, 7, none⟩ = some (.slice none 0 0) := cell_later hb (by simp [go_sem])
        have z3 : ∀ o, w1.frozen? ⟨w.heap.size + 1 + 1 + 1, o, none⟩ = false := fun o => frozen_later hb (by simp) (by simp [go_sem])
        have HB := hide (below_on (unhide B0) hb)
        clear hb
        go_wp2_with fail
        refine (unhide C2 _ ((unhide HC).later (unhide HB))).mono ?_
        rintro e w2 ⟨rfl, hb⟩
        have s2 := hb.size
        replace z3 := fun o => frozen_later hb (World.block_lt_of_cell? _ _ k3_0) (z3 o)
        replace k0_0 := cell_later hb k0_0
        replace k0_1 := cell_later hb k0_1
        replace k0_2 := cell_later hb k0_2
        replace k0_3 := cell_later hb k0_3
        replace k0_4 := cell_later hb k0_4
        replace k0_5 := cell_later hb k0_5
        replace k0_6 := cell_later hb k0_6
        replace k0_7 := cell_later hb k0_7
        replace k1_0 := cell_later hb k1_0
        replace k1_1 := cell_later hb k1_1
        replace k1_2 := cell_later hb k1_2
        replace k1_3 := cell_later hb k1_3
        replace k1_4 := cell_later hb k1_4
        replace k1_5 := cell_later hb k1_5
        replace k1_6 := cell_later hb k1_6
        replace k1_7 := cell_later hb k1_7
        replace k2_0 := cell_later hb k2_0
        replace k2_1 := cell_later hb k2_1
        replace k2_2 := cell_later hb k2_2
        replace k2_3 := cell_later hb k2_3
        replace k3_0 := cell_later hb k3_0
        replace k3_1 := cell_later hb k3_1
        replace k3_2 := cell_later hb k3_2
        replace k3_3 := cell_later hb k3_3
        replace k3_4 := cell_later hb k3_4
        replace k3_5 := cell_later hb k3_5
        replace k3_6 := cell_later hb k3_6
        replace k3_7 := cell_later hb k3_7
        replace HB := hide (below_on (unhide HB) hb)
        clear hb
        go_wp2_with fail
        refine (unhide C3 _ ((unhide HT).later (unhide HB))).mono ?_
        rintro e w3 ⟨rfl, hb⟩
        have s3 := hb.size
        replace z3 := fun o => frozen_later hb (World.block_lt_of_cell? _ _ k3_0) (z3 o)
        replace k0_0 := cell_later hb k0_0
        replace k0_1 := cell_later hb k0_1
        replace k0_2 := cell_later hb k0_2
        replace k0_3 := cell_later hb k0_3
        replace k0_4 := cell_later hb k0_4
        replace k0_5 := cell_later hb k0_5
        replace k0_6 := cell_later hb k0_6
        replace k0_7 := cell_later hb k0_7
        replace k1_0 := cell_later hb k1_0
        replace k1_1 := cell_later hb k1_1
        replace k1_2 := cell_later hb k1_2
        replace k1_3 := cell_later hb k1_3
        replace k1_4 := cell_later hb k1_4
        replace k1_5 := cell_later hb k1_5
        replace k1_6 := cell_later hb k1_6
        replace k1_7 := cell_later hb k1_7
        replace k2_0 := cell_later hb k2_0
        replace k2_1 := cell_later hb k2_1
        replace k2_2 := cell_later hb k2_2
        replace k2_3 := cell_later hb k2_3
        replace k3_0 := cell_later hb k3_0
        replace k3_1 := cell_later hb k3_1
        replace k3_2 := cell_later hb k3_2
        replace k3_3 := cell_later hb k3_3
        replace k3_4 := cell_later hb k3_4
        replace k3_5 := cell_later hb k3_5
        replace k3_6 := cell_later hb k3_6
        replace k3_7 := cell_later hb k3_7
        replace HB := hide (below_on (unhide HB) hb)
        clear hb
        go_wp2_with fail
        refine (mixPS a b t (vP da) (vP db) (vQ dt) _ ((unhide JA).1.later (unhide HB)) ((unhide JA).2.mono (by omega)) ((unhide JB).1.later (unhide HB)) ((unhide JB).2.mono (by omega)) ((isR_good (unhide JT)).later (unhide HB)) ((bdR_good (unhide JT)).mono (by omega))).mono ?_
        rintro e w4 ⟨r, rfl, hb, o1, o2⟩
        have s4 := hb.size
        simp only [mx_eq] at o1 o2
        have O1 := hide o1
        have O2 := hide o2
        clear o1 o2
        replace z3 := fun o => frozen_later hb (World.block_lt_of_cell? _ _ k3_0) (z3 o)
        replace k3_0 := cell_later hb k3_0
        replace k3_1 := cell_later hb k3_1
        replace k3_2 := cell_later hb k3_2
        replace k3_3 := cell_later hb k3_3
        replace k3_4 := cell_later hb k3_4
        replace k3_5 := cell_later hb k3_5
        replace k3_6 := cell_later hb k3_6
        replace k3_7 := cell_later hb k3_7
        clear k0_0 k0_1 k0_2 k0_3 k0_4 k0_5 k0_6 k0_7 k1_0 k1_1 k1_2 k1_3 k1_4 k1_5 k1_6 k1_7 k2_0 k2_1 k2_2 k2_3
        replace HB := hide (below_on (unhide HB) hb)
        clear hb
        go_wp2_with fail
        refine (fitsSS r _ _ _ _ _ (unhide O1).is (unhide O2).is (dR_pos _) (dR_pos _)).mono ?_
        rintro e w5 ⟨r2, d2, ok, rfl, hb, ov, hu⟩
        have s5 := hb.size
        have OV := hide ov
        have UU := hide hu
        clear ov hu
        replace z3 := fun o => frozen_later hb (World.block_lt_of_cell? _ _ k3_0) (z3 o)
        replace k3_0 := cell_later hb k3_0
        replace k3_1 := cell_later hb k3_1
        replace k3_2 := cell_later hb k3_2
        replace k3_3 := cell_later hb k3_3
        replace k3_4 := cell_later hb k3_4
        replace k3_5 := cell_later hb k3_5
        replace k3_6 := cell_later hb k3_6
        replace k3_7 := cell_later hb k3_7
        replace HB := hide (below_on (unhide HB) hb)
        clear hb
        go_wp2
        refine bodyPost_ret (v := .tuple #[.agg #[.bool r2.lo.num.g, .slice r2.lo.num.a r2.lo.num.n r2.lo.num.c, .bool r2.lo.den.g, .slice r2.lo.den.a r2.lo.den.n r2.lo.den.c, .bool r2.hi.num.g, .slice r2.hi.num.a r2.hi.num.n r2.hi.num.c, .bool r2.hi.den.g, .slice r2.hi.den.a r2.hi.den.n r2.hi.den.c], .bool ok]) (by simp [results, Tryz.results25, go_sem, k3_0, k3_1, k3_2, k3_3, k3_4, k3_5, k3_6, k3_7]) rfl ?_
        exact retS_fin (v := r2) (d := d2) (R := w.heap.size + 1 + 1 + 1) (by omega) (unhide HB) (metS_but (w5 := w5) (v := r2) (G := w.heap.size + 1 + 1 + 1)) ((unhide OV).wide (by omega) (by omega)) (unhide UU)
end Go.Proofs.YthmpikagenodjaaGreat
