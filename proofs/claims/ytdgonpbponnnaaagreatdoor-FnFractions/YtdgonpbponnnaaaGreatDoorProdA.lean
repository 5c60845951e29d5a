/- What products and quotients tell of each other, by value. No condition beyond those typed. -/
import Derived.Test.YtdgonpbponnnaaaGreatDoorDivC
import Derived.Test.YtdgonpbponnnaaaGreatDoorCompare
namespace Go.Proofs.YtdgonpbponnnaaaGreatDoor
open Go.RowKit
set_option linter.unusedVariables false
set_option maxRecDepth 100000
set_option linter.unusedSimpArgs false

theorem gB_neg {g : Bool} {xs : List Int} (h : goodB g xs = true) : (sv g xs < 0 ↔ g = true) ∧ (sv g xs = 0 ↔ xs.length = 0) := by
  obtain ⟨h1, h2, h3, h4⟩ := good_parts h
  have hv := val_nonneg h1
  have hz := val_zero_iff h1 h2
  have hl : xs = [] ↔ xs.length = 0 := List.length_eq_zero_iff.symm
  unfold sv
  cases g
  · rw [if_neg (by simp)]
    exact ⟨⟨fun e => by omega, fun e => by cases e⟩, hz.trans hl⟩
  · rw [if_pos rfl]
    have h5 : xs ≠ [] := fun e => by cases h4 e
    have h6 : val xs ≠ 0 := fun e => h5 (hz.1 e)
    exact ⟨⟨fun _ => rfl, fun _ => by omega⟩, ⟨fun e => by omega, fun e => absurd (hl.2 e) h5⟩⟩
theorem gB_of {g : Bool} {xs : List Int} {V : Int} (h : Nm xs V.natAbs) (hl : xs.length ≤ 40) (hg : g = decide (V < 0)) : goodB g xs = true := by
  unfold goodB
  have ha : xs.all limbOk = true := List.all_eq_true.2 (fun x hx => by have := h.ok x hx; simp [limbOk]; omega)
  rw [ha, Bool.true_and]
  by_cases h0 : xs.length = 0
  · rw [if_pos h0, hg]
    have := h.nil_iff.1 (List.length_eq_zero_iff.1 h0)
    simp
    omega
  · rw [if_neg h0, decide_eq_true hl, Bool.true_and]
    have hne : xs ≠ [] := fun e => h0 (by rw [e]; rfl)
    have hx := List.dropLast_concat_getLast hne
    have hz : xs.getLast hne ≠ 0 := fun e => by
      have h1 := h.tr
      rw [← hx, e, trim_snoc_zero] at h1
      have h2 := congrArg List.length h1
      have h3 := trim_len xs.dropLast
      simp at h2
      rw [h2] at h3
      simp at h3
      omega
    have e : xs.getD (xs.length - 1) 0 = xs.getLast hne := by
      rw [List.getLast_eq_getElem, List.getD_eq_getElem?_getD, List.getElem?_eq_getElem (by omega)]
      rfl
    rw [e]
    simpa using hz
/-- A number in the one form that it has. -/
structure Fm (d : BD) (V : Int) : Prop where
  sg : d.g = decide (V < 0)
  nm : Nm d.xs V.natAbs
  len : d.xs.length ≤ 40
theorem Fm.same {d d' : BD} {V : Int} (h : Fm d V) (k : Fm d' V) : d = d' := by
  obtain ⟨g, xs⟩ := d
  obtain ⟨g', xs'⟩ := d'
  have e1 : g = decide (V < 0) := h.sg
  have e2 : g' = decide (V < 0) := k.sg
  have e3 : xs = xs' := h.nm.same k.nm
  subst e3
  rw [e1, e2]
theorem Fm.of {d : BD} (h : goodB d.g d.xs = true) : Fm d (sv d.g d.xs) := by
  have hn := gB_neg h
  obtain ⟨h1, h2, h3, h4⟩ := good_parts h
  have hv := val_nonneg h1
  refine ⟨?_, ⟨h1, h2, ?_⟩, h3⟩
  · cases hg : d.g
    · exact (decide_eq_false (fun e => by rw [hg] at hn; cases hn.1.1 e)).symm
    · rw [hg] at hn; exact (decide_eq_true (hn.1.2 rfl)).symm
  · unfold sv
    split <;> omega
theorem Fm.val {d : BD} {V : Int} (h : Fm d V) : val d.xs = V.natAbs := h.nm.v
theorem Fm.sve {d : BD} {V : Int} (h : Fm d V) : sv d.g d.xs = V := by
  have e := h.val
  unfold sv
  rw [h.sg, e]
  by_cases hV : V < 0
  · simp [hV]; omega
  · simp [hV]; omega
theorem Fm.good {d : BD} {V : Int} (h : Fm d V) : goodB d.g d.xs = true := gB_of h.nm h.len h.sg
theorem Fm.zero {d : BD} {V : Int} (h : Fm d V) : d.xs.length = 0 ↔ V = 0 := by
  have := h.nm.nil_iff
  rw [← List.length_eq_zero_iff] at this
  omega
theorem ans_yes {P : Bool} {V : Int} {d : BD} (h : Ans P V d.g d.xs true) : P = true ∧ Fm d V := by
  rcases h with ⟨h0, ts, hn, ⟨hl, _, hg, hz⟩ | ⟨_, e, _⟩⟩ | ⟨_, e, _⟩
  · subst hz; exact ⟨h0, hg, hn, hl⟩
  · cases e
  · cases e
theorem ans_fits {P : Bool} {V : Int} {d : BD} {ok : Bool} (h : Ans P V d.g d.xs ok) (hP : P = true) {W : BD} (hW : Fm W V) : ok = true ∧ d = W := by
  rcases h with ⟨h0, ts, hn, ⟨hl, h1, hg, hz⟩ | ⟨hl, _⟩⟩ | ⟨h0, _⟩
  · subst hz; exact ⟨h1, Fm.same ⟨hg, hn, hl⟩ hW⟩
  · have := hn.same hW.nm
    rw [this] at hl
    have := hW.len
    omega
  · rw [hP] at h0; cases h0
theorem ans_le {P : Bool} {V : Int} {d : BD} {ok : Bool} (h : Ans P V d.g d.xs ok) (hP : P = true) {W : BD} {U : Int} (hW : Fm W U) (hle : V.natAbs ≤ U.natAbs) : ok = true ∧ Fm d V := by
  rcases h with ⟨h0, ts, hn, ⟨hl, h1, hg, hz⟩ | ⟨hl, _⟩⟩ | ⟨h0, _⟩
  · subst hz; exact ⟨h1, hg, hn, hl⟩
  · have k := hn.le hW.nm.ok rfl (by rw [hW.val]; omega)
    have := hW.len
    omega
  · rw [hP] at h0; cases h0
theorem ansD_fm {P : Bool} {A B : Int} {d : QD} {ok : Bool} (h : AnsD P A B d ok) (hP : P = true) : ok = true ∧ Fm d.num A ∧ Fm d.den B := by
  rcases h with ⟨h1 | h1, h2 | h2⟩
  · exact ⟨h1.2.1, ⟨h1.2.2.1, h1.2.2.2.1, h1.2.2.2.2⟩, ⟨h2.2.2.1, h2.2.2.2.1, h2.2.2.2.2⟩⟩
  · rw [hP] at h2; cases h2.1
  · rw [hP] at h1; cases h1.1
  · rw [hP] at h1; cases h1.1
theorem ansD_yes2 {P : Bool} {A B : Int} {d : QD} (h : AnsD P A B d true) : P = true := by
  rcases h.1 with h | h
  · exact h.1
  · cases h.2.1
theorem pD_of {d d' : BD} {A B : Int} (h : Fm d A) (k : Fm d' B) (hB : B ≠ 0) : pD d d' = true := by
  unfold pD
  rw [h.good, k.good]
  have := k.zero
  simp
  intro e
  rw [e] at this
  exact hB (this.1 rfl)
theorem sU_mul (A B : Int) (hB : B ≠ 0) : sU (!(decide (A * B < 0) == decide (B < 0))) (A.natAbs : Int) = A := by
  unfold sU
  by_cases h1 : A < 0
  · by_cases h2 : B < 0
    · have h3 : 0 < A * B := Int.mul_pos_of_neg_of_neg h1 h2
      simp [h2, show ¬ A * B < 0 by omega]; omega
    · have h3 : A * B < 0 := Int.mul_neg_of_neg_of_pos h1 (by omega)
      simp [h2, h3]; omega
  · by_cases h0 : A = 0
    · subst h0; simp
    · by_cases h2 : B < 0
      · have h3 : A * B < 0 := Int.mul_neg_of_pos_of_neg (by omega) h2
        simp [h2, h3]; omega
      · have h3 : 0 < A * B := Int.mul_pos (by omega) (by omega)
        simp [h2, show ¬ A * B < 0 by omega]; omega
theorem qr_mul {d d' : BD} {A B : Int} (h : Fm d (A * B)) (k : Fm d' B) (hB : B ≠ 0) : qD d d' = A ∧ rD d d' = 0 := by
  have e1 : ((A * B).natAbs : Int) / (B.natAbs : Int) = (A.natAbs : Int) := by rw [Int.natAbs_mul, Int.natCast_mul]; exact Int.mul_ediv_cancel _ (by omega)
  have e2 : ((A * B).natAbs : Int) % (B.natAbs : Int) = 0 := by rw [Int.natAbs_mul, Int.natCast_mul]; exact Int.mul_emod_left _ _
  constructor
  · unfold qD
    rw [h.val, k.val, h.sg, k.sg, e1]
    exact sU_mul A B hB
  · unfold rD
    rw [h.val, k.val, e2]
    unfold sU
    split <;> rfl
theorem pd_back {da db dp : BD} (h : Ans (goodB da.g da.xs && goodB db.g db.xs) (sv da.g da.xs * sv db.g db.xs) dp.g dp.xs true) (h0 : db.xs.length ≠ 0) {d : QD} {ok : Bool} (k : AnsD (pD dp db) (qD dp db) (rD dp db) d ok) : ok = true ∧ d.num = da ∧ d.den.xs.length = 0 := by
  obtain ⟨hP, hp⟩ := ans_yes h
  have hg := (Bool.and_eq_true _ _).mp hP
  have fa := Fm.of hg.1
  have fb := Fm.of hg.2
  have hB : sv db.g db.xs ≠ 0 := fun e => h0 (fb.zero.2 e)
  obtain ⟨e1, e2⟩ := qr_mul hp fb hB
  rw [e1, e2] at k
  obtain ⟨q1, q2, q3⟩ := ansD_fm k (pD_of hp fb hB)
  exact ⟨q1, q2.same fa, q3.zero.2 rfl⟩
theorem val_eq {d : BD} {A : Int} (h : Fm d A) : val d.xs = A.natAbs := h.val
theorem qr_sum (A B : Int) (hB : B ≠ 0) : sU (!(decide (A < 0) == decide (B < 0))) ((A.natAbs : Int) / (B.natAbs : Int)) * B + sU (decide (A < 0)) ((A.natAbs : Int) % (B.natAbs : Int)) = A := by
  have h1 := Int.mul_ediv_add_emod (A.natAbs : Int) (B.natAbs : Int)
  unfold sU
  generalize (A.natAbs : Int) / (B.natAbs : Int) = q at *
  generalize (A.natAbs : Int) % (B.natAbs : Int) = r at *
  by_cases hA : A < 0
  · by_cases hb : B < 0
    · simp [hA, hb]
      have e : (B.natAbs : Int) = -B := by omega
      rw [e, Int.neg_mul, Int.mul_comm] at h1
      omega
    · simp [hA, hb]
      have e : (B.natAbs : Int) = B := by omega
      rw [e, Int.mul_comm] at h1
      rw [Int.neg_mul]
      omega
  · by_cases hb : B < 0
    · simp [hA, hb]
      have e : (B.natAbs : Int) = -B := by omega
      rw [e, Int.neg_mul, Int.mul_comm] at h1
      rw [Int.neg_mul]
      omega
    · simp [hA, hb]
      have e : (B.natAbs : Int) = B := by omega
      rw [e, Int.mul_comm] at h1
      omega
/-- A quotient and a rest that are told. -/
structure QR2 (da db : BD) (d : QD) (A B Q R : Int) : Prop where
  fa : Fm da A
  fb : Fm db B
  nz : B ≠ 0
  fq : Fm d.num Q
  fr : Fm d.den R
  sum : Q * B + R = A
  small : R.natAbs < B.natAbs
  part : (Q * B).natAbs ≤ A.natAbs
  sign : R ≠ 0 → (R < 0 ↔ A < 0)
theorem two_of {da db : BD} {d : QD} (h : AnsD (pD da db) (qD da db) (rD da db) d true) : ∃ A B Q R, QR2 da db d A B Q R := by
  have hP := ansD_yes2 h
  obtain ⟨_, h1, h2⟩ := ansD_fm h hP
  unfold pD at hP
  simp only [Bool.and_eq_true, decide_eq_true_eq] at hP
  obtain ⟨⟨g1, g2⟩, g3⟩ := hP
  have fa := Fm.of g1
  have fb := Fm.of g2
  have hB : sv db.g db.xs ≠ 0 := fun e => g3 (fb.zero.2 e)
  generalize sv da.g da.xs = A at *
  generalize sv db.g db.xs = B at *
  have eq : qD da db = sU (!(decide (A < 0) == decide (B < 0))) ((A.natAbs : Int) / (B.natAbs : Int)) := by unfold qD; rw [fa.val, fb.val, fa.sg, fb.sg]
  have er : rD da db = sU (decide (A < 0)) ((A.natAbs : Int) % (B.natAbs : Int)) := by unfold rD; rw [fa.val, fb.val, fa.sg]
  rw [eq] at h1
  rw [er] at h2
  have hs := qr_sum A B hB
  have m0 := Int.emod_nonneg (A.natAbs : Int) (show (B.natAbs : Int) ≠ 0 by omega)
  have m1 := Int.emod_lt_of_pos (A.natAbs : Int) (show (0 : Int) < (B.natAbs : Int) by omega)
  have q0 : 0 ≤ (A.natAbs : Int) / (B.natAbs : Int) := Int.ediv_nonneg (by omega) (by omega)
  have q1 := Int.mul_ediv_add_emod (A.natAbs : Int) (B.natAbs : Int)
  refine ⟨A, B, _, _, fa, fb, hB, h1, h2, hs, ?_, ?_, ?_⟩
  · have := @sU_abs (decide (A < 0)) _ m0
    omega
  · have e := @sU_abs (!(decide (A < 0) == decide (B < 0))) _ q0
    rw [Int.natAbs_mul]
    have : ((((sU (!(decide (A < 0) == decide (B < 0))) ((A.natAbs : Int) / (B.natAbs : Int))).natAbs * B.natAbs : Nat)) : Int) ≤ (A.natAbs : Int) := by rw [Int.natCast_mul, e, Int.mul_comm]; omega
    omega
  · intro h0
    generalize (A.natAbs : Int) % (B.natAbs : Int) = r at h0 m0 ⊢
    by_cases hA : A < 0
    · have e : sU (decide (A < 0)) r = -r := by unfold sU; simp [hA]
      rw [e] at h0 ⊢
      exact ⟨fun _ => hA, fun _ => by omega⟩
    · have e : sU (decide (A < 0)) r = r := by unfold sU; simp [hA]
      rw [e] at h0 ⊢
      exact ⟨fun _ => by omega, fun h => absurd h hA⟩
theorem pd_two {da db : BD} {d : QD} (h : AnsD (pD da db) (qD da db) (rD da db) d true) {dm ds : BD} {okm oks : Bool} (k : Ans (goodB d.num.g d.num.xs && goodB db.g db.xs) (sv d.num.g d.num.xs * sv db.g db.xs) dm.g dm.xs okm) (l : Ans (goodB dm.g dm.xs && goodB d.den.g d.den.xs) (sv dm.g dm.xs + sv d.den.g d.den.xs) ds.g ds.xs oks) : okm = true ∧ oks = true ∧ ds = da := by
  obtain ⟨A, B, Q, R, t⟩ := two_of h
  rw [t.fq.sve, t.fb.sve] at k
  obtain ⟨k1, fm⟩ := ans_le k (by rw [t.fq.good, t.fb.good]; rfl) t.fa t.part
  rw [fm.sve, t.fr.sve, t.sum] at l
  obtain ⟨l1, l2⟩ := ans_fits l (by rw [fm.good, t.fr.good]; rfl) t.fa
  exact ⟨k1, l1, l2⟩
theorem Fm.abs {d : BD} {V : Int} (h : Fm d V) : Fm ⟨false, d.xs⟩ (V.natAbs : Int) := ⟨(decide_eq_false (by omega)).symm, by rw [Int.natAbs_natCast]; exact h.nm, h.len⟩
theorem pd_cmp {da db : BD} {d : QD} (h : AnsD (pD da db) (qD da db) (rD da db) d true) : cmpOk false d.den.xs false db.xs = true ∧ cmpV false d.den.xs false db.xs < 0 := by
  obtain ⟨A, B, Q, R, t⟩ := two_of h
  have e : cmpOk false d.den.xs false db.xs = true := by
    unfold cmpOk
    have h1 : goodB false d.den.xs = true := t.fr.abs.good
    have h2 : goodB false db.xs = true := t.fb.abs.good
    rw [h1, h2]; rfl
  refine ⟨e, ?_⟩
  unfold cmpV
  rw [if_pos e]
  unfold cmpB
  rw [if_pos rfl, if_neg (by simp)]
  refine (cmpL_val t.fr.nm.ok t.fb.nm.ok t.fr.nm.tr t.fb.nm.tr).1.2 ?_
  rw [t.fr.val, t.fb.val]
  have := t.small
  omega
theorem pd_sign {da db : BD} {d : QD} (h : AnsD (pD da db) (qD da db) (rD da db) d true) (h0 : d.den.xs.length ≠ 0) : d.den.g = da.g := by
  obtain ⟨A, B, Q, R, t⟩ := two_of h
  have hR : R ≠ 0 := fun e => h0 (t.fr.zero.2 e)
  rw [t.fr.sg, t.fa.sg]
  have := t.sign hR
  simp only [this]
theorem pd_gcd1 {da dg : BD} {G : Int} (ha : goodB da.g da.xs = true) (hg : Fm dg G) (hG : G ≠ 0) (hd : (sv da.g da.xs).natAbs % G.natAbs = 0) {d : QD} {ok : Bool} (k : AnsD (pD da dg) (qD da dg) (rD da dg) d ok) : ok = true ∧ d.den.xs.length = 0 := by
  have fa := Fm.of ha
  obtain ⟨q1, q2, q3⟩ := ansD_fm k (pD_of fa hg hG)
  refine ⟨q1, q3.zero.2 ?_⟩
  unfold rD
  rw [fa.val, hg.val]
  have e : (((sv da.g da.xs).natAbs : Int)) % (G.natAbs : Int) = 0 := by rw [← Int.natCast_emod, hd]; rfl
  rw [e]
  unfold sU
  split <;> rfl
theorem pd_gcd {da db dg : BD} (h : Ans (goodB da.g da.xs && goodB db.g db.xs) ((Nat.gcd (val da.xs).toNat (val db.xs).toNat : Nat) : Int) dg.g dg.xs true) (h0 : dg.xs.length ≠ 0) {d d' : QD} {ok ok' : Bool} (k : AnsD (pD da dg) (qD da dg) (rD da dg) d ok) (k' : AnsD (pD db dg) (qD db dg) (rD db dg) d' ok') : (ok = true ∧ d.den.xs.length = 0) ∧ (ok' = true ∧ d'.den.xs.length = 0) ∧ dg.g = false := by
  obtain ⟨hP, hg⟩ := ans_yes h
  have hh := (Bool.and_eq_true _ _).mp hP
  have hG : ((Nat.gcd (val da.xs).toNat (val db.xs).toNat : Nat) : Int) ≠ 0 := fun e => h0 (hg.zero.2 e)
  refine ⟨pd_gcd1 hh.1 hg hG ?_ k, pd_gcd1 hh.2 hg hG ?_ k', ?_⟩
  · have e := (Fm.of hh.1).val
    rw [Int.natAbs_natCast, e, Int.toNat_natCast]
    exact Nat.mod_eq_zero_of_dvd (Nat.gcd_dvd_left _ _)
  · have e := (Fm.of hh.2).val
    rw [Int.natAbs_natCast, e, Int.toNat_natCast]
    exact Nat.mod_eq_zero_of_dvd (Nat.gcd_dvd_right _ _)
  · rw [hg.sg]
    exact decide_eq_false (by omega)
end Go.Proofs.YtdgonpbponnnaaaGreatDoor
