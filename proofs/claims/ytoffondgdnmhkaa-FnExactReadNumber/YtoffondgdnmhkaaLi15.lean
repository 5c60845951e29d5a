/- l15Int: a number of at most four digits read from a place on. No condition beyond those typed. -/
import Derived.Test.YtoffondgdnmhkaaNv15
namespace Go.Proofs.Ytoffondgdnmhkaa
open Go.RowKit
set_option linter.unusedVariables false
set_option maxRecDepth 100000
set_option linter.unusedSimpArgs false

def isD (c : UInt8) : Bool := decide (48 ≤ c.toNat) && decide (c.toNat ≤ 57)
/-- The digits at the beginning, four at most. -/
def dgs (l : List UInt8) : List UInt8 := (l.take 4).takeWhile isD
theorem dgs_end {l : List UInt8} {j : Nat} (hj : j ≤ 4) (hl : j ≤ l.length) (hd : (l.take j).all isD = true) (he : j = 4 ∨ j = l.length ∨ ∃ h : j < l.length, isD l[j] = false) : dgs l = l.take j := by
  unfold dgs
  have e : l.take 4 = l.take j ++ (l.drop j).take (4 - j) := by
    rw [show l.take 4 = l.take (j + (4 - j)) by rw [show j + (4 - j) = 4 by omega], List.take_add]
  rw [e, List.takeWhile_append_of_pos (fun x hx => List.all_eq_true.1 hd x hx)]
  have r : ((l.drop j).take (4 - j)).takeWhile isD = [] := by
    rcases he with rfl | rfl | ⟨h, hn⟩
    · simp
    · simp
    · rw [List.drop_eq_getElem_cons h]
      match h4 : 4 - j with
      | 0 => simp
      | m + 1 => rw [List.take_succ_cons, List.takeWhile_cons, hn]; rfl
  rw [r, List.append_nil]
theorem dgs_all (l : List UInt8) : (dgs l).all isD = true := by
  unfold dgs
  exact List.all_takeWhile
theorem dgs_len (l : List UInt8) : (dgs l).length ≤ 4 := by
  unfold dgs
  have := (List.takeWhile_sublist isD (l := l.take 4)).length_le
  simp at this; omega
theorem dgs_pre (l : List UInt8) : l = dgs l ++ l.drop (dgs l).length := by
  have h : dgs l <+: l := (List.takeWhile_prefix isD).trans (List.take_prefix 4 l)
  exact (List.prefix_iff_eq_append.1 h).symm
/-- .. of a number's text with no digit behind it. -/
theorem dgs_of {l d r : List UInt8} (h : l = d ++ r) (hd : d.all isD = true) (h4 : d.length ≤ 4) (hr : ∀ c t, r = c :: t → isD c = false) : dgs l = d := by
  have := dgs_end (l := l) (j := d.length) h4 (by rw [h]; simp) (by rw [h]; simpa using hd) (by
    by_cases e : r = []
    · exact .inr (.inl (by rw [h, e]; simp))
    · obtain ⟨c, t, ht⟩ := List.exists_cons_of_ne_nil e
      refine .inr (.inr ⟨by rw [h, ht]; simp, ?_⟩)
      have : l[d.length]'(by rw [h, ht]; simp) = c := by subst h; subst ht; simp
      rw [this]; exact hr c t ht)
  rw [this, h]; simp
theorem dd_digits (v : Nat) : (Lib.decDigits v).all isD = true := by
  suffices h : ∀ k v, v < 10 ^ (k + 1) → (Lib.decDigits v).all isD = true from h v v (Nat.lt_of_lt_of_le (Nat.lt_pow_self (by decide)) (Nat.pow_le_pow_right (by decide) (Nat.le_succ v)))
  have one : ∀ d, d < 10 → isD (UInt8.ofNat (48 + d)) = true := fun d hd => by unfold isD; rw [u8_to hd]; simp; omega
  intro k
  induction k with
  | zero => intro v h; rw [Lib.decDigits_one (by simpa using h), List.all_cons, one v (by simpa using h)]; rfl
  | succ k ih =>
    intro v h
    by_cases c : v < 10
    · rw [Lib.decDigits_one c, List.all_cons, one v c]; rfl
    · rw [dd_step (n := v / 10) (d := v % 10) (by omega) (by omega) (by omega), List.all_append, ih (v / 10) (by rw [Nat.div_lt_iff_lt_mul (by omega)]; rw [Nat.pow_succ] at h; exact h)]
      rw [List.all_cons, one (v % 10) (by omega)]; rfl
/-- What l15Int tells: the number, and the place behind. -/
def liV (l : List UInt8) : Int := match numV 9999 (dgs l) with | none => -1 | some v => (v : Int)
def liK (l : List UInt8) : Nat := match numV 9999 (dgs l) with | none => 0 | some _ => (dgs l).length
theorem numV_nv {l : List UInt8} {n most : Nat} (h : nv most 0 l = some n) (c : UInt8) (t : List UInt8) (hl : l = c :: t) : numV most l = if c = 48 ∧ t ≠ [] then none else some n := by
  subst hl
  simp only [numV]
  rw [h]
set_option maxHeartbeats 8000000 in
theorem liS (s : ByteArray) (at_ : Nat) (w : World) (ha : at_ ≤ s.size) (hs : s.size ≤ 1048576) :
    Calls Try.prog 18 #[.string s, .int .i64 (at_ : Int)] w fun e w' => e = .returned (.tuple #[.int .i64 (liV (s.data.toList.drop at_)), .int .i64 ((at_ + liK (s.data.toList.drop at_) : Nat) : Int)]) ∧ Below w.heap.size w w' := by
  obtain ⟨bs, hbs⟩ : ∃ bs, bs = s.data.toList := ⟨_, rfl⟩
  have hl : bs.length = s.size := by rw [hbs, size_list]
  have IX : Hid (∀ i (h : i < s.size), ∃ h2 : i < bs.length, s[i]'h = bs[i]) := hide (fun i h => ⟨by omega, by subst hbs; rfl⟩)
  rw [← hbs]
  have HL := hide hl
  clear hbs hl
  have wa : IntKind.i64.wrap ((at_ : Int) + 4) = (at_ : Int) + 4 := by rw [IntKind.wrap_i64]; omega
  have wa1 : IntKind.i64.wrap ((at_ : Int) + 1) = (at_ : Int) + 1 := by rw [IntKind.wrap_i64]; omega
  go_enter Try.func18, Try.ntmps18
  go_wp2
  go_loopw [6, 7] (fun nvl kv wr => ∃ (j n k : Nat), j ≤ 4 ∧ k ≤ s.size ∧ kv = .int .i64 (k : Int) ∧ nvl = .int .i64 (n : Int) ∧ n < 10 ^ j ∧ Hid (k = at_ + j) ∧ Hid (((bs.drop at_).take j).all isD = true) ∧ Hid (nv 9999 0 ((bs.drop at_).take j) = some n) ∧ Hid (Below w.heap.size w wr)) (fun _ kv _ => s.size - (intOf kv).toNat)
  case atStart => exact ⟨0, 0, at_, by omega, ha, rfl, rfl, by decide, hide rfl, hide (by simp), hide (by simp [nv]), hide (Below.refl _ _)⟩
  case round =>
    obtain ⟨j, n, k, hj, hk, rfl, rfl, nb, EK, AD, EN, HB⟩ := hrel
    have nb4 : n < 10000 := Nat.lt_of_lt_of_le nb (show 10 ^ j ≤ 10 ^ 4 from Nat.pow_le_pow_right (by decide) hj)
    by_cases go : (k < s.size ∧ j < 4) ∧ ∃ h : k < bs.length, isD bs[k] = true
    · obtain ⟨⟨g1, g2⟩, g3, g4⟩ := go
      obtain ⟨_, e0⟩ := unhide IX k g1
      obtain ⟨c, hc⟩ : ∃ c, c = bs[k] := ⟨_, rfl⟩
      rw [← hc] at e0 g4
      have dl := (Bool.and_eq_true _ _).mp g4
      have d1 := of_decide_eq_true dl.1
      have d2 := of_decide_eq_true dl.2
      obtain ⟨d, hd⟩ : ∃ d : Nat, c.toNat = 48 + d := ⟨c.toNat - 48, by omega⟩
      have hdj : j < (bs.drop at_).length := by have := unhide EK; rw [List.length_drop]; omega
      have ce : (bs.drop at_)[j] = c := by have := unhide EK; rw [hc, List.getElem_drop]; congr 1; omega
      have TK : (bs.drop at_).take (j + 1) = (bs.drop at_).take j ++ [c] := by rw [← ce]; exact (List.take_append_getElem hdj).symm
      have AD2 : Hid (((bs.drop at_).take (j + 1)).all isD = true) := hide (by rw [TK, List.all_append, unhide AD]; simp [g4])
      have p10 : 10 * n + d < 10 ^ (j + 1) := by rw [Nat.pow_succ]; omega
      have EN2 : Hid (nv 9999 0 ((bs.drop at_).take (j + 1)) = some (10 * n + d)) := hide (by
        have p4 : 10 ^ (j + 1) ≤ 10 ^ 4 := Nat.pow_le_pow_right (by decide) (by omega)
        rw [TK, nv_snoc, unhide EN]
        simp only [nv, Option.bind_some]
        rw [if_neg (by omega), if_neg (by omega)]
        congr 1; omega)
      have EK2 : Hid (k + 1 = at_ + (j + 1)) := hide (by have := unhide EK; omega)
      have a1 : (k : Int) < (s.size : Int) := by omega
      have a2 : (k : Int) < (at_ : Int) + 4 := by have := unhide EK; omega
      have a3 : (48 : Int) ≤ (c.toNat : Int) := by omega
      have a4 : (c.toNat : Int) ≤ 57 := by omega
      have b1 : decide ((k : Int) < (s.size : Int)) = true := decide_eq_true a1
      have b2 : decide ((k : Int) < (at_ : Int) + 4) = true := decide_eq_true a2
      have b3 : decide ((48 : Int) ≤ (c.toNat : Int)) = true := decide_eq_true a3
      have b4 : decide ((c.toNat : Int) ≤ 57) = true := decide_eq_true a4
      have w1 : IntKind.u8.wrap ((c.toNat : Int) - 48) = (d : Int) := by rw [IntKind.wrap_u8]; omega
      have w2 : IntKind.i64.wrap (d : Int) = (d : Int) := by rw [IntKind.wrap_i64]; omega
      have w3 : IntKind.i64.wrap (10 * (n : Int)) = 10 * (n : Int) := by rw [IntKind.wrap_i64]; omega
      have w4 : IntKind.i64.wrap (10 * (n : Int) + (d : Int)) = 10 * (n : Int) + (d : Int) := by rw [IntKind.wrap_i64]; omega
      have w5 : IntKind.i64.wrap ((k : Int) + 1) = (k : Int) + 1 := by rw [IntKind.wrap_i64]; omega
      clear hc dl d1 d2 g4 ce TK hdj AD EN EK hd nb
      go_wp2
      go_roundw
      case rel => exact ⟨j + 1, 10 * n + d, k + 1, by omega, by omega, by simp, by simp, p10, EK2, AD2, EN2, HB⟩
      case measure => simp [intOf]; omega
    · have DE : Hid (dgs (bs.drop at_) = (bs.drop at_).take j) := hide (dgs_end hj (by have := unhide EK; have := unhide HL; rw [List.length_drop]; omega) (unhide AD) (by
        by_cases x1 : j = 4
        · exact .inl x1
        · by_cases x2 : k < s.size
          · have x3 : k < bs.length := by have := unhide HL; omega
            refine .inr (.inr ⟨by have := unhide EK; rw [List.length_drop]; omega, ?_⟩)
            have ce : (bs.drop at_)[j]'(by have := unhide EK; rw [List.length_drop]; omega) = bs[k] := by have := unhide EK; rw [List.getElem_drop]; congr 1; omega
            rw [ce]
            cases z : isD bs[k]
            · rfl
            · exact absurd ⟨⟨x2, by omega⟩, x3, z⟩ go
          · exact .inr (.inl (by have := unhide EK; have := unhide HL; rw [List.length_drop]; omega))))
      by_cases g1 : k < s.size
      · obtain ⟨_, e0⟩ := unhide IX k g1
        obtain ⟨c, hc⟩ : ∃ c, c = bs[k] := ⟨_, rfl⟩
        rw [← hc] at e0
        have x3 : k < bs.length := by have := unhide HL; omega
        have a1 : (k : Int) < (s.size : Int) := by omega
        have b1 : decide ((k : Int) < (s.size : Int)) = true := decide_eq_true a1
        by_cases g2 : j < 4
        · have a2 : (k : Int) < (at_ : Int) + 4 := by have := unhide EK; omega
          have b2 : decide ((k : Int) < (at_ : Int) + 4) = true := decide_eq_true a2
          have nd : isD c = false := by
            cases z : isD c
            · rfl
            · exact absurd ⟨⟨g1, g2⟩, x3, by rw [← hc]; exact z⟩ go
          by_cases g3 : 48 ≤ c.toNat
          · have a3 : (48 : Int) ≤ (c.toNat : Int) := by omega
            have b3 : decide ((48 : Int) ≤ (c.toNat : Int)) = true := decide_eq_true a3
            have a4 : ¬ ((c.toNat : Int) ≤ 57) := by
              intro z
              have : isD c = true := by unfold isD; rw [decide_eq_true g3, decide_eq_true (show c.toNat ≤ 57 by omega)]; rfl
              rw [this] at nd; cases nd
            have b4 : decide ((c.toNat : Int) ≤ 57) = false := decide_eq_false a4
            clear nd go hc
            by_cases j0 : j = 0
            · have ek : k = at_ := by have := unhide EK; omega
              have b5 : ((k : Int) == (at_ : Int)) = true := by rw [ek]; simp
              have EV : Hid (liV (bs.drop at_) = -1 ∧ liK (bs.drop at_) = 0) := hide (by
                have : dgs (bs.drop at_) = [] := by rw [unhide DE, j0]; simp
                unfold liV liK; rw [this]; exact ⟨rfl, rfl⟩)
              replace ek := hide ek
              clear EK AD EN nb DE j0
              go_wp2
              go_ret2
              exact ⟨by rw [(unhide EV).1, (unhide EV).2]; rfl, unhide HB⟩
            · have b5 : ((k : Int) == (at_ : Int)) = false := by rw [beq_eq_false_iff_ne]; have := unhide EK; omega
              have hla : at_ < bs.length := by have := unhide EK; have := unhide HL; omega
              have hpa : at_ < s.size := by have := unhide HL; omega
              obtain ⟨_, i0⟩ := unhide IX at_ hpa
              obtain ⟨c0, hc0⟩ : ∃ c, c = bs[at_] := ⟨_, rfl⟩
              rw [← hc0] at i0
              have DC : (bs.drop at_).take j = c0 :: ((bs.drop at_).take j).drop 1 := by
                obtain ⟨j', rfl⟩ : ∃ j', j = j' + 1 := ⟨j - 1, by omega⟩
                rw [hc0, List.drop_eq_getElem_cons hla, List.take_succ_cons]
                rfl
              have NV := numV_nv (unhide EN) c0 _ DC
              have tl : (((bs.drop at_).take j).drop 1 ≠ []) ↔ 1 < j := by
                rw [← List.length_pos_iff]
                have := unhide EK
                have := unhide HL
                simp only [List.length_drop, List.length_take]
                omega
              by_cases bad : c0 = 48 ∧ 1 < j
              · rw [if_pos ⟨bad.1, tl.2 bad.2⟩] at NV
                have EV : Hid (liV (bs.drop at_) = -1 ∧ liK (bs.drop at_) = 0) := hide (by unfold liV liK; rw [unhide DE, NV]; exact ⟨rfl, rfl⟩)
                rw [bad.1] at i0
                have b6 : (at_ : Int) + 1 < (k : Int) := by have := unhide EK; have := bad.2; omega
                have b6' : decide ((at_ : Int) + 1 < (k : Int)) = true := decide_eq_true b6
                clear EK AD EN nb DE j0 hc0 DC NV tl bad hla
                go_wp2
                go_ret2
                exact ⟨by rw [(unhide EV).1, (unhide EV).2]; rfl, unhide HB⟩
              · rw [if_neg (fun q => bad ⟨q.1, tl.1 q.2⟩)] at NV
                have EV : Hid (liV (bs.drop at_) = (n : Int) ∧ at_ + liK (bs.drop at_) = k) := hide (by
                  unfold liV liK; rw [unhide DE, NV]
                  refine ⟨rfl, ?_⟩
                  have := unhide EK
                  have := unhide HL
                  simp only [List.length_take, List.length_drop]
                  omega)
                by_cases q : c0 = 48
                · rw [q] at i0
                  have b6 : ¬ ((at_ : Int) + 1 < (k : Int)) := by have := unhide EK; have : ¬ (1 < j) := fun z => bad ⟨q, z⟩; omega
                  have b6' : decide ((at_ : Int) + 1 < (k : Int)) = false := decide_eq_false b6
                  clear EK AD EN nb DE j0 hc0 DC NV tl bad hla q
                  go_wp2
                  go_ret2
                  exact ⟨by rw [(unhide EV).1]; first | (rw [(unhide EV).2]; rfl) | (rw [show ((at_ : Int) + (liK (bs.drop at_) : Int)) = (k : Int) from by have := (unhide EV).2; omega]; rfl), unhide HB⟩
                · have g48 : ¬ ((c0.toNat : Int) = 48) := fun z => q (by have := u8_of (c := c0) (k := 48) (by omega) (by omega); rw [this]; rfl)
                  have g48' : ((c0.toNat : Int) == 48) = false := beq_eq_false_iff_ne.2 g48
                  clear EK AD EN nb DE j0 hc0 DC NV tl bad hla q
                  go_wp2
                  go_ret2
                  exact ⟨by rw [(unhide EV).1]; first | (rw [(unhide EV).2]; rfl) | (rw [show ((at_ : Int) + (liK (bs.drop at_) : Int)) = (k : Int) from by have := (unhide EV).2; omega]; rfl), unhide HB⟩
          · have a3 : ¬ ((48 : Int) ≤ (c.toNat : Int)) := by omega
            have b3 : decide ((48 : Int) ≤ (c.toNat : Int)) = false := decide_eq_false a3
            clear nd go hc
            by_cases j0 : j = 0
            · have ek : k = at_ := by have := unhide EK; omega
              have b5 : ((k : Int) == (at_ : Int)) = true := by rw [ek]; simp
              have EV : Hid (liV (bs.drop at_) = -1 ∧ liK (bs.drop at_) = 0) := hide (by
                have : dgs (bs.drop at_) = [] := by rw [unhide DE, j0]; simp
                unfold liV liK; rw [this]; exact ⟨rfl, rfl⟩)
              replace ek := hide ek
              clear EK AD EN nb DE j0
              go_wp2
              go_ret2
              exact ⟨by rw [(unhide EV).1, (unhide EV).2]; rfl, unhide HB⟩
            · have b5 : ((k : Int) == (at_ : Int)) = false := by rw [beq_eq_false_iff_ne]; have := unhide EK; omega
              have hla : at_ < bs.length := by have := unhide EK; have := unhide HL; omega
              have hpa : at_ < s.size := by have := unhide HL; omega
              obtain ⟨_, i0⟩ := unhide IX at_ hpa
              obtain ⟨c0, hc0⟩ : ∃ c, c = bs[at_] := ⟨_, rfl⟩
              rw [← hc0] at i0
              have DC : (bs.drop at_).take j = c0 :: ((bs.drop at_).take j).drop 1 := by
                obtain ⟨j', rfl⟩ : ∃ j', j = j' + 1 := ⟨j - 1, by omega⟩
                rw [hc0, List.drop_eq_getElem_cons hla, List.take_succ_cons]
                rfl
              have NV := numV_nv (unhide EN) c0 _ DC
              have tl : (((bs.drop at_).take j).drop 1 ≠ []) ↔ 1 < j := by
                rw [← List.length_pos_iff]
                have := unhide EK
                have := unhide HL
                simp only [List.length_drop, List.length_take]
                omega
              by_cases bad : c0 = 48 ∧ 1 < j
              · rw [if_pos ⟨bad.1, tl.2 bad.2⟩] at NV
                have EV : Hid (liV (bs.drop at_) = -1 ∧ liK (bs.drop at_) = 0) := hide (by unfold liV liK; rw [unhide DE, NV]; exact ⟨rfl, rfl⟩)
                rw [bad.1] at i0
                have b6 : (at_ : Int) + 1 < (k : Int) := by have := unhide EK; have := bad.2; omega
                have b6' : decide ((at_ : Int) + 1 < (k : Int)) = true := decide_eq_true b6
                clear EK AD EN nb DE j0 hc0 DC NV tl bad hla
                go_wp2
                go_ret2
                exact ⟨by rw [(unhide EV).1, (unhide EV).2]; rfl, unhide HB⟩
              · rw [if_neg (fun q => bad ⟨q.1, tl.1 q.2⟩)] at NV
                have EV : Hid (liV (bs.drop at_) = (n : Int) ∧ at_ + liK (bs.drop at_) = k) := hide (by
                  unfold liV liK; rw [unhide DE, NV]
                  refine ⟨rfl, ?_⟩
                  have := unhide EK
                  have := unhide HL
                  simp only [List.length_take, List.length_drop]
                  omega)
                by_cases q : c0 = 48
                · rw [q] at i0
                  have b6 : ¬ ((at_ : Int) + 1 < (k : Int)) := by have := unhide EK; have : ¬ (1 < j) := fun z => bad ⟨q, z⟩; omega
                  have b6' : decide ((at_ : Int) + 1 < (k : Int)) = false := decide_eq_false b6
                  clear EK AD EN nb DE j0 hc0 DC NV tl bad hla q
                  go_wp2
                  go_ret2
                  exact ⟨by rw [(unhide EV).1]; first | (rw [(unhide EV).2]; rfl) | (rw [show ((at_ : Int) + (liK (bs.drop at_) : Int)) = (k : Int) from by have := (unhide EV).2; omega]; rfl), unhide HB⟩
                · have g48 : ¬ ((c0.toNat : Int) = 48) := fun z => q (by have := u8_of (c := c0) (k := 48) (by omega) (by omega); rw [this]; rfl)
                  have g48' : ((c0.toNat : Int) == 48) = false := beq_eq_false_iff_ne.2 g48
                  clear EK AD EN nb DE j0 hc0 DC NV tl bad hla q
                  go_wp2
                  go_ret2
                  exact ⟨by rw [(unhide EV).1]; first | (rw [(unhide EV).2]; rfl) | (rw [show ((at_ : Int) + (liK (bs.drop at_) : Int)) = (k : Int) from by have := (unhide EV).2; omega]; rfl), unhide HB⟩
        · have a2 : ¬ ((k : Int) < (at_ : Int) + 4) := by have := unhide EK; omega
          have b2 : decide ((k : Int) < (at_ : Int) + 4) = false := decide_eq_false a2
          clear go hc
          by_cases j0 : j = 0
          · have ek : k = at_ := by have := unhide EK; omega
            have b5 : ((k : Int) == (at_ : Int)) = true := by rw [ek]; simp
            have EV : Hid (liV (bs.drop at_) = -1 ∧ liK (bs.drop at_) = 0) := hide (by
              have : dgs (bs.drop at_) = [] := by rw [unhide DE, j0]; simp
              unfold liV liK; rw [this]; exact ⟨rfl, rfl⟩)
            replace ek := hide ek
            clear EK AD EN nb DE j0
            go_wp2
            go_ret2
            exact ⟨by rw [(unhide EV).1, (unhide EV).2]; rfl, unhide HB⟩
          · have b5 : ((k : Int) == (at_ : Int)) = false := by rw [beq_eq_false_iff_ne]; have := unhide EK; omega
            have hla : at_ < bs.length := by have := unhide EK; have := unhide HL; omega
            have hpa : at_ < s.size := by have := unhide HL; omega
            obtain ⟨_, i0⟩ := unhide IX at_ hpa
            obtain ⟨c0, hc0⟩ : ∃ c, c = bs[at_] := ⟨_, rfl⟩
            rw [← hc0] at i0
            have DC : (bs.drop at_).take j = c0 :: ((bs.drop at_).take j).drop 1 := by
              obtain ⟨j', rfl⟩ : ∃ j', j = j' + 1 := ⟨j - 1, by omega⟩
              rw [hc0, List.drop_eq_getElem_cons hla, List.take_succ_cons]
              rfl
            have NV := numV_nv (unhide EN) c0 _ DC
            have tl : (((bs.drop at_).take j).drop 1 ≠ []) ↔ 1 < j := by
              rw [← List.length_pos_iff]
              have := unhide EK
              have := unhide HL
              simp only [List.length_drop, List.length_take]
              omega
            by_cases bad : c0 = 48 ∧ 1 < j
            · rw [if_pos ⟨bad.1, tl.2 bad.2⟩] at NV
              have EV : Hid (liV (bs.drop at_) = -1 ∧ liK (bs.drop at_) = 0) := hide (by unfold liV liK; rw [unhide DE, NV]; exact ⟨rfl, rfl⟩)
              rw [bad.1] at i0
              have b6 : (at_ : Int) + 1 < (k : Int) := by have := unhide EK; have := bad.2; omega
              have b6' : decide ((at_ : Int) + 1 < (k : Int)) = true := decide_eq_true b6
              clear EK AD EN nb DE j0 hc0 DC NV tl bad hla
              go_wp2
              go_ret2
              exact ⟨by rw [(unhide EV).1, (unhide EV).2]; rfl, unhide HB⟩
            · rw [if_neg (fun q => bad ⟨q.1, tl.1 q.2⟩)] at NV
              have EV : Hid (liV (bs.drop at_) = (n : Int) ∧ at_ + liK (bs.drop at_) = k) := hide (by
                unfold liV liK; rw [unhide DE, NV]
                refine ⟨rfl, ?_⟩
                have := unhide EK
                have := unhide HL
                simp only [List.length_take, List.length_drop]
                omega)
              by_cases q : c0 = 48
              · rw [q] at i0
                have b6 : ¬ ((at_ : Int) + 1 < (k : Int)) := by have := unhide EK; have : ¬ (1 < j) := fun z => bad ⟨q, z⟩; omega
                have b6' : decide ((at_ : Int) + 1 < (k : Int)) = false := decide_eq_false b6
                clear EK AD EN nb DE j0 hc0 DC NV tl bad hla q
                go_wp2
                go_ret2
                exact ⟨by rw [(unhide EV).1]; first | (rw [(unhide EV).2]; rfl) | (rw [show ((at_ : Int) + (liK (bs.drop at_) : Int)) = (k : Int) from by have := (unhide EV).2; omega]; rfl), unhide HB⟩
              · have g48 : ¬ ((c0.toNat : Int) = 48) := fun z => q (by have := u8_of (c := c0) (k := 48) (by omega) (by omega); rw [this]; rfl)
                have g48' : ((c0.toNat : Int) == 48) = false := beq_eq_false_iff_ne.2 g48
                clear EK AD EN nb DE j0 hc0 DC NV tl bad hla q
                go_wp2
                go_ret2
                exact ⟨by rw [(unhide EV).1]; first | (rw [(unhide EV).2]; rfl) | (rw [show ((at_ : Int) + (liK (bs.drop at_) : Int)) = (k : Int) from by have := (unhide EV).2; omega]; rfl), unhide HB⟩
      · have a1 : ¬ ((k : Int) < (s.size : Int)) := by omega
        have b1 : decide ((k : Int) < (s.size : Int)) = false := decide_eq_false a1
        clear go
        by_cases j0 : j = 0
        · have ek : k = at_ := by have := unhide EK; omega
          have b5 : ((k : Int) == (at_ : Int)) = true := by rw [ek]; simp
          have EV : Hid (liV (bs.drop at_) = -1 ∧ liK (bs.drop at_) = 0) := hide (by
            have : dgs (bs.drop at_) = [] := by rw [unhide DE, j0]; simp
            unfold liV liK; rw [this]; exact ⟨rfl, rfl⟩)
          replace ek := hide ek
          clear EK AD EN nb DE j0
          go_wp2
          go_ret2
          exact ⟨by rw [(unhide EV).1, (unhide EV).2]; rfl, unhide HB⟩
        · have b5 : ((k : Int) == (at_ : Int)) = false := by rw [beq_eq_false_iff_ne]; have := unhide EK; omega
          have hla : at_ < bs.length := by have := unhide EK; have := unhide HL; omega
          have hpa : at_ < s.size := by have := unhide HL; omega
          obtain ⟨_, i0⟩ := unhide IX at_ hpa
          obtain ⟨c0, hc0⟩ : ∃ c, c = bs[at_] := ⟨_, rfl⟩
          rw [← hc0] at i0
          have DC : (bs.drop at_).take j = c0 :: ((bs.drop at_).take j).drop 1 := by
            obtain ⟨j', rfl⟩ : ∃ j', j = j' + 1 := ⟨j - 1, by omega⟩
            rw [hc0, List.drop_eq_getElem_cons hla, List.take_succ_cons]
            rfl
          have NV := numV_nv (unhide EN) c0 _ DC
          have tl : (((bs.drop at_).take j).drop 1 ≠ []) ↔ 1 < j := by
            rw [← List.length_pos_iff]
            have := unhide EK
            have := unhide HL
            simp only [List.length_drop, List.length_take]
            omega
          by_cases bad : c0 = 48 ∧ 1 < j
          · rw [if_pos ⟨bad.1, tl.2 bad.2⟩] at NV
            have EV : Hid (liV (bs.drop at_) = -1 ∧ liK (bs.drop at_) = 0) := hide (by unfold liV liK; rw [unhide DE, NV]; exact ⟨rfl, rfl⟩)
            rw [bad.1] at i0
            have b6 : (at_ : Int) + 1 < (k : Int) := by have := unhide EK; have := bad.2; omega
            have b6' : decide ((at_ : Int) + 1 < (k : Int)) = true := decide_eq_true b6
            clear EK AD EN nb DE j0 hc0 DC NV tl bad hla
            go_wp2
            go_ret2
            exact ⟨by rw [(unhide EV).1, (unhide EV).2]; rfl, unhide HB⟩
          · rw [if_neg (fun q => bad ⟨q.1, tl.1 q.2⟩)] at NV
            have EV : Hid (liV (bs.drop at_) = (n : Int) ∧ at_ + liK (bs.drop at_) = k) := hide (by
              unfold liV liK; rw [unhide DE, NV]
              refine ⟨rfl, ?_⟩
              have := unhide EK
              have := unhide HL
              simp only [List.length_take, List.length_drop]
              omega)
            by_cases q : c0 = 48
            · rw [q] at i0
              have b6 : ¬ ((at_ : Int) + 1 < (k : Int)) := by have := unhide EK; have : ¬ (1 < j) := fun z => bad ⟨q, z⟩; omega
              have b6' : decide ((at_ : Int) + 1 < (k : Int)) = false := decide_eq_false b6
              clear EK AD EN nb DE j0 hc0 DC NV tl bad hla q
              go_wp2
              go_ret2
              exact ⟨by rw [(unhide EV).1]; first | (rw [(unhide EV).2]; rfl) | (rw [show ((at_ : Int) + (liK (bs.drop at_) : Int)) = (k : Int) from by have := (unhide EV).2; omega]; rfl), unhide HB⟩
            · have g48 : ¬ ((c0.toNat : Int) = 48) := fun z => q (by have := u8_of (c := c0) (k := 48) (by omega) (by omega); rw [this]; rfl)
              have g48' : ((c0.toNat : Int) == 48) = false := beq_eq_false_iff_ne.2 g48
              clear EK AD EN nb DE j0 hc0 DC NV tl bad hla q
              go_wp2
              go_ret2
              exact ⟨by rw [(unhide EV).1]; first | (rw [(unhide EV).2]; rfl) | (rw [show ((at_ : Int) + (liK (bs.drop at_) : Int)) = (k : Int) from by have := (unhide EV).2; omega]; rfl), unhide HB⟩
end Go.Proofs.Ytoffondgdnmhkaa
