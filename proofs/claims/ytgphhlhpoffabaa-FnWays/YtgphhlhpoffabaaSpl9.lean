/- SplitWay of the specification. No condition beyond those typed. Written by mksplit9.py. -/
import Derived.Test.YtgphhlhpoffabaaBox9
namespace Go.Proofs.Ytgphhlhpoffabaa
open Go.RowKit
set_option linter.unusedVariables false
set_option maxRecDepth 100000
set_option linter.unusedSimpArgs false

theorem sl_news {w : World} {b off : Nat} {l : List (Int × Int)} (hc : ∀ i (h : i < l.length), w.cell? ⟨b, off + i * 2, none⟩ = some (.int .i64 l[i].1) ∧ w.cell? ⟨b, off + i * 2 + 1, none⟩ = some (.int .i64 l[i].2)) (s m : Nat) (h : s + m ≤ l.length) :
    ∀ j u, (flatP ((l.drop s).take m))[j]? = some u → w.cell? ((⟨b, off + s * 2, none⟩ : Addr).add j) = some u := by
  intro j u hu
  have hl : (flatP ((l.drop s).take m)).length = m * 2 := by
    have : ∀ k : List (Int × Int), (flatP k).length = k.length * 2 := by
      intro k
      induction k with
      | nil => rfl
      | cons p k ih => rw [show flatP (p :: k) = .int .i64 p.1 :: .int .i64 p.2 :: flatP k by simp [flatP]]; simp [ih]; omega
    rw [this]; simp; omega
  have hj : j < m * 2 := by
    rcases Nat.lt_or_ge j (m * 2) with h1 | h1
    · exact h1
    · rw [List.getElem?_eq_none (by omega)] at hu; cases hu
  have hi : j / 2 < ((l.drop s).take m).length := by simp; omega
  have f := flatP_at ((l.drop s).take m) (j / 2) hi
  have e : ((l.drop s).take m)[j / 2] = l[s + j / 2]'(by simp at hi; omega) := by simp
  rw [e] at f
  have k := hc (s + j / 2) (by simp at hi; omega)
  have ea : (⟨b, off + s * 2, none⟩ : Addr).add j = ⟨b, off + s * 2 + j, none⟩ := by
    unfold Addr.add
    split
    · rename_i h0; subst h0; rfl
    · rfl
  rw [ea]
  rcases Nat.mod_two_eq_zero_or_one j with h2 | h2
  · have ej : j = j / 2 * 2 := by omega
    have e1 : off + s * 2 + j = off + (s + j / 2) * 2 := by omega
    rw [ej] at hu
    rw [f.1] at hu
    rw [e1, k.1]
    exact hu
  · have ej : j = j / 2 * 2 + 1 := by omega
    have e1 : off + s * 2 + j = off + (s + j / 2) * 2 + 1 := by omega
    rw [ej] at hu
    rw [f.2] at hu
    rw [e1, k.2]
    exact hu
theorem flat_one (k : List (Int × Int)) : ∀ u ∈ flatP k, u.oneCell' = true := by
  intro u hu
  simp only [flatP, List.mem_flatMap, List.mem_cons, List.not_mem_nil, or_false] at hu
  obtain ⟨p, _, h | h⟩ := hu <;> rw [h] <;> rfl
theorem flat_len (k : List (Int × Int)) : (flatP k).length = k.length * 2 := by
  induction k with
  | nil => rfl
  | cons p k ih => rw [show flatP (p :: k) = .int .i64 p.1 :: .int .i64 p.2 :: flatP k by simp [flatP]]; simp [ih]; omega
theorem grow_below {B : Nat} {W w' w2 : World} {v : Value} (hb : Below B W w') (hB : B ≤ w'.heap.size) (hv : ∀ k, v.ownBlock = some k → B ≤ k) (hg : w'.grownBy w2 v.ownBlock) : Below B W w2 := hb.grown hg hB hv
theorem owns_low {w w' : World} {B B2 g n c size : Nat} {e : TypeId} {M : List Value} (h : w.ownsRow B e size (.slice (some ⟨g, 0, none⟩) n c) n M) (hb : Below B2 w w') (hg : g < B2) : w'.ownsRow B e size (.slice (some ⟨g, 0, none⟩) n c) n M := by
  refine ⟨h.1, ?_⟩
  rcases h.2 with ⟨h', _⟩ | ⟨g', cap, cur, hv, h1, hgg, r⟩
  · simp at h'
  · have e : g' = g := by simp only [Value.slice.injEq, Option.some.injEq, Addr.mk.injEq, and_true, true_and] at hv; exact hv.1.symm
    subst e
    refine .inr ⟨g', cap, cur, hv, h1, ?_, r⟩
    rw [hb.block g' hg]
    exact hgg
theorem own_at (g n c : Nat) : ∀ k, (Value.slice (some ⟨g, 0, none⟩) n c).ownBlock = some k → k = g := by intro k h; simp [Value.ownBlock] at h; exact h.symm
def spB (l : List (Int × Int)) (x y : Int) : Bool := wayB l && (decide (0 ≤ x) && (decide (y < l.length) && (decide (x ≤ y) && (decide (x + 2 ≤ y) && !(x == 0 && y == (l.length : Int) - 1)))))
def sp1 (l : List (Int × Int)) (x y : Int) : List (Int × Int) := if spB l x y then (l.drop x.toNat).take (y.toNat + 1 - x.toNat) else []
def sp2 (l : List (Int × Int)) (x y : Int) : List (Int × Int) := if spB l x y then l.drop y.toNat ++ l.take (x.toNat + 1) else []
theorem sp_no {l : List (Int × Int)} {x y : Int} (h : spB l x y = false) : sp1 l x y = [] ∧ sp2 l x y = [] := by unfold sp1 sp2; rw [h]; exact ⟨rfl, rfl⟩
theorem empty_row (w : World) (B : Nat) (h : B ≤ w.heap.size) : (w.alloc (.cells #[] 25)).ownsRow B 25 2 (.slice (some ⟨w.heap.size, 0, none⟩) 0 0) 0 (flatP []) := by
  refine ⟨rfl, .inr ⟨w.heap.size, 0, #[], rfl, h, ?_, Nat.le_refl _, by unfold maxLen; omega, rfl, by simp [flatP]⟩⟩
  show (w.heap.push _)[w.heap.size]? = _
  simp
set_option maxHeartbeats 8000000 in
theorem SplitWayS (a : Option Addr) (n c : Nat) (l : List (Int × Int)) (x y : Int) (w : World) (h : ArP w a n c l) (h1 : n ≤ 1048576) (hx : -9223372036854775808 ≤ x ∧ x ≤ 9223372036854775807) (hy : -9223372036854775808 ≤ y ∧ y ≤ 9223372036854775807) :
    Calls Try.prog 27 #[.slice a n c, .int .i64 x, .int .i64 y] w fun e w' => ∃ a1 n1 c1 a2 n2 c2, e = .returned (.tuple #[.slice a1 n1 c1, .slice a2 n2 c2, .bool (spB l x y)]) ∧ Below w.heap.size w w' ∧ SlP w' a1 (sp1 l x y) ∧ SlP w' a2 (sp2 l x y) ∧ (sp1 l x y).length = n1 ∧ (sp2 l x y).length = n2 ∧ n1 + n2 ≤ 1048576 := by
  obtain ⟨i0, hi, hz0, hz1, hz2⟩ := info_parts infoPt
  have hn := h.len
  have hcap := h.cap
  have C1 := hide (fun w (k : SlP w a l) => wayS a n c l w k hn (by unfold maxLen; omega))
  have HS := hide h.sl
  clear h
  cases hg : wayB l
  · rw [hg] at C1
    have EB : spB l x y = false := by unfold spB; rw [hg]; rfl
    obtain ⟨E1, E2⟩ := sp_no EB
    rw [E1, E2, EB]
    clear E1 E2 EB
    go_enter Try.func27, Try.ntmps27
    go_wp2_with fail
    refine (unhide C1 _ (unhide HS)).mono ?_
    rintro e w1 ⟨rfl, hb⟩
    go_wp2_with fail
    refine bodyPost_ret (v := .tuple #[.slice none 0 0, .slice none 0 0, .bool false]) (by simp [results, Try.results27, go_sem]) rfl ?_
    exact ⟨none, 0, 0, none, 0, 0, rfl, hb, .inl rfl, .inl rfl, rfl, rfl, by omega⟩
  · rw [hg] at C1
    have ln := (way_parts hg).1
    rw [hn] at ln
    by_cases c0 : x < 0
    · have d0 : decide (x < 0) = true := decide_eq_true c0
      have EB : spB l x y = false := by unfold spB; rw [decide_eq_false (show ¬ 0 ≤ x by omega)]; simp
      obtain ⟨E1, E2⟩ := sp_no EB
      rw [E1, E2, EB]
      clear E1 E2 EB
      go_enter Try.func27, Try.ntmps27
      go_wp2_with fail
      refine (unhide C1 _ (unhide HS)).mono ?_
      rintro e w1 ⟨rfl, hb⟩
      go_wp2_with fail
      refine bodyPost_ret (v := .tuple #[.slice none 0 0, .slice none 0 0, .bool false]) (by simp [results, Try.results27, go_sem]) rfl ?_
      exact ⟨none, 0, 0, none, 0, 0, rfl, hb, .inl rfl, .inl rfl, rfl, rfl, by omega⟩
    · have d0 : decide (x < 0) = false := decide_eq_false c0
      by_cases c1 : (n : Int) ≤ y
      · have d1 : decide ((n : Int) ≤ y) = true := decide_eq_true c1
        have EB : spB l x y = false := by unfold spB; rw [decide_eq_false (show ¬ y < (l.length : Int) by rw [hn]; omega)]; simp
        obtain ⟨E1, E2⟩ := sp_no EB
        rw [E1, E2, EB]
        clear E1 E2 EB
        go_enter Try.func27, Try.ntmps27
        go_wp2_with fail
        refine (unhide C1 _ (unhide HS)).mono ?_
        rintro e w1 ⟨rfl, hb⟩
        go_wp2_with fail
        refine bodyPost_ret (v := .tuple #[.slice none 0 0, .slice none 0 0, .bool false]) (by simp [results, Try.results27, go_sem]) rfl ?_
        exact ⟨none, 0, 0, none, 0, 0, rfl, hb, .inl rfl, .inl rfl, rfl, rfl, by omega⟩
      · have d1 : decide ((n : Int) ≤ y) = false := decide_eq_false c1
        by_cases c2 : y < x
        · have d2 : decide (y < x) = true := decide_eq_true c2
          have EB : spB l x y = false := by unfold spB; rw [decide_eq_false (show ¬ x ≤ y by omega)]; simp
          obtain ⟨E1, E2⟩ := sp_no EB
          rw [E1, E2, EB]
          clear E1 E2 EB
          go_enter Try.func27, Try.ntmps27
          go_wp2_with fail
          refine (unhide C1 _ (unhide HS)).mono ?_
          rintro e w1 ⟨rfl, hb⟩
          go_wp2_with fail
          refine bodyPost_ret (v := .tuple #[.slice none 0 0, .slice none 0 0, .bool false]) (by simp [results, Try.results27, go_sem]) rfl ?_
          exact ⟨none, 0, 0, none, 0, 0, rfl, hb, .inl rfl, .inl rfl, rfl, rfl, by omega⟩
        · have d2 : decide (y < x) = false := decide_eq_false c2
          have wx : IntKind.i64.wrap (x + 2) = x + 2 := by rw [IntKind.wrap_i64]; omega
          by_cases c3 : y < x + 2
          · have d3 : decide (y < x + 2) = true := decide_eq_true c3
            have EB : spB l x y = false := by unfold spB; rw [decide_eq_false (show ¬ x + 2 ≤ y by omega)]; simp
            obtain ⟨E1, E2⟩ := sp_no EB
            rw [E1, E2, EB]
            clear E1 E2 EB
            go_enter Try.func27, Try.ntmps27
            go_wp2_with fail
            refine (unhide C1 _ (unhide HS)).mono ?_
            rintro e w1 ⟨rfl, hb⟩
            go_wp2_with fail
            refine bodyPost_ret (v := .tuple #[.slice none 0 0, .slice none 0 0, .bool false]) (by simp [results, Try.results27, go_sem]) rfl ?_
            exact ⟨none, 0, 0, none, 0, 0, rfl, hb, .inl rfl, .inl rfl, rfl, rfl, by omega⟩
          · have d3 : decide (y < x + 2) = false := decide_eq_false c3
            have wn : IntKind.i64.wrap ((n : Int) - 1) = (n : Int) - 1 := by rw [IntKind.wrap_i64]; omega
            by_cases c4 : x = 0 ∧ y = (n : Int) - 1
            · have q1 : (x == 0) = true := by simp [c4.1]
              have q2 : (y == (n : Int) - 1) = true := by simp [c4.2]
              have EB : spB l x y = false := by unfold spB; rw [hn, q1, q2]; simp
              obtain ⟨E1, E2⟩ := sp_no EB
              rw [E1, E2, EB]
              clear E1 E2 EB
              go_enter Try.func27, Try.ntmps27
              go_wp2_with fail
              refine (unhide C1 _ (unhide HS)).mono ?_
              rintro e w1 ⟨rfl, hb⟩
              go_wp2_with fail
              refine bodyPost_ret (v := .tuple #[.slice none 0 0, .slice none 0 0, .bool false]) (by simp [results, Try.results27, go_sem]) rfl ?_
              exact ⟨none, 0, 0, none, 0, 0, rfl, hb, .inl rfl, .inl rfl, rfl, rfl, by omega⟩
            · skip
              have EB : spB l x y = true := by
                unfold spB
                rw [hg, hn, decide_eq_true (show 0 ≤ x by omega), decide_eq_true (show y < (n : Int) by omega), decide_eq_true (show x ≤ y by omega), decide_eq_true (show x + 2 ≤ y by omega)]
                by_cases e0 : x = 0
                · have : ¬ y = (n : Int) - 1 := fun e => c4 ⟨e0, e⟩
                  simp [e0, this]
                · simp [e0]
              have E1 : sp1 l x y = (l.drop x.toNat).take (y.toNat + 1 - x.toNat) := by unfold sp1; rw [EB]; rfl
              have E2 : sp2 l x y = l.drop y.toNat ++ l.take (x.toNat + 1) := by unfold sp2; rw [EB]; rfl
              have q12 : (x == 0) = false ∨ ((x == 0) = true ∧ (y == (n : Int) - 1) = false) := by
                by_cases e0 : x = 0
                · right; exact ⟨by simp [e0], by have : ¬ y = (n : Int) - 1 := fun e => c4 ⟨e0, e⟩
                                                 simp [this]⟩
                · left; simp [e0]
              have HEB := hide EB
              have HE := hide (And.intro E1 E2)
              have HNN := hide hn
              obtain ⟨A, hA⟩ : ∃ A : Nat, (A : Int) = x := ⟨x.toNat, by omega⟩
              obtain ⟨Y, hY⟩ : ∃ Y : Nat, (Y : Int) = y := ⟨y.toNat, by omega⟩
              have HAY : Hid (x.toNat = A ∧ y.toNat = Y) := hide ⟨by omega, by omega⟩
              rcases (unhide HS) with e | ⟨b, off, rfl, hbb, hc⟩
              · rw [e] at hn; simp at hn; omega
              have HC := hide hc
              clear hc EB E1 E2 hg hn c4
              subst hA hY
              have wy : IntKind.i64.wrap ((Y : Int) + 1) = ((Y + 1 : Nat) : Int) := by rw [IntKind.wrap_i64]; omega
              have wa : IntKind.i64.wrap ((A : Int) + 1) = ((A + 1 : Nat) : Int) := by rw [IntKind.wrap_i64]; omega
              have i1 : (A : Int) ≤ ((Y + 1 : Nat) : Int) := by omega
              have i2 : ((Y + 1 : Nat) : Int) ≤ (c : Int) := by omega
              have i3 : (Y : Int) ≤ (n : Int) := by omega
              have i4 : ((A + 1 : Nat) : Int) ≤ (c : Int) := by omega
              have i5 : (Y : Int) ≤ (c : Int) := by omega
              have f1 : decide (n ≤ Y) = false := decide_eq_false (by omega)
              have f2 : decide (Y < A) = false := decide_eq_false (by omega)
              have f3 : decide (Y < A + 2) = false := decide_eq_false (by omega)
              rcases q12 with q1 | ⟨q1, q2⟩
              · skip
                go_enter Try.func27, Try.ntmps27
                go_wp2_with fail
                refine (unhide C1 _ (unhide HS)).mono ?_
                rintro e w1 ⟨rfl, hb⟩
                have HB := hide hb
                have C' : Hid (∀ i (h : i < l.length), w1.cell? ⟨b, off + i * 2, none⟩ = some (.int .i64 l[i].1) ∧ w1.cell? ⟨b, off + i * 2 + 1, none⟩ = some (.int .i64 l[i].2)) := hide (fun i hi => ⟨cell_later hb (unhide HC i hi).1, cell_later hb (unhide HC i hi).2⟩)
                have sw := hb.size
                have N1 : Hid (∀ j u, (flatP ((l.drop A).take (Y + 1 - A)))[j]? = some u → (w1.alloc (.cells #[] 25)).cell? ((⟨b, off + A * 2, none⟩ : Addr).add j) = some u) := hide (sl_news (fun i hi => ⟨ca_other (unhide C' i hi).1, ca_other (unhide C' i hi).2⟩) A (Y + 1 - A) (by rw [unhide HNN]; omega))
                have L1 : Hid ((flatP ((l.drop A).take (Y + 1 - A))).length = (Y + 1 - A) * 2) := hide (by rw [flat_len]; simp [unhide HNN]; omega)
                clear hb
                go_wp2_with (at_builtin; refine wpList_append_lies _ rfl (.tmp 46) (.tmp 51) 23 rfl w.heap.size 25 i0 (.agg #[.int .i64 0, .int .i64 0]) 2 16 Try.underlying23 hi hz0 hz1 hz2 rfl (by decide) _ 0 (flatP []) rfl (empty_row w1 w.heap.size sw) ⟨b, off + A * 2, none⟩ (Y + 1 - A) _ (flatP ((l.drop A).take (Y + 1 - A))) rfl (unhide L1) (unhide N1) (flat_one _) (by omega) (by unfold maxLen; omega) (by omega) (by simp; omega) _ rfl ?_)
                intro g1 cap1 w2 own1 gr1 at1 lt1
                have HB2 := hide (grow_below ((unhide HB).alloc sw (.cells #[] 25)) (by simp; omega) (fun k e => by rw [own_at _ _ _ k e]; exact sw) gr1)
                have O1 : Hid (w2.ownsRow w.heap.size 25 2 (.slice (some ⟨g1, 0, none⟩) (Y + 1 - A) cap1) (Y + 1 - A) (flatP ((l.drop A).take (Y + 1 - A)))) := hide own1
                have sw2 := (unhide HB2).size
                have N2 : Hid (∀ j u, (flatP ((l.drop Y).take (n - Y)))[j]? = some u → (w2.alloc (.cells #[] 25)).cell? ((⟨b, off + Y * 2, none⟩ : Addr).add j) = some u) := hide (sl_news (fun i hi => ⟨ca_other (((unhide HB2).cell (p := ⟨b, off + i * 2, none⟩) hbb).trans (unhide HC i hi).1), ca_other (((unhide HB2).cell (p := ⟨b, off + i * 2 + 1, none⟩) hbb).trans (unhide HC i hi).2)⟩) Y (n - Y) (by rw [unhide HNN]; omega))
                have L2 : Hid ((flatP ((l.drop Y).take (n - Y))).length = (n - Y) * 2) := hide (by rw [flat_len]; simp [unhide HNN])
                clear own1 gr1 at1 C' N1 L1
                go_wp2_with (at_builtin; refine wpList_append_lies _ rfl (.tmp 53) (.tmp 56) 23 rfl w2.heap.size 25 i0 (.agg #[.int .i64 0, .int .i64 0]) 2 16 Try.underlying23 hi hz0 hz1 hz2 rfl (by decide) _ 0 (flatP []) rfl (empty_row w2 w2.heap.size (Nat.le_refl _)) ⟨b, off + Y * 2, none⟩ (n - Y) _ (flatP ((l.drop Y).take (n - Y))) rfl (unhide L2) (unhide N2) (flat_one _) (by omega) (by unfold maxLen; omega) (by omega) (by simp) _ rfl ?_)
                intro g2 cap2 w3 own2 gr2 at2 lt2
                have g2lo : w2.heap.size ≤ g2 := by
                  rcases at2 with h | h
                  · have := own_at _ _ _ g2 h; omega
                  · omega
                have B23 := hide (grow_below ((Below.refl w2.heap.size w2).alloc (Nat.le_refl _) (.cells #[] 25)) (by simp) (fun k e => by rw [own_at _ _ _ k e]; exact Nat.le_refl _) gr2)
                replace O1 := hide (ownsRow_laterP (unhide O1) (unhide B23))
                have HB3 := hide (below_on (unhide HB2) (unhide B23))
                have O2 : Hid (w3.ownsRow w2.heap.size 25 2 (.slice (some ⟨g2, 0, none⟩) (n - Y) cap2) (n - Y) (flatP ((l.drop Y).take (n - Y)))) := hide own2
                have sw3 := (unhide HB3).size
                have s23 := (unhide B23).size
                have N3 : Hid (∀ j u, (flatP ((l.drop 0).take (A + 1)))[j]? = some u → w3.cell? ((⟨b, off + 0 * 2, none⟩ : Addr).add j) = some u) := hide (sl_news (fun i hi => ⟨((unhide HB3).cell (p := ⟨b, off + i * 2, none⟩) hbb).trans (unhide HC i hi).1, ((unhide HB3).cell (p := ⟨b, off + i * 2 + 1, none⟩) hbb).trans (unhide HC i hi).2⟩) 0 (A + 1) (by rw [unhide HNN]; omega))
                have L3 : Hid ((flatP ((l.drop 0).take (A + 1))).length = (A + 1) * 2) := hide (by rw [flat_len]; simp [unhide HNN]; omega)
                clear own2 gr2 at2 N2 L2
                go_wp2_with (at_builtin; refine wpList_append_lies _ rfl (.tmp 59) (.tmp 63) 23 rfl w2.heap.size 25 i0 (.agg #[.int .i64 0, .int .i64 0]) 2 16 Try.underlying23 hi hz0 hz1 hz2 rfl (by decide) _ (n - Y) (flatP ((l.drop Y).take (n - Y))) rfl (unhide O2) ⟨b, off, none⟩ (A + 1) _ (flatP ((l.drop 0).take (A + 1))) rfl (unhide L3) (unhide N3) (flat_one _) (by omega) (by unfold maxLen; omega) (by omega) (by omega) _ rfl ?_)
                intro g3 cap3 w4 own3 gr3 at3 lt3
                have B34 := hide (grow_below (Below.refl w2.heap.size w3) (by omega) (fun k e => by rw [own_at _ _ _ k e]; exact g2lo) gr3)
                have O1' : Hid (w4.ownsRow w.heap.size 25 2 (.slice (some ⟨g1, 0, none⟩) (Y + 1 - A) cap1) (Y + 1 - A) (flatP ((l.drop A).take (Y + 1 - A)))) := hide (owns_low (unhide O1) (unhide B34) lt1)
                have HB4 := hide ((unhide HB3).trans ((unhide B34).mono sw2))
                have O3 : Hid (w4.ownsRow w2.heap.size 25 2 (.slice (some ⟨g3, 0, none⟩) (n - Y + (A + 1)) cap3) (n - Y + (A + 1)) (flatP ((l.drop Y).take (n - Y) ++ (l.drop 0).take (A + 1)))) := hide (by rw [flatP_append]; exact own3)
                have FIN : Hid (SlP w4 (some ⟨g1, 0, none⟩) (sp1 l A Y) ∧ SlP w4 (some ⟨g3, 0, none⟩) (sp2 l A Y) ∧ (sp1 l A Y).length = Y + 1 - A ∧ (sp2 l A Y).length = n - Y + (A + 1)) := hide (by
                  rw [(unhide HE).1, (unhide HE).2, (unhide HAY).1, (unhide HAY).2]
                  have e1 : ((l.drop A).take (Y + 1 - A)).length = Y + 1 - A := by simp [unhide HNN]; omega
                  have e2 : (l.drop Y).take (n - Y) ++ (l.drop 0).take (A + 1) = l.drop Y ++ l.take (A + 1) := by
                    rw [List.take_of_length_le (by simp [unhide HNN]), List.drop_zero]
                  have e3 : (l.drop Y ++ l.take (A + 1)).length = n - Y + (A + 1) := by simp [unhide HNN]; omega
                  have o3 := unhide O3
                  rw [e2] at o3
                  obtain ⟨aa, cc, hv, r1⟩ := own_rt (unhide O1') e1
                  simp only [Value.slice.injEq, true_and] at hv
                  obtain ⟨rfl, rfl⟩ := hv
                  obtain ⟨aa, cc, hv, r2⟩ := own_rt o3 e3
                  simp only [Value.slice.injEq, true_and] at hv
                  obtain ⟨rfl, rfl⟩ := hv
                  exact ⟨r1.sl, r2.sl, e1, e3⟩)
                clear own3 gr3 at3 N3 L3 O1 O2
                go_wp2_with fail
                refine bodyPost_ret (v := .tuple #[.slice (some ⟨g1, 0, none⟩) (Y + 1 - A) cap1, .slice (some ⟨g3, 0, none⟩) (n - Y + (A + 1)) cap3, .bool true]) (by simp [results, Try.results27, go_sem]) rfl ?_
                exact ⟨_, _, _, _, _, _, by rw [unhide HEB], unhide HB4, (unhide FIN).1, (unhide FIN).2.1, (unhide FIN).2.2.1, (unhide FIN).2.2.2, by omega⟩
              · skip
                go_enter Try.func27, Try.ntmps27
                go_wp2_with fail
                refine (unhide C1 _ (unhide HS)).mono ?_
                rintro e w1 ⟨rfl, hb⟩
                have HB := hide hb
                have C' : Hid (∀ i (h : i < l.length), w1.cell? ⟨b, off + i * 2, none⟩ = some (.int .i64 l[i].1) ∧ w1.cell? ⟨b, off + i * 2 + 1, none⟩ = some (.int .i64 l[i].2)) := hide (fun i hi => ⟨cell_later hb (unhide HC i hi).1, cell_later hb (unhide HC i hi).2⟩)
                have sw := hb.size
                have N1 : Hid (∀ j u, (flatP ((l.drop A).take (Y + 1 - A)))[j]? = some u → (w1.alloc (.cells #[] 25)).cell? ((⟨b, off + A * 2, none⟩ : Addr).add j) = some u) := hide (sl_news (fun i hi => ⟨ca_other (unhide C' i hi).1, ca_other (unhide C' i hi).2⟩) A (Y + 1 - A) (by rw [unhide HNN]; omega))
                have L1 : Hid ((flatP ((l.drop A).take (Y + 1 - A))).length = (Y + 1 - A) * 2) := hide (by rw [flat_len]; simp [unhide HNN]; omega)
                clear hb
                go_wp2_with (at_builtin; refine wpList_append_lies _ rfl (.tmp 46) (.tmp 51) 23 rfl w.heap.size 25 i0 (.agg #[.int .i64 0, .int .i64 0]) 2 16 Try.underlying23 hi hz0 hz1 hz2 rfl (by decide) _ 0 (flatP []) rfl (empty_row w1 w.heap.size sw) ⟨b, off + A * 2, none⟩ (Y + 1 - A) _ (flatP ((l.drop A).take (Y + 1 - A))) rfl (unhide L1) (unhide N1) (flat_one _) (by omega) (by unfold maxLen; omega) (by omega) (by simp; omega) _ rfl ?_)
                intro g1 cap1 w2 own1 gr1 at1 lt1
                have HB2 := hide (grow_below ((unhide HB).alloc sw (.cells #[] 25)) (by simp; omega) (fun k e => by rw [own_at _ _ _ k e]; exact sw) gr1)
                have O1 : Hid (w2.ownsRow w.heap.size 25 2 (.slice (some ⟨g1, 0, none⟩) (Y + 1 - A) cap1) (Y + 1 - A) (flatP ((l.drop A).take (Y + 1 - A)))) := hide own1
                have sw2 := (unhide HB2).size
                have N2 : Hid (∀ j u, (flatP ((l.drop Y).take (n - Y)))[j]? = some u → (w2.alloc (.cells #[] 25)).cell? ((⟨b, off + Y * 2, none⟩ : Addr).add j) = some u) := hide (sl_news (fun i hi => ⟨ca_other (((unhide HB2).cell (p := ⟨b, off + i * 2, none⟩) hbb).trans (unhide HC i hi).1), ca_other (((unhide HB2).cell (p := ⟨b, off + i * 2 + 1, none⟩) hbb).trans (unhide HC i hi).2)⟩) Y (n - Y) (by rw [unhide HNN]; omega))
                have L2 : Hid ((flatP ((l.drop Y).take (n - Y))).length = (n - Y) * 2) := hide (by rw [flat_len]; simp [unhide HNN])
                clear own1 gr1 at1 C' N1 L1
                go_wp2_with (at_builtin; refine wpList_append_lies _ rfl (.tmp 53) (.tmp 56) 23 rfl w2.heap.size 25 i0 (.agg #[.int .i64 0, .int .i64 0]) 2 16 Try.underlying23 hi hz0 hz1 hz2 rfl (by decide) _ 0 (flatP []) rfl (empty_row w2 w2.heap.size (Nat.le_refl _)) ⟨b, off + Y * 2, none⟩ (n - Y) _ (flatP ((l.drop Y).take (n - Y))) rfl (unhide L2) (unhide N2) (flat_one _) (by omega) (by unfold maxLen; omega) (by omega) (by simp) _ rfl ?_)
                intro g2 cap2 w3 own2 gr2 at2 lt2
                have g2lo : w2.heap.size ≤ g2 := by
                  rcases at2 with h | h
                  · have := own_at _ _ _ g2 h; omega
                  · omega
                have B23 := hide (grow_below ((Below.refl w2.heap.size w2).alloc (Nat.le_refl _) (.cells #[] 25)) (by simp) (fun k e => by rw [own_at _ _ _ k e]; exact Nat.le_refl _) gr2)
                replace O1 := hide (ownsRow_laterP (unhide O1) (unhide B23))
                have HB3 := hide (below_on (unhide HB2) (unhide B23))
                have O2 : Hid (w3.ownsRow w2.heap.size 25 2 (.slice (some ⟨g2, 0, none⟩) (n - Y) cap2) (n - Y) (flatP ((l.drop Y).take (n - Y)))) := hide own2
                have sw3 := (unhide HB3).size
                have s23 := (unhide B23).size
                have N3 : Hid (∀ j u, (flatP ((l.drop 0).take (A + 1)))[j]? = some u → w3.cell? ((⟨b, off + 0 * 2, none⟩ : Addr).add j) = some u) := hide (sl_news (fun i hi => ⟨((unhide HB3).cell (p := ⟨b, off + i * 2, none⟩) hbb).trans (unhide HC i hi).1, ((unhide HB3).cell (p := ⟨b, off + i * 2 + 1, none⟩) hbb).trans (unhide HC i hi).2⟩) 0 (A + 1) (by rw [unhide HNN]; omega))
                have L3 : Hid ((flatP ((l.drop 0).take (A + 1))).length = (A + 1) * 2) := hide (by rw [flat_len]; simp [unhide HNN]; omega)
                clear own2 gr2 at2 N2 L2
                go_wp2_with (at_builtin; refine wpList_append_lies _ rfl (.tmp 59) (.tmp 63) 23 rfl w2.heap.size 25 i0 (.agg #[.int .i64 0, .int .i64 0]) 2 16 Try.underlying23 hi hz0 hz1 hz2 rfl (by decide) _ (n - Y) (flatP ((l.drop Y).take (n - Y))) rfl (unhide O2) ⟨b, off, none⟩ (A + 1) _ (flatP ((l.drop 0).take (A + 1))) rfl (unhide L3) (unhide N3) (flat_one _) (by omega) (by unfold maxLen; omega) (by omega) (by omega) _ rfl ?_)
                intro g3 cap3 w4 own3 gr3 at3 lt3
                have B34 := hide (grow_below (Below.refl w2.heap.size w3) (by omega) (fun k e => by rw [own_at _ _ _ k e]; exact g2lo) gr3)
                have O1' : Hid (w4.ownsRow w.heap.size 25 2 (.slice (some ⟨g1, 0, none⟩) (Y + 1 - A) cap1) (Y + 1 - A) (flatP ((l.drop A).take (Y + 1 - A)))) := hide (owns_low (unhide O1) (unhide B34) lt1)
                have HB4 := hide ((unhide HB3).trans ((unhide B34).mono sw2))
                have O3 : Hid (w4.ownsRow w2.heap.size 25 2 (.slice (some ⟨g3, 0, none⟩) (n - Y + (A + 1)) cap3) (n - Y + (A + 1)) (flatP ((l.drop Y).take (n - Y) ++ (l.drop 0).take (A + 1)))) := hide (by rw [flatP_append]; exact own3)
                have FIN : Hid (SlP w4 (some ⟨g1, 0, none⟩) (sp1 l A Y) ∧ SlP w4 (some ⟨g3, 0, none⟩) (sp2 l A Y) ∧ (sp1 l A Y).length = Y + 1 - A ∧ (sp2 l A Y).length = n - Y + (A + 1)) := hide (by
                  rw [(unhide HE).1, (unhide HE).2, (unhide HAY).1, (unhide HAY).2]
                  have e1 : ((l.drop A).take (Y + 1 - A)).length = Y + 1 - A := by simp [unhide HNN]; omega
                  have e2 : (l.drop Y).take (n - Y) ++ (l.drop 0).take (A + 1) = l.drop Y ++ l.take (A + 1) := by
                    rw [List.take_of_length_le (by simp [unhide HNN]), List.drop_zero]
                  have e3 : (l.drop Y ++ l.take (A + 1)).length = n - Y + (A + 1) := by simp [unhide HNN]; omega
                  have o3 := unhide O3
                  rw [e2] at o3
                  obtain ⟨aa, cc, hv, r1⟩ := own_rt (unhide O1') e1
                  simp only [Value.slice.injEq, true_and] at hv
                  obtain ⟨rfl, rfl⟩ := hv
                  obtain ⟨aa, cc, hv, r2⟩ := own_rt o3 e3
                  simp only [Value.slice.injEq, true_and] at hv
                  obtain ⟨rfl, rfl⟩ := hv
                  exact ⟨r1.sl, r2.sl, e1, e3⟩)
                clear own3 gr3 at3 N3 L3 O1 O2
                go_wp2_with fail
                refine bodyPost_ret (v := .tuple #[.slice (some ⟨g1, 0, none⟩) (Y + 1 - A) cap1, .slice (some ⟨g3, 0, none⟩) (n - Y + (A + 1)) cap3, .bool true]) (by simp [results, Try.results27, go_sem]) rfl ?_
                exact ⟨_, _, _, _, _, _, by rw [unhide HEB], unhide HB4, (unhide FIN).1, (unhide FIN).2.1, (unhide FIN).2.2.1, (unhide FIN).2.2.2, by omega⟩
end Go.Proofs.Ytgphhlhpoffabaa
