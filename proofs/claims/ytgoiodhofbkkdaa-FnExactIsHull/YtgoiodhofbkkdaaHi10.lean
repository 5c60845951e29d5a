/- Chapter 10 of the program: hullOf. No condition beyond those typed. No condition beyond those typed. Written by mkhi10.py. -/
import Derived.Test.YtgoiodhofbkkdaaHs10
namespace Go.Proofs.Ytgoiodhofbkkdaa
open Go.RowKit
set_option linter.unusedVariables false
set_option maxRecDepth 100000
set_option linter.unusedSimpArgs false

theorem chain_two (a b : Int × Int) : chainP [a, b] = [a, b] := rfl
theorem hul_pts {l : List (Int × Int)} (h : sortP l ≠ []) : hulV l = if (sortP l).length = 1 then sortP l else (chainP (sortP l)).dropLast ++ (chainP (sortP l).reverse).dropLast := by
  unfold hulV
  match hs : sortP l, h with
  | [a], _ => rfl
  | [a, b], _ => rfl
  | a :: b :: c :: t, _ => rw [if_neg (by simp), if_neg (by simp)]
theorem sort_ne {l : List (Int × Int)} (h : l ≠ []) : sortP l ≠ [] := by
  intro e
  match l, h with
  | p :: t, _ =>
    have := (sortP_mem (x := p) (l := p :: t)).2 (by simp)
    rw [e] at this
    cases this
theorem RwP.grown {B : Nat} {w w' : World} {v : Value} {L : List (Int × Int)} {r : Option Nat} (h : RwP B w v L) (hg : w.grownBy w' r) (hr : ∀ k, r = some k → k < B) : RwP B w' v L := by
  refine ⟨h.row.1, ?_⟩
  rcases h.row.2 with h' | ⟨g', cap, cur, hv, h1, hh, q⟩
  · exact .inl h'
  · exact .inr ⟨g', cap, cur, hv, h1, by rw [hg.block g' (Array.getElem?_eq_some_iff.1 hh).1 (fun e => by have := hr g' e.symm; omega)]; exact hh, q⟩
theorem two_cells (w : World) (x y : Value) : ((w.alloc (.cells #[x, y] 23)).drew).cell? ⟨w.heap.size, 0, none⟩ = some x ∧ ((w.alloc (.cells #[x, y] 23)).drew).cell? ⟨w.heap.size, 1, none⟩ = some y := by simp [go_sem]
set_option maxHeartbeats 8000000 in
theorem hullI (a : Option Addr) (n c : Nat) (l : List (Int × Int)) (w : World) (h : SlP w a l) (hn : l.length = n) (h0 : 0 < n) (h1 : n ≤ 50) (hg : ∀ p ∈ l, Near p) :
    Calls Try.prog 45 #[.slice a n c] w fun e w' => ∃ v, e = .returned v ∧ Below w.heap.size w w' ∧ RwP w.heap.size w' v (hulV l) := by
  have C1 := hide (risingI a n c l w h hn (by omega))
  have SL : (sortP l).length ≤ 50 := by have := sort_len l; omega
  have SN := hide (near_sort hg)
  have NE := hide (sort_ne (l := l) (fun e => by rw [e] at hn; simp at hn; omega))
  have EV := hide (hul_pts (unhide NE))
  generalize hulV l = R at *
  generalize sortP l = S at *
  clear h hn h1 hg
  go_enter Try.func45, Try.ntmps45
  go_wp2_with fail
  refine (unhide C1).mono ?_
  rintro e w1 ⟨v, rfl, hb1, rw1⟩
  rcases rw1.open with ⟨_, h⟩ | ⟨g, cs, rfl, gB, gw, hcs, hcm, _⟩
  · exact absurd h (unhide NE)
  have RW1 := hide rw1
  have HB1 := hide hb1
  clear rw1 hb1 C1
  by_cases hlen : S.length = 1
  · have HL := hide hlen
    replace EV : Hid (R = S) := hide (by rw [unhide EV, if_pos hlen])
    rw [hlen] at RW1 ⊢
    clear hlen
    go_wp2
    go_ret
    exact ⟨_, rfl, unhide HB1, by rw [unhide EV]; exact unhide RW1⟩
  · replace EV : Hid (R = (chainP S).dropLast ++ (chainP S.reverse).dropLast) := hide (by rw [unhide EV, if_neg hlen])
    obtain ⟨m, hm⟩ : ∃ m, m = S.length := ⟨_, rfl⟩
    have HM := hide hm.symm
    have LP : 0 < S.length := List.length_pos_iff.2 (unhide NE)
    rw [← hm] at RW1 hcs SL hlen LP ⊢
    have ml : ((m : Int) == 1) = false := by simp; omega
    clear hm
    go_wp2_with fail
    refine (turnsI _ m cs S _ (unhide RW1).sl_at (unhide HM) (by omega) (unhide SN)).mono ?_
    rintro e w2 ⟨v2, rfl, hb2, rw2⟩
    have NE1 := chain_ne (unhide NE)
    rcases rw2.open with ⟨_, h⟩ | ⟨g1, c2, rfl, g1B, _, cc1, cm1, _⟩
    · exact absurd h NE1
    have RLow := hide rw2
    have HB2 := hide (below_on (unhide HB1) hb2)
    replace RW1 := hide ((unhide RW1).later hb2)
    have SZ12 := hb2.size
    clear rw2 hb2 NE1
    have LR : S.reverse.length = m := by rw [List.length_reverse]; exact unhide HM
    have L1 := chain_len S
    have L2 := chain_len S.reverse
    rw [unhide HM] at L1
    rw [LR] at L2
    have P1 : 1 ≤ (chainP S).length := List.length_pos_iff.2 (chain_ne (unhide NE))
    have P2 : 1 ≤ (chainP S.reverse).length := List.length_pos_iff.2 (chain_ne (by simpa using unhide NE))
    generalize hX : chainP S.reverse = X at *
    generalize hY : chainP S = Y at *
    have HX := hide hX
    clear hX hY
    go_wp2_with fail
    refine (revI w.heap.size g m cs S _ (unhide RW1) (by omega)).mono ?_
    rintro e w3 ⟨⟨r, rfl⟩, rw3, gr3⟩
    have RV := hide rw3
    replace RLow := hide ((unhide RLow).grown gr3 (fun k e => by cases e; exact gw))
    have HB3 := hide (grow_below (unhide HB2) (unhide HB2).size (v := .slice (some ⟨g, 0, none⟩) m cs) (fun k e => by rw [own_at _ _ _ k e]; exact gB) gr3)
    have SZ23 := gr3.size
    clear rw3 gr3 RW1 HB1 HB2
    go_wp2_with fail
    refine (turnsI _ m cs S.reverse _ (unhide RV).sl_at LR (by omega) (fun p hp => unhide SN p (List.mem_reverse.1 hp))).mono ?_
    rintro e w4 ⟨v4, rfl, hb4, rw4⟩
    rw [unhide HX] at rw4
    rcases rw4.open with ⟨_, h⟩ | ⟨g2, d2, rfl, _, _, cc2, cm2, _⟩
    · rw [h] at P2; simp at P2
    have RHigh := hide rw4
    replace RLow := hide ((unhide RLow).later hb4)
    have HB4 := hide (below_on (unhide HB3) hb4)
    clear rw4 hb4 HB3 RV
    obtain ⟨p1, hp1⟩ : ∃ p1, Y.length = p1 + 1 := ⟨Y.length - 1, by omega⟩
    obtain ⟨p2, hp2⟩ : ∃ p2, X.length = p2 + 1 := ⟨X.length - 1, by omega⟩
    have D1 : Hid (Y.dropLast = Y.take p1 ∧ Y.dropLast.length = p1) := hide ⟨by rw [List.dropLast_eq_take, hp1]; simp, by simp [hp1]⟩
    have D2 : Hid (X.dropLast = X.take p2 ∧ X.dropLast.length = p2) := hide ⟨by rw [List.dropLast_eq_take, hp2]; simp, by simp [hp2]⟩
    have q1 : p1 ≤ 50 := by omega
    have q2 : p2 ≤ 50 := by omega
    rw [hp1] at RLow cc1 ⊢
    rw [hp2] at RHigh cc2 ⊢
    have al : Below w4.heap.size w4 ((w4.alloc (.cells #[.slice (some ⟨g1, 0, none⟩) p1 c2, .slice (some ⟨g2, 0, none⟩) p2 d2] 23)).drew) := ((Below.refl _ _).alloc (Nat.le_refl _) _).drew
    have N1 : Hid (∀ j u, (flatP Y.dropLast)[j]? = some u → ((w4.alloc (.cells #[.slice (some ⟨g1, 0, none⟩) p1 c2, .slice (some ⟨g2, 0, none⟩) p2 d2] 23)).drew).cell? ((⟨g1, 0, none⟩ : Addr).add j) = some u) := hide (by have := ((unhide RLow).later al).news 0 p1 (by omega); rw [(unhide D1).1]; simpa using this)
    have N2 : Hid (∀ j u, (flatP X.dropLast)[j]? = some u → ((w4.alloc (.cells #[.slice (some ⟨g1, 0, none⟩) p1 c2, .slice (some ⟨g2, 0, none⟩) p2 d2] 23)).drew).cell? ((⟨g2, 0, none⟩ : Addr).add j) = some u) := hide (by have := ((unhide RHigh).later al).news 0 p2 (by omega); rw [(unhide D2).1]; simpa using this)
    have CC := hide (concatI w4.heap.size ⟨g1, 0, none⟩ ⟨g2, 0, none⟩ p1 c2 p2 d2 Y.dropLast X.dropLast ((w4.alloc (.cells #[.slice (some ⟨g1, 0, none⟩) p1 c2, .slice (some ⟨g2, 0, none⟩) p2 d2] 23)).drew) (two_cells _ _ _).1 (two_cells _ _ _).2 (unhide D1).2 (unhide D2).2 (unhide N1) (unhide N2) (by omega) (by omega))
    have HB5 := hide (below_on (unhide HB4) al)
    have j1 : IntKind.i64.wrap (((p1 + 1 : Nat) : Int) - 1) = (p1 : Int) := by rw [IntKind.wrap_i64]; omega
    have j2 : IntKind.i64.wrap (((p2 + 1 : Nat) : Int) - 1) = (p2 : Int) := by rw [IntKind.wrap_i64]; omega
    have c1' : (p1 : Int) ≤ (c2 : Int) := by omega
    have c2' : (p2 : Int) ≤ (d2 : Int) := by omega
    have s1 : p1 ≤ p1 + 1 := by omega
    have s2 : p2 ≤ p2 + 1 := by omega
    clear al hp1 hp2 P1 P2 L1 L2 N1 N2 RLow RHigh
    generalize p1 + 1 = n1 at *
    generalize p2 + 1 = n2 at *
    go_upto_region 7 with fail
    go_region_held3 (fun _ => True)
      (trivial)
      (first
      | (go_at_call 81; refine (unhide CC).mono ?_; rintro e w6 ⟨v6, rfl, rw6, hb6⟩; have RW6 := hide rw6; have HB6 := hide (below_on (unhide HB5) hb6); clear rw6 hb6)
      | fail)
    go_wp2
    go_ret
    exact ⟨_, rfl, unhide HB6, by rw [unhide EV]; exact (unhide RW6).mono (unhide HB5).size⟩
end Go.Proofs.Ytgoiodhofbkkdaa
