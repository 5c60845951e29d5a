/- Chapter 10: SortPts and HullOf of both sides. No condition beyond those typed. No condition beyond those typed. Written by mkex10.py. -/
import Derived.Test.YtgoiodhofbkkdaaPkA11
import Derived.Test.YtgoiodhofbkkdaaSm10
namespace Go.Proofs.Ytgoiodhofbkkdaa
open Go.RowKit
set_option linter.unusedVariables false
set_option maxRecDepth 100000
set_option linter.unusedSimpArgs false

/-- The corners of the least convex shape. -/
def hulV (l : List (Int × Int)) : List (Int × Int) := if (sortP l).length < 3 then sortP l else (chainP (sortP l)).dropLast ++ (chainP (sortP l).reverse).dropLast
theorem step_append_at {P : Program} {ops : Array Oper} {o : Oper} {a : Act} {w : World} {K : Act → World → Prop} {Q : Exit → Act → World → Prop} {E : Prop} (hgd : o.guard = none) (s x : Operand) (t : TypeId)
    (ho : o.op = .call { callee := .builtin .append, args := #[s, x], argTypes := #[t, t] })
    (base : Nat) (e : TypeId) (i : TypeInfo) (z : Value) (size bytes : Nat) (ht : P.underlying t = some (.slice e)) (hi : P.info? e = some i) (hz : i.zero = some z)
    (hsize : i.size = size) (hby : i.bytes = bytes) (hzs : z.cells.size = size) (hsz : 0 < size)
    (v : Value) (n : Nat) (xs : List Value) (hs : a.eval s = v) (hown : w.ownsRow base e size v n xs)
    (ad : Addr) (m c : Nat) (news : List Value) (hx : a.eval x = .slice (some ad) m c) (hl : news.length = m * size) (hnews : ∀ j u, news[j]? = some u → w.cell? (ad.add j) = some u) (h1 : ∀ u ∈ news, u.oneCell' = true)
    (h63 : n + m ≤ maxLen) (hbytes : (n + m) * bytes ≤ 140737488355328) (hbase : base ≤ w.heap.size)
    (h : ∀ v' w', w'.ownsRow base e size v' (n + m) (xs ++ news) → w.grownBy w' v.ownBlock → K (a.put o.dst v') w') :
    if Region.wanted o (yielded ops a.tmps) = true then Oper.wp P o a w K Q else E := by
  have hw : Region.wanted o (yielded ops a.tmps) = true := by simp [Region.wanted, hgd]
  rw [if_pos hw]
  obtain ⟨v', w', hr, h2, h3, _, _⟩ := run_append_own_at (P := P) w base t o.type e i z size bytes ht hi hz hsize hby hzs hsz v n xs hown ad m c news hl hnews h1 h63 hbytes hbase
  unfold Oper.wp execOp
  simp only [ho, resolve, invoke, builtin, Sem.run_bind, Sem.run_pure, Result.andThen_ok, List.map_toArray, List.map_cons, List.map_nil, hs, hx, hr]
  exact h v' w' h2 h3
theorem chR_ne {l : List (Int × Int)} (h : l ≠ []) : chR l ≠ [] := by
  rcases List.eq_nil_or_concat l with rfl | ⟨L, p, rfl⟩
  · exact absurd rfl h
  · rw [List.concat_eq_append, chR_snoc]; simp
theorem chR_len : ∀ (l s : List (Int × Int)), (l.foldl (fun s p => p :: popP p s) s).length ≤ s.length + l.length
  | [], s => by simp
  | p :: l, s => by
    have h1 := chR_len l (p :: popP p s)
    have h2 := pop_len p s
    rw [List.foldl_cons]
    simp at h1 ⊢
    omega
theorem chain_len (l : List (Int × Int)) : (chainP l).length ≤ l.length := by
  have := chR_len l []
  unfold chainP chR
  simpa using this
theorem chain_ne {l : List (Int × Int)} (h : l ≠ []) : chainP l ≠ [] := by
  unfold chainP
  simpa using chR_ne h
theorem take_last (L : List (Int × Int)) (n : Nat) (h : L.length = n) : L.take (n - 1) = L.dropLast := by rw [List.dropLast_eq_take, h]
theorem sort_len (l : List (Int × Int)) : (sortP l).length ≤ l.length := by
  have := fold_len l []
  unfold sortP
  simpa using this
theorem near_sort {l : List (Int × Int)} (h : ∀ p ∈ l, Near p) : ∀ p ∈ sortP l, Near p := fun p hp => h p (sortP_mem.1 hp)
theorem rev_at (L : List (Int × Int)) (k n : Nat) (hn : L.length = n) (hk : k < n) : L.reverse.take (k + 1) = L.reverse.take k ++ [L.getD (n - 1 - k) (0, 0)] := by
  rw [take_succP (by simp; omega), List.getElem_reverse, getD_gt (by omega)]
  congr 3
  omega
set_option maxHeartbeats 8000000 in
theorem hullS (a : Option Addr) (n c : Nat) (l : List (Int × Int)) (w : World) (h : SlP w a l) (hn : l.length = n) (h1 : n ≤ 50) (hg : ∀ p ∈ l, Near p) :
    Calls Try.prog 47 #[.slice a n c] w fun e w' => ∃ v, e = .returned v ∧ Below w.heap.size w w' ∧ RwP w.heap.size w' v (hulV l) := by
  obtain ⟨i0, hi, hz0, hz1, hz2⟩ := info_parts infoPt
  have C1 := hide (sortS a n c l w h hn (by omega))
  have SL : (sortP l).length ≤ 50 := by have := sort_len l; omega
  have SN := hide (near_sort hg)
  have EV : Hid (hulV l = if (sortP l).length < 3 then sortP l else (chainP (sortP l)).dropLast ++ (chainP (sortP l).reverse).dropLast) := hide rfl
  generalize hulV l = R at *
  generalize sortP l = S at *
  clear h hn h1 hg
  go_enter Try.func47, Try.ntmps47
  go_wp2_with fail
  refine (unhide C1).mono ?_
  rintro e w1 ⟨v, rfl, hb1, rw1⟩
  obtain ⟨a1, c1, rfl, hs1⟩ := rw1.sl
  have RW1 := hide rw1
  have HB1 := hide hb1
  have HS1 := hide hs1
  clear rw1 hb1 hs1 C1
  by_cases hlen : S.length < 3
  · have hlen' : (S.length : Int) < 3 := by omega
    replace EV : Hid (R = S) := hide (by rw [unhide EV, if_pos hlen])
    clear hlen
    go_wp2
    go_ret
    exact ⟨_, rfl, unhide HB1, by rw [unhide EV]; exact unhide RW1⟩
  · have hlen' : ¬ (S.length : Int) < 3 := by omega
    replace EV : Hid (R = (chainP S).dropLast ++ (chainP S.reverse).dropLast) := hide (by rw [unhide EV, if_neg hlen])
    go_wp2_with fail
    refine (chainS a1 S.length c1 S _ (unhide HS1) rfl (by omega) (unhide SN)).mono ?_
    rintro e w2 ⟨v2, rfl, hb2, rw2⟩
    obtain ⟨a2, c2, rfl, hs2⟩ := rw2.sl
    have RW2 := hide rw2
    have HB2 := hide (below_on (unhide HB1) hb2)
    have RS := hide ((unhide HS1).later hb2)
    have SZ2 : w.heap.size ≤ w2.heap.size := (unhide HB2).size
    clear rw2 hb2 hs2 HS1 RW1 HB1
    obtain ⟨m, hm⟩ : ∃ m, m = S.length := ⟨_, rfl⟩
    have HM := hide hm.symm
    rw [← hm]
    have m3 : 3 ≤ m := by omega
    have m50 : m ≤ 50 := by omega
    clear hlen hlen' SL
    have i1 : IntKind.i64.wrap ((m : Int) - 1) = (m : Int) - 1 := by rw [IntKind.wrap_i64]; omega
    clear hm
    go_wp2
    go_loopw [5, 6] (fun v iv wr => ∃ k : Nat, k ≤ m ∧ iv = .int .i64 ((m : Int) - 1 - (k : Int)) ∧ Hid (RwP w2.heap.size wr v (S.reverse.take k)) ∧ Hid (Below w2.heap.size w2 wr)) (fun _ iv _ => (intOf iv + 1).toNat)
    case atStart => exact ⟨0, by omega, by go_num, hide (RwP.nil _ _), hide (Below.refl _ _)⟩
    case round =>
      obtain ⟨k, hk, rfl, HR, HB⟩ := hrel
      obtain ⟨av, cv, rfl, _⟩ := (unhide HR).sl
      by_cases hlt : k < m
      · have ge : (0 : Int) ≤ (m : Int) - 1 - (k : Int) := by omega
        obtain ⟨j, hj⟩ : ∃ j : Nat, j = m - 1 - k := ⟨_, rfl⟩
        have hjI : (m : Int) - 1 - (k : Int) = (j : Int) := by omega
        have hjm : (j : Int) < (m : Int) := by omega
        rw [hjI] at ge ⊢
        have ER := hide (rev_at S k m (unhide HM) hlt)
        rw [← hj] at ER
        have EJ : Hid ((j : Int) - 1 = (m : Int) - 1 - ((k + 1 : Nat) : Int)) := hide (by omega)
        have i2 : IntKind.i64.wrap ((j : Int) - 1) = (j : Int) - 1 := by rw [IntKind.wrap_i64]; omega
        have LK : Hid ((S.reverse.take k).length = k) := hide (by rw [List.length_take, List.length_reverse, unhide HM]; omega)
        rcases (unhide RS) with e | ⟨b, off, rfl, hb, hc⟩
        · exact absurd (unhide HM) (by rw [e]; simp; omega)
        have e0 := hc j (by rw [unhide HM]; omega)
        rw [← getD_gt (by rw [unhide HM]; omega)] at e0
        generalize S.getD j (0, 0) = p at *
        have E0 : wr.cell? ⟨b, off + j * 2, none⟩ = some (.int .i64 p.1) := ((unhide HB).cell (p := ⟨b, off + j * 2, none⟩) hb).trans e0.1
        have E1 : wr.cell? ⟨b, off + j * 2 + 1, none⟩ = some (.int .i64 p.2) := ((unhide HB).cell (p := ⟨b, off + j * 2 + 1, none⟩) hb).trans e0.2
        clear e0 hc hj hjI
        rw [unhide LK]
        have HR2 : Hid (wr.ownsRow w2.heap.size 31 2 (.slice av k cv) k (flatP (S.reverse.take k))) := hide (by have := (unhide HR).row; rw [unhide LK] at this; exact this)
        go_wp2_with (at_builtin; refine wpList_append_own _ rfl (.tmp 23) (.tmp 28) 23 rfl w2.heap.size 31 i0 (.agg #[.int .i64 0, .int .i64 0]) 2 16 Try.underlying23 hi hz0 hz1 hz2 rfl (by decide) _ _ _ rfl ((unhide HR2).alloc _) ⟨_, 0, none⟩ 1 1 [.int .i64 p.1, .int .i64 p.2] rfl rfl (new_cellP _ _ _) (fun u hu => by simp at hu; rcases hu with rfl | rfl <;> rfl) (by unfold maxLen; omega) (by omega) (by have := (unhide HB).size; simp; omega) ?_)
        intro v' w6 hown hgr _
        have RN : Hid (RwP w2.heap.size w6 v' (S.reverse.take (k + 1))) := hide (by rw [unhide ER]; exact RwP.snoc (by rw [unhide LK]; exact hown))
        have HBN := hide (push_belowP (unhide HB) (unhide HB).size (unhide HR2) hgr)
        clear hown hgr E0 E1 HR2
        go_wp2
        go_roundw
        case rel => exact ⟨k + 1, by omega, by rw [← unhide EJ], RN, HBN⟩
        case measure => simp [intOf] <;> omega
      · obtain rfl : k = m := by omega
        have ge : ¬ (0 : Int) ≤ (k : Int) - 1 - (k : Int) := by omega
        have LK : Hid (S.reverse.take k = S.reverse) := hide (by rw [← unhide HM, ← List.length_reverse, List.take_length])
        rw [unhide LK] at HR
        rw [unhide LK]
        have LR : S.reverse.length = k := by rw [List.length_reverse]; exact unhide HM
        have HB3 := hide (below_on (unhide HB2) (unhide HB))
        rw [LR] at HR ⊢
        have RLow := hide ((unhide RW2).later (unhide HB))
        have CH := hide (fun w (x : SlP w av S.reverse) => chainS av k cv S.reverse w x LR (by omega) (fun p hp => unhide SN p (List.mem_reverse.1 hp)))
        have NE1 : Hid (S ≠ []) := hide (fun e => by have := unhide HM; rw [e] at this; simp at this; omega)
        have L1 := chain_len S
        have L2 := chain_len S.reverse
        rw [unhide HM] at L1
        rw [LR] at L2
        have P1 : 1 ≤ (chainP S).length := List.length_pos_iff.2 (chain_ne (unhide NE1))
        have P2 : 1 ≤ (chainP S.reverse).length := List.length_pos_iff.2 (chain_ne (by simpa using unhide NE1))
        generalize chainP S.reverse = X at *
        generalize chainP S = Y at *
        clear LK LR RW2 HB2 RS
        have SLB := hide (unhide HR).sl_at
        clear HR HB
        go_wp2_with fail
        refine (unhide CH _ (unhide SLB)).mono ?_
        rintro e w4 ⟨v4, rfl, hb4, rw4⟩
        have RHigh := hide rw4
        replace RLow := hide ((unhide RLow).later hb4)
        have HB4 := hide (below_on (unhide HB3) hb4)
        clear rw4 hb4 HB3 SLB CH
        rcases (unhide RLow).open with ⟨_, h⟩ | ⟨g1, d1, e1, _, _, cc1, cm1, _⟩
        · rw [h] at P1; simp at P1
        rcases (unhide RHigh).open with ⟨_, h⟩ | ⟨g2, d2, e2, _, _, cc2, cm2, _⟩
        · rw [h] at P2; simp at P2
        simp only [Value.slice.injEq, true_and] at e1
        obtain ⟨rfl, rfl⟩ := e1
        subst e2
        obtain ⟨p1, hp1⟩ : ∃ p1, Y.length = p1 + 1 := ⟨Y.length - 1, by omega⟩
        obtain ⟨p2, hp2⟩ : ∃ p2, X.length = p2 + 1 := ⟨X.length - 1, by omega⟩
        have D1 : Hid (Y.dropLast = Y.take p1 ∧ (flatP Y.dropLast).length = p1 * 2 ∧ Y.dropLast.length = p1) := hide ⟨by rw [List.dropLast_eq_take, hp1]; simp, by rw [flat_len]; simp [hp1], by simp [hp1]⟩
        have D2 : Hid (X.dropLast = X.take p2 ∧ (flatP X.dropLast).length = p2 * 2 ∧ X.dropLast.length = p2) := hide ⟨by rw [List.dropLast_eq_take, hp2]; simp, by rw [flat_len]; simp [hp2], by simp [hp2]⟩
        have q1 : p1 ≤ 50 := by omega
        have q2 : p2 ≤ 50 := by omega
        rw [hp1] at RLow cc1 ⊢
        rw [hp2] at RHigh cc2 ⊢
        have al : Below w4.heap.size w4 ((w4.alloc (.cells #[] 31)).drew) := ((Below.refl _ _).alloc (Nat.le_refl _) _).drew
        have X1 : Hid (RwP w4.heap.size ((w4.alloc (.cells #[] 31)).drew) (.slice (some ⟨w4.heap.size, 0, none⟩) 0 0) []) := hide ((empty_rw w4).later (Below.refl _ _).drew)
        have N1 : Hid (∀ j u, (flatP Y.dropLast)[j]? = some u → ((w4.alloc (.cells #[] 31)).drew).cell? ((⟨g1, 0, none⟩ : Addr).add j) = some u) := hide (by have := ((unhide RLow).later al).news 0 p1 (by omega); rw [(unhide D1).1]; simpa using this)
        have SZ4 : w4.heap.size ≤ ((w4.alloc (.cells #[] 31)).drew).heap.size := al.size
        have ALH := hide al
        have j1 : IntKind.i64.wrap (((p1 + 1 : Nat) : Int) - 1) = (p1 : Int) := by rw [IntKind.wrap_i64]; omega
        have j2 : IntKind.i64.wrap (((p2 + 1 : Nat) : Int) - 1) = (p2 : Int) := by rw [IntKind.wrap_i64]; omega
        have c1' : (p1 : Int) ≤ (c2 : Int) := by omega
        have c2' : (p2 : Int) ≤ (d2 : Int) := by omega
        have LX : Hid (0 + p2 ≤ X.length) := hide (by omega)
        clear al hp1 hp2 P1 P2 L1 L2
        generalize hq1 : p1 + 1 = n1 at *
        generalize hq2 : p2 + 1 = n2 at *
        clear hq1 hq2
        have HX0 : Hid True := hide trivial
        go_upto_region 11 with fail
        go_region_law (first
          | (have chk := HX0; refine step_append_at rfl (.tmp 32) (.tmp 37) 23 rfl w4.heap.size 31 i0 (.agg #[.int .i64 0, .int .i64 0]) 2 16 Try.underlying23 hi hz0 hz1 hz2 rfl (by decide) (.slice (some ⟨w4.heap.size, 0, none⟩) 0 0) 0 (flatP []) (by simp [Act.eval, Act.put]) (unhide X1).row ⟨g1, 0, none⟩ p1 c2 (flatP Y.dropLast) (by simp [Act.eval, Act.put]) (unhide D1).2.1 (unhide N1) (flat_one' _) (by unfold maxLen; omega) (by omega) SZ4 (fun v5 w5 own5 gr5 => ?_); have r5 : RwP w4.heap.size w5 v5 Y.dropLast := ⟨by rw [(unhide D1).2.2]; simpa [flatP] using own5⟩; have HB5 := hide (grow_below (unhide ALH) SZ4 (unhide X1).blk gr5); have SZ5 := (unhide HB5).size; have N2 : Hid (∀ j u, (flatP X.dropLast)[j]? = some u → w5.cell? ((⟨g2, 0, none⟩ : Addr).add j) = some u) := hide (by have := ((unhide RHigh).later (unhide HB5)).news 0 p2 (unhide LX); rw [(unhide D2).1]; simpa using this); obtain ⟨a5, d5, rfl, _⟩ := r5.sl; have R5 := hide r5; rw [(unhide D1).2.2] at R5 ⊢; clear own5 gr5 r5 chk HX0)
          | (refine step_append_at rfl (.tmp 38) (.tmp 43) 23 rfl w4.heap.size 31 i0 (.agg #[.int .i64 0, .int .i64 0]) 2 16 Try.underlying23 hi hz0 hz1 hz2 rfl (by decide) (.slice a5 p1 d5) Y.dropLast.length (flatP Y.dropLast) (by simp [Act.eval, Act.put]) (unhide R5).row ⟨g2, 0, none⟩ p2 d2 (flatP X.dropLast) (by simp [Act.eval, Act.put]) (unhide D2).2.1 (unhide N2) (flat_one' _) (by rw [(unhide D1).2.2]; unfold maxLen; omega) (by rw [(unhide D1).2.2]; omega) SZ5 (fun v6 w6 own6 gr6 => ?_); have R6 := hide (RwP.join own6 (unhide D2).2.2); have HB6 := hide (grow_below (unhide HB5) SZ5 (unhide R5).blk gr6); clear own6 gr6))
        go_wp2
        go_ret
        exact ⟨_, rfl, below_on (unhide HB4) (unhide HB6), by rw [unhide EV]; exact (unhide R6).mono (unhide HB4).size⟩
end Go.Proofs.Ytgoiodhofbkkdaa
namespace Go.Proofs.Ytgoiodhofbkkdaa
open Go.RowKit
set_option linter.unusedVariables false
set_option maxRecDepth 100000
set_option linter.unusedSimpArgs false

theorem chain_two (a b : Int × Int) : chainP [a, b] = [a, b] := rfl
theorem hul_pts {l : List (Int × Int)} (h : sortP l ≠ []) : hulV l = if (sortP l).length = 1 then sortP l else (chainP (sortP l)).dropLast ++ (chainP (sortP l).reverse).dropLast := by
  unfold hulV
  match hs : sortP l, h with
  | [a], _ => rfl
  | [a, b], _ => rfl
  | a :: b :: c :: t, _ => rw [if_neg (by simp), if_neg (by simp)]
theorem sort_ne {l : List (Int × Int)} (h : l ≠ []) : sortP l ≠ [] := by
  intro e
  match l, h with
  | p :: t, _ =>
    have := (sortP_mem (x := p) (l := p :: t)).2 (by simp)
    rw [e] at this
    cases this
theorem RwP.grown {B : Nat} {w w' : World} {v : Value} {L : List (Int × Int)} {r : Option Nat} (h : RwP B w v L) (hg : w.grownBy w' r) (hr : ∀ k, r = some k → k < B) : RwP B w' v L := by
  refine ⟨h.row.1, ?_⟩
  rcases h.row.2 with h' | ⟨g', cap, cur, hv, h1, hh, q⟩
  · exact .inl h'
  · exact .inr ⟨g', cap, cur, hv, h1, by rw [hg.block g' (Array.getElem?_eq_some_iff.1 hh).1 (fun e => by have := hr g' e.symm; omega)]; exact hh, q⟩
theorem two_cells (w : World) (x y : Value) : ((w.alloc (.cells #[x, y] 23)).drew).cell? ⟨w.heap.size, 0, none⟩ = some x ∧ ((w.alloc (.cells #[x, y] 23)).drew).cell? ⟨w.heap.size, 1, none⟩ = some y := by simp [go_sem]
set_option maxHeartbeats 8000000 in
theorem hullI (a : Option Addr) (n c : Nat) (l : List (Int × Int)) (w : World) (h : SlP w a l) (hn : l.length = n) (h0 : 0 < n) (h1 : n ≤ 50) (hg : ∀ p ∈ l, Near p) :
    Calls Try.prog 45 #[.slice a n c] w fun e w' => ∃ v, e = .returned v ∧ Below w.heap.size w w' ∧ RwP w.heap.size w' v (hulV l) := by
  have C1 := hide (risingI a n c l w h hn (by omega))
  have SL : (sortP l).length ≤ 50 := by have := sort_len l; omega
  have SN := hide (near_sort hg)
  have NE := hide (sort_ne (l := l) (fun e => by rw [e] at hn; simp at hn; omega))
  have EV := hide (hul_pts (unhide NE))
  generalize hulV l = R at *
  generalize sortP l = S at *
  clear h hn h1 hg
  go_enter Try.func45, Try.ntmps45
  go_wp2_with fail
  refine (unhide C1).mono ?_
  rintro e w1 ⟨v, rfl, hb1, rw1⟩
  rcases rw1.open with ⟨_, h⟩ | ⟨g, cs, rfl, gB, gw, hcs, hcm, _⟩
  · exact absurd h (unhide NE)
  have RW1 := hide rw1
  have HB1 := hide hb1
  clear rw1 hb1 C1
  by_cases hlen : S.length = 1
  · have HL := hide hlen
    replace EV : Hid (R = S) := hide (by rw [unhide EV, if_pos hlen])
    rw [hlen] at RW1 ⊢
    clear hlen
    go_wp2
    go_ret
    exact ⟨_, rfl, unhide HB1, by rw [unhide EV]; exact unhide RW1⟩
  · replace EV : Hid (R = (chainP S).dropLast ++ (chainP S.reverse).dropLast) := hide (by rw [unhide EV, if_neg hlen])
    obtain ⟨m, hm⟩ : ∃ m, m = S.length := ⟨_, rfl⟩
    have HM := hide hm.symm
    have LP : 0 < S.length := List.length_pos_iff.2 (unhide NE)
    rw [← hm] at RW1 hcs SL hlen LP ⊢
    have ml : ((m : Int) == 1) = false := by simp; omega
    clear hm
    go_wp2_with fail
    refine (turnsI _ m cs S _ (unhide RW1).sl_at (unhide HM) (by omega) (unhide SN)).mono ?_
    rintro e w2 ⟨v2, rfl, hb2, rw2⟩
    have NE1 := chain_ne (unhide NE)
    rcases rw2.open with ⟨_, h⟩ | ⟨g1, c2, rfl, g1B, _, cc1, cm1, _⟩
    · exact absurd h NE1
    have RLow := hide rw2
    have HB2 := hide (below_on (unhide HB1) hb2)
    replace RW1 := hide ((unhide RW1).later hb2)
    have SZ12 := hb2.size
    clear rw2 hb2 NE1
    have LR : S.reverse.length = m := by rw [List.length_reverse]; exact unhide HM
    have L1 := chain_len S
    have L2 := chain_len S.reverse
    rw [unhide HM] at L1
    rw [LR] at L2
    have P1 : 1 ≤ (chainP S).length := List.length_pos_iff.2 (chain_ne (unhide NE))
    have P2 : 1 ≤ (chainP S.reverse).length := List.length_pos_iff.2 (chain_ne (by simpa using unhide NE))
    generalize hX : chainP S.reverse = X at *
    generalize hY : chainP S = Y at *
    have HX := hide hX
    clear hX hY
    go_wp2_with fail
    refine (revI w.heap.size g m cs S _ (unhide RW1) (by omega)).mono ?_
    rintro e w3 ⟨⟨r, rfl⟩, rw3, gr3⟩
    have RV := hide rw3
    replace RLow := hide ((unhide RLow).grown gr3 (fun k e => by cases e; exact gw))
    have HB3 := hide (grow_below (unhide HB2) (unhide HB2).size (v := .slice (some ⟨g, 0, none⟩) m cs) (fun k e => by rw [own_at _ _ _ k e]; exact gB) gr3)
    have SZ23 := gr3.size
    clear rw3 gr3 RW1 HB1 HB2
    go_wp2_with fail
    refine (turnsI _ m cs S.reverse _ (unhide RV).sl_at LR (by omega) (fun p hp => unhide SN p (List.mem_reverse.1 hp))).mono ?_
    rintro e w4 ⟨v4, rfl, hb4, rw4⟩
    rw [unhide HX] at rw4
    rcases rw4.open with ⟨_, h⟩ | ⟨g2, d2, rfl, _, _, cc2, cm2, _⟩
    · rw [h] at P2; simp at P2
    have RHigh := hide rw4
    replace RLow := hide ((unhide RLow).later hb4)
    have HB4 := hide (below_on (unhide HB3) hb4)
    clear rw4 hb4 HB3 RV
    obtain ⟨p1, hp1⟩ : ∃ p1, Y.length = p1 + 1 := ⟨Y.length - 1, by omega⟩
    obtain ⟨p2, hp2⟩ : ∃ p2, X.length = p2 + 1 := ⟨X.length - 1, by omega⟩
    have D1 : Hid (Y.dropLast = Y.take p1 ∧ Y.dropLast.length = p1) := hide ⟨by rw [List.dropLast_eq_take, hp1]; simp, by simp [hp1]⟩
    have D2 : Hid (X.dropLast = X.take p2 ∧ X.dropLast.length = p2) := hide ⟨by rw [List.dropLast_eq_take, hp2]; simp, by simp [hp2]⟩
    have q1 : p1 ≤ 50 := by omega
    have q2 : p2 ≤ 50 := by omega
    rw [hp1] at RLow cc1 ⊢
    rw [hp2] at RHigh cc2 ⊢
    have al : Below w4.heap.size w4 ((w4.alloc (.cells #[.slice (some ⟨g1, 0, none⟩) p1 c2, .slice (some ⟨g2, 0, none⟩) p2 d2] 23)).drew) := ((Below.refl _ _).alloc (Nat.le_refl _) _).drew
    have N1 : Hid (∀ j u, (flatP Y.dropLast)[j]? = some u → ((w4.alloc (.cells #[.slice (some ⟨g1, 0, none⟩) p1 c2, .slice (some ⟨g2, 0, none⟩) p2 d2] 23)).drew).cell? ((⟨g1, 0, none⟩ : Addr).add j) = some u) := hide (by have := ((unhide RLow).later al).news 0 p1 (by omega); rw [(unhide D1).1]; simpa using this)
    have N2 : Hid (∀ j u, (flatP X.dropLast)[j]? = some u → ((w4.alloc (.cells #[.slice (some ⟨g1, 0, none⟩) p1 c2, .slice (some ⟨g2, 0, none⟩) p2 d2] 23)).drew).cell? ((⟨g2, 0, none⟩ : Addr).add j) = some u) := hide (by have := ((unhide RHigh).later al).news 0 p2 (by omega); rw [(unhide D2).1]; simpa using this)
    have CC := hide (concatI w4.heap.size ⟨g1, 0, none⟩ ⟨g2, 0, none⟩ p1 c2 p2 d2 Y.dropLast X.dropLast ((w4.alloc (.cells #[.slice (some ⟨g1, 0, none⟩) p1 c2, .slice (some ⟨g2, 0, none⟩) p2 d2] 23)).drew) (two_cells _ _ _).1 (two_cells _ _ _).2 (unhide D1).2 (unhide D2).2 (unhide N1) (unhide N2) (by omega) (by omega))
    have HB5 := hide (below_on (unhide HB4) al)
    have j1 : IntKind.i64.wrap (((p1 + 1 : Nat) : Int) - 1) = (p1 : Int) := by rw [IntKind.wrap_i64]; omega
    have j2 : IntKind.i64.wrap (((p2 + 1 : Nat) : Int) - 1) = (p2 : Int) := by rw [IntKind.wrap_i64]; omega
    have c1' : (p1 : Int) ≤ (c2 : Int) := by omega
    have c2' : (p2 : Int) ≤ (d2 : Int) := by omega
    have s1 : p1 ≤ p1 + 1 := by omega
    have s2 : p2 ≤ p2 + 1 := by omega
    clear al hp1 hp2 P1 P2 L1 L2 N1 N2 RLow RHigh
    generalize p1 + 1 = n1 at *
    generalize p2 + 1 = n2 at *
    go_upto_region 7 with fail
    go_region_held3 (fun _ => True)
      (trivial)
      (first
      | (go_at_call 81; refine (unhide CC).mono ?_; rintro e w6 ⟨v6, rfl, rw6, hb6⟩; have RW6 := hide rw6; have HB6 := hide (below_on (unhide HB5) hb6); clear rw6 hb6)
      | fail)
    go_wp2
    go_ret
    exact ⟨_, rfl, unhide HB6, by rw [unhide EV]; exact (unhide RW6).mono (unhide HB5).size⟩
end Go.Proofs.Ytgoiodhofbkkdaa
namespace Go.Proofs.Ytgoiodhofbkkdaa
open Go.RowKit
set_option linter.unusedVariables false
set_option maxRecDepth 100000
set_option linter.unusedSimpArgs false

set_option maxHeartbeats 4000000 in
theorem sameI (a b : Option Addr) (n c m d : Nat) (l k : List (Int × Int)) (w : World) (h : SlP w a l) (h' : SlP w b k) (hn : l.length = n) (hm : k.length = m) (h1 : n ≤ 1048576) :
    Calls Try.prog 53 #[.slice a n c, .slice b m d] w fun e w' => e = .returned (.bool (decide (l = k))) ∧ Below w.heap.size w w' := by
  have HS := hide h
  have HS' := hide h'
  have HN := hide hn
  have HM := hide hm
  clear h hn h' hm
  by_cases hnm : n = m
  · subst hnm
    have nn : ((n : Int) != (n : Int)) = false := by simp
    go_enter Try.func53, Try.ntmps53
    go_wp2
    go_loopw [13] (fun iv wr => ∃ (i : Nat), i ≤ n ∧ iv = .int .i64 i ∧ Hid (∀ j, j < i → l.getD j (0, 0) = k.getD j (0, 0)) ∧ Hid (Below w.heap.size w wr)) (fun iv _ => n - (intOf iv).toNat)
    case atStart => exact ⟨0, Nat.zero_le _, rfl, hide (fun j hj => absurd hj (by omega)), hide (Below.refl _ _)⟩
    case round =>
      obtain ⟨i, hi, rfl, HE, HB⟩ := hrel
      by_cases hlt : i < n
      · have hlt' : (i : Int) < (n : Int) := by omega
        rcases (unhide HS) with e | ⟨b, off, rfl, hb, hc⟩
        · exact absurd (unhide HN) (by rw [e]; simp; omega)
        have e0 := hc i (by rw [unhide HN]; exact hlt)
        rcases (unhide HS') with e | ⟨b', off', rfl, hb', hc'⟩
        · exact absurd (unhide HM) (by rw [e]; simp; omega)
        have f0 := hc' i (by rw [unhide HM]; exact hlt)
        rw [← getD_gt (by rw [unhide HN]; exact hlt)] at e0
        rw [← getD_gt (by rw [unhide HM]; exact hlt)] at f0
        have HX : Hid (l.getD i (0, 0) ≠ k.getD i (0, 0) → decide (l = k) = false) := hide (fun hne => decide_eq_false (fun e => hne (by rw [e])))
        have HY : Hid (l.getD i (0, 0) = k.getD i (0, 0) → ∀ j, j < i + 1 → l.getD j (0, 0) = k.getD j (0, 0)) := hide (fun he j hj => by
          by_cases hji : j = i
          · subst hji; exact he
          · exact unhide HE j (by omega))
        generalize l.getD i (0, 0) = x at *
        generalize k.getD i (0, 0) = y at *
        clear hc hc' HE
        have E0 : wr.cell? ⟨b, off + i * 2, none⟩ = some (.int .i64 x.1) := ((unhide HB).cell (p := ⟨b, off + i * 2, none⟩) hb).trans (e0.1)
        have E1 : wr.cell? ⟨b, off + i * 2 + 1, none⟩ = some (.int .i64 x.2) := ((unhide HB).cell (p := ⟨b, off + i * 2 + 1, none⟩) hb).trans (e0.2)
        have F0 : wr.cell? ⟨b', off' + i * 2, none⟩ = some (.int .i64 y.1) := ((unhide HB).cell (p := ⟨b', off' + i * 2, none⟩) hb').trans (f0.1)
        have F1 : wr.cell? ⟨b', off' + i * 2 + 1, none⟩ = some (.int .i64 y.2) := ((unhide HB).cell (p := ⟨b', off' + i * 2 + 1, none⟩) hb').trans (f0.2)
        clear e0 f0
        by_cases h1 : x.1 = y.1
        · by_cases h2 : x.2 = y.2
          · have hxy : x = y := Prod.ext h1 h2
            have HZ := hide (unhide HY hxy)
            subst hxy
            have q1 : (x.1 == x.1) = true := by simp
            have q2 : (x.2 == x.2) = true := by simp
            clear h1 h2 HX HY
            go_upto_region 6 with fail
            go_region
            clear E0 F0 E1 F1
            go_wp2
            go_roundw
            case rel => exact ⟨i + 1, by omega, by go_num, HZ, hide (unhide HB).drew⟩
            case measure => simp [intOf]; omega
          · have EF := hide (unhide HX (fun e => h2 (by rw [e])))
            have q1 : (x.1 == y.1) = true := by simp [h1]
            have q2 : (x.2 == y.2) = false := by simp [h2]
            clear h1 h2 HX HY
            go_upto_region 6 with fail
            go_region
            clear E0 F0 E1 F1
            go_wp2
            go_ret
            exact ⟨by rw [unhide EF]; rfl, (unhide HB).drew⟩
        · have EF := hide (unhide HX (fun e => h1 (by rw [e])))
          have q1 : (x.1 == y.1) = false := by simp [h1]
          clear h1 HX HY
          go_upto_region 6 with fail
          go_region
          clear E0 F0 E1 F1
          go_wp2
          go_ret
          exact ⟨by rw [unhide EF]; rfl, (unhide HB).drew⟩
      · obtain rfl : i = n := by omega
        have EF : Hid (decide (l = k) = true) := hide (decide_eq_true (by
          apply List.ext_getElem
          · rw [unhide HN, unhide HM]
          · intro j h2 h3
            have := unhide HE j (by rw [← unhide HN]; exact h2)
            rw [getD_gt h2, getD_gt h3] at this
            exact this))
        go_wp2
        go_ret
        exact ⟨by rw [unhide EF]; rfl, unhide HB⟩
  · have EF : Hid (decide (l = k) = false) := hide (decide_eq_false (fun e => hnm (by rw [← unhide HN, ← unhide HM, e])))
    have nn : ((n : Int) != (m : Int)) = true := by simp; omega
    go_enter Try.func53, Try.ntmps53
    go_wp2
    go_ret
    exact ⟨by rw [unhide EF]; rfl, Below.refl _ _⟩
/-- Where it is first. -/
def ixP (l : List (Int × Int)) (p : Int × Int) : Nat := (l.takeWhile (fun q => decide (q ≠ p))).length
theorem ix_eq {p : Int × Int} : ∀ {l : List (Int × Int)} {k : Nat}, (∀ j, j < k → l.getD j (0, 0) ≠ p) → k < l.length → l.getD k (0, 0) = p → ixP l p = k
  | [], k, _, h, _ => by simp at h
  | q :: r, 0, _, _, h2 => by
    have : q = p := by simpa using h2
    simp [ixP, this]
  | q :: r, k + 1, h1, hk, h2 => by
    have h0 : q ≠ p := by simpa using h1 0 (by omega)
    have ih := ix_eq (p := p) (l := r) (k := k) (fun j hj => by simpa using h1 (j + 1) (by omega)) (by simp at hk; omega) (by simpa using h2)
    unfold ixP at ih ⊢
    rw [List.takeWhile_cons, if_pos (by simp [h0]), List.length_cons, ih]
set_option maxHeartbeats 4000000 in
theorem indexI (a : Option Addr) (n c : Nat) (l : List (Int × Int)) (p : Int × Int) (w : World) (h : SlP w a l) (hn : l.length = n) (h1 : n ≤ 1048576) (hp : p ∈ l) :
    Calls Try.prog 88 #[.slice a n c, .agg #[.int .i64 p.1, .int .i64 p.2]] w fun e w' => e = .returned (.int .i64 (ixP l p)) ∧ Below w.heap.size w w' := by
  have HS := hide h
  have HN := hide hn
  have HP := hide hp
  have KP : Hid ((w.alloc (.cells #[.int .i64 p.1, .int .i64 p.2] 31)).cell? ⟨w.heap.size, 0, none⟩ = some (.int .i64 p.1) ∧ (w.alloc (.cells #[.int .i64 p.1, .int .i64 p.2] 31)).cell? ⟨w.heap.size, 1, none⟩ = some (.int .i64 p.2)) := hide (by simp [go_sem])
  have ltX : w.heap.size < (w.alloc (.cells #[.int .i64 p.1, .int .i64 p.2] 31)).heap.size := by simp
  have HB0 : Hid (Below w.heap.size w (w.alloc (.cells #[.int .i64 p.1, .int .i64 p.2] 31))) := hide ((Below.refl _ _).alloc (Nat.le_refl _) _)
  clear h hn hp
  go_enter Try.func88, Try.ntmps88
  go_upto_region 1 with fail
  generalize w.alloc (.cells #[.int .i64 p.1, .int .i64 p.2] 31) = w2 at *
  generalize hPX : w.heap.size = PX at *
  replace HB0 : Hid (Below w.heap.size w w2) := hide (by rw [hPX]; exact unhide HB0)
  clear hPX
  go_wp2
  go_loopw [8] (fun iv wr => ∃ i : Nat, i ≤ n ∧ iv = .int .i64 i ∧ Hid (∀ j, j < i → l.getD j (0, 0) ≠ p) ∧ Hid (Below w2.heap.size w2 wr)) (fun iv _ => n - (intOf iv).toNat)
  case atStart => exact ⟨0, Nat.zero_le _, rfl, hide (fun j hj => absurd hj (by omega)), hide (Below.refl _ _)⟩
  case round =>
    obtain ⟨i, hi, rfl, HI, HB⟩ := hrel
    have e0 : wr.cell? ⟨PX, 0, none⟩ = some (.int .i64 p.1) := ((unhide HB).cell (p := ⟨PX, 0, none⟩) ltX).trans (unhide KP).1
    have e1 : wr.cell? ⟨PX, 1, none⟩ = some (.int .i64 p.2) := ((unhide HB).cell (p := ⟨PX, 1, none⟩) ltX).trans (unhide KP).2
    by_cases hlt : i < n
    · have hlt' : (i : Int) < (n : Int) := by omega
      rcases (unhide HS) with e | ⟨b, off, rfl, hb, hc⟩
      · exact absurd (unhide HN) (by rw [e]; simp; omega)
      have bw : b < w2.heap.size := Nat.lt_of_lt_of_le hb (unhide HB0).size
      have c0 := hc i (by rw [unhide HN]; exact hlt)
      rw [← getD_gt (by rw [unhide HN]; exact hlt)] at c0
      have HF : Hid (l.getD i (0, 0) = p → ixP l p = i) := hide (fun e => ix_eq (unhide HI) (by rw [unhide HN]; exact hlt) e)
      have HE : Hid (l.getD i (0, 0) ≠ p → ∀ j, j < i + 1 → l.getD j (0, 0) ≠ p) := hide (fun e j hj => by
        by_cases h : j = i
        · rw [h]; exact e
        · exact unhide HI j (by omega))
      generalize l.getD i (0, 0) = q at *
      have E0 : wr.cell? ⟨b, off + i * 2, none⟩ = some (.int .i64 q.1) := ((unhide HB).cell (p := ⟨b, off + i * 2, none⟩) bw).trans (((unhide HB0).cell (p := ⟨b, off + i * 2, none⟩) hb).trans c0.1)
      have E1 : wr.cell? ⟨b, off + i * 2 + 1, none⟩ = some (.int .i64 q.2) := ((unhide HB).cell (p := ⟨b, off + i * 2 + 1, none⟩) bw).trans (((unhide HB0).cell (p := ⟨b, off + i * 2 + 1, none⟩) hb).trans c0.2)
      clear c0 hc HI
      by_cases hx : p.1 = q.1
      · by_cases hy : p.2 = q.2
        · have he : q = p := Prod.ext hx.symm hy.symm
          have HX := hide (unhide HF he)
          have HW := hide (below_on (unhide HB0) (unhide HB))
          have q1 : (p.1 == q.1) = true := by simp [hx]
          have q2 : (p.2 == q.2) = true := by simp [hy]
          clear hx hy he HF HE
          go_upto_region 4 with fail
          go_region
          clear E0 E1 e0 e1
          replace HW := hide (unhide HW).drew
          generalize wr.drew = w5 at *
          go_wp2
          go_ret
          exact ⟨by rw [unhide HX]; rfl, unhide HW⟩
        · have he : q ≠ p := fun e => hy (by rw [e])
          have HX := hide (unhide HE he)
          have q1 : (p.1 == q.1) = true := by simp [hx]
          have q2 : (p.2 == q.2) = false := by simp [hy]
          clear hx hy he HF HE
          go_upto_region 4 with fail
          go_region
          clear E0 E1 e0 e1
          replace HB := hide (unhide HB).drew
          generalize wr.drew = w5 at *
          go_wp2
          go_roundw
          case rel => exact ⟨i + 1, by omega, by go_num, HX, HB⟩
          case measure => simp [intOf]; omega
      · have he : q ≠ p := fun e => hx (by rw [e])
        have HX := hide (unhide HE he)
        have q1 : (p.1 == q.1) = false := by simp [hx]
        clear hx he HF HE
        cases q2 : (p.2 == q.2)
        all_goals
          go_upto_region 4 with fail
          go_region
          clear E0 E1 e0 e1
          replace HB := hide (unhide HB).drew
          generalize wr.drew = w5 at *
          go_wp2
          go_roundw
          case rel => exact ⟨i + 1, by omega, by go_num, HX, HB⟩
          case measure => simp [intOf]; omega
    · obtain rfl : i = n := by omega
      obtain ⟨j, hj, e⟩ := List.mem_iff_getElem.1 (unhide HP)
      exact absurd (by rw [getD_gt hj]; exact e) (unhide HI j (by rw [← unhide HN]; exact hj))
/-- The least one comes first. -/
theorem leK_least (l : List (Int × Int)) : ∀ i, 0 < l.length → i ≤ l.length → (∀ j, j < i → ltP (l.getD j (0, 0)) (l.getD (leK l i) (0, 0)) = false) ∧ ∀ j, j < leK l i → l.getD j (0, 0) ≠ l.getD (leK l i) (0, 0)
  | 0, _, _ => ⟨fun j hj => absurd hj (by omega), fun j hj => absurd hj (by simp [leK])⟩
  | i + 1, h, hi => by
    obtain ⟨h1, h2⟩ := leK_least l i h (by omega)
    unfold leK
    cases hl : ltP (l.getD i (0, 0)) (l.getD (leK l i) (0, 0))
    · simp only [Bool.false_eq_true, if_false]
      refine ⟨fun j hj => ?_, h2⟩
      by_cases e : j = i
      · rw [e]; exact hl
      · exact h1 j (by omega)
    · simp only [if_true]
      refine ⟨fun j hj => ?_, fun j hj => ?_⟩
      · by_cases e : j = i
        · rw [e]; exact ltP_irr _
        · cases hx : ltP (l.getD j (0, 0)) (l.getD i (0, 0))
          · rfl
          · have := h1 j (by omega)
            rw [ltP_trans hx hl] at this
            cases this
      · intro e
        have := h1 j hj
        rw [e, hl] at this
        cases this
theorem sort_head {l : List (Int × Int)} (h : l ≠ []) : (sortP l).getD 0 (0, 0) ∈ l ∧ ∀ x ∈ l, ltP x ((sortP l).getD 0 (0, 0)) = false := by
  have hr := sortP_rise l
  have hm : ∀ x, x ∈ sortP l ↔ x ∈ l := fun x => sortP_mem
  match hs : sortP l, sort_ne h with
  | q :: r, _ =>
    rw [hs] at hr hm
    refine ⟨(hm q).1 (by simp), fun x hx => ?_⟩
    rcases List.mem_cons.1 ((hm x).2 hx) with rfl | hx'
    · exact ltP_irr _
    · have k := (List.pairwise_cons.1 hr).1 x hx'
      cases hy : ltP x q
      · exact hy
      · have := ltP_trans k hy
        rw [ltP_irr] at this
        cases this
theorem least_ix {l : List (Int × Int)} (h : l ≠ []) : ixP l ((sortP l).getD 0 (0, 0)) = leK l l.length := by
  have h0 : 0 < l.length := List.length_pos_iff.2 h
  obtain ⟨h1, h2⟩ := leK_least l l.length h0 (Nat.le_refl _)
  have hk := leK_lt l l.length h0 (Nat.le_refl _)
  obtain ⟨s1, s2⟩ := sort_head h
  have e : l.getD (leK l l.length) (0, 0) = (sortP l).getD 0 (0, 0) := by
    cases hx : decide (l.getD (leK l l.length) (0, 0) = (sortP l).getD 0 (0, 0))
    · have hne := of_decide_eq_false hx
      have a := s2 (l.getD (leK l l.length) (0, 0)) (by rw [getD_gt hk]; exact List.getElem_mem hk)
      have b := ltP_tri a hne
      obtain ⟨j, hj, ej⟩ := List.mem_iff_getElem.1 s1
      have := h1 j hj
      rw [getD_gt hj, ej, b] at this
      cases this
    · exact of_decide_eq_true hx
  rw [← e]
  exact ix_eq h2 hk rfl
theorem pop_last (p : Int × Int) : ∀ s : List (Int × Int), (popP p s).getLast? = s.getLast?
  | [] => rfl
  | [_] => rfl
  | q :: r :: s => by
    unfold popP
    split
    · rw [pop_last p (r :: s)]; simp [List.getLast?_cons_cons]
    · rfl
theorem chR_last (x : Int × Int) : ∀ (l s : List (Int × Int)), s.getLast? = some x → (l.foldl (fun s p => p :: popP p s) s).getLast? = some x
  | [], s, h => h
  | p :: l, s, h => by
    rw [List.foldl_cons]
    refine chR_last x l _ ?_
    have e := pop_last p s
    rw [h] at e
    cases hq : popP p s with
    | nil => rw [hq] at e; cases e
    | cons y z => rw [hq] at e; rw [List.getLast?_cons_cons]; exact e
theorem chain_head (x : Int × Int) (l : List (Int × Int)) : (chainP (x :: l)).head? = some x := by
  unfold chainP chR
  rw [List.head?_reverse, List.foldl_cons]
  exact chR_last x l _ rfl
theorem chR_top (p : Int × Int) (l : List (Int × Int)) : (chR (l ++ [p])).head? = some p := by rw [chR_snoc]; rfl
theorem chain_long (x y : Int × Int) (l : List (Int × Int)) : 2 ≤ (chainP (x :: y :: l)).length := by
  rcases List.eq_nil_or_concat (y :: l) with e | ⟨L, p, e⟩
  · cases e
  · rw [e, List.concat_eq_append]
    unfold chainP
    rw [List.length_reverse, show x :: (L ++ [p]) = (x :: L) ++ [p] from rfl, chR_snoc]
    have hn : popP p (chR (x :: L)) ≠ [] := by
      intro h
      have := pop_last p (chR (x :: L))
      rw [h] at this
      have k := chR_last x L [x] rfl
      rw [show chR (x :: L) = L.foldl (fun s p => p :: popP p s) [x] from rfl, k] at this
      cases this
    have := List.length_pos_iff.2 hn
    simp
    omega
theorem hul_head {l : List (Int × Int)} (h : l ≠ []) : (hulV l).getD 0 (0, 0) = (sortP l).getD 0 (0, 0) ∧ hulV l ≠ [] := by
  unfold hulV
  match hs : sortP l, sort_ne h with
  | [a], _ => exact ⟨rfl, by simp⟩
  | [a, b], _ => exact ⟨rfl, by simp⟩
  | a :: b :: c :: t, _ =>
    rw [if_neg (by simp)]
    have h1 := chain_head a (b :: c :: t)
    have h2 := chain_long a b (c :: t)
    match hc : chainP (a :: b :: c :: t), h1, h2 with
    | x :: y :: z, h1, _ =>
      simp at h1
      subst h1
      exact ⟨by simp [List.dropLast], by simp [List.dropLast]⟩
/-- Whether it is its hull, begun somewhere. -/
def cvV (l : List (Int × Int)) : Bool := decide (hulV l = l.drop (leK l l.length) ++ l.take (leK l l.length))
end Go.Proofs.Ytgoiodhofbkkdaa
namespace Go.Proofs.Ytgoiodhofbkkdaa
open Go.RowKit
set_option linter.unusedVariables false
set_option maxRecDepth 100000
set_option linter.unusedSimpArgs false

theorem RwP.grown' {B : Nat} {w w' : World} {v : Value} {L : List (Int × Int)} {r : Option Nat} (h : RwP B w v L) (hg : w.grownBy w' r) (hr : ∀ k, v.ownBlock = some k → r ≠ some k) : RwP B w' v L := by
  refine ⟨h.row.1, ?_⟩
  rcases h.row.2 with h' | ⟨g', cap, cur, hv, h1, hh, q⟩
  · exact .inl h'
  · exact .inr ⟨g', cap, cur, hv, h1, by rw [hg.block g' (Array.getElem?_eq_some_iff.1 hh).1 (fun e => hr g' (by rw [hv]; rfl) e.symm)]; exact hh, q⟩
theorem below_of_grown2 {w0 w w' : World} {r : Option Nat} (h : Below w0.heap.size w0 w) (hg : w.grownBy w' r) (hr : ∀ k, r = some k → w0.heap.size ≤ k) : Below w0.heap.size w0 w' := h.grown hg h.size hr
/-- The hull and the empty row, ahead of the first append. -/
structure CvA (w1 W : World) (E : Nat) (vH : Value) (H : List (Int × Int)) : Prop where
  hull : RwP 0 W vH H
  hne : ∀ k, vH.ownBlock = some k → (some E : Option Nat) ≠ some k
  hlt : ∀ k, vH.ownBlock = some k → k < W.heap.size
  emp : RwP 0 W (.slice (some ⟨E, 0, none⟩) 0 0) []
  bel : Below w1.heap.size w1 W
  low : w1.heap.size ≤ E
/-- .. and behind it. -/
structure CvB (w1 W : World) (v vH : Value) (H D : List (Int × Int)) : Prop where
  hull : RwP 0 W vH H
  hne : ∀ k, vH.ownBlock = some k → v.ownBlock ≠ some k
  row : RwP 0 W v D
  bel : Below w1.heap.size w1 W
  low : ∀ k, v.ownBlock = some k → w1.heap.size ≤ k
theorem own_ge {E B : Nat} (h : B ≤ E) : ∀ k, (Value.slice (some ⟨E, 0, none⟩) 0 0).ownBlock = some k → B ≤ k := fun k e => by cases e; exact h
theorem ob_next {w : World} {v v' u : Value} {E : Nat} (h : v'.ownBlock = (Value.slice (some ⟨E, 0, none⟩) 0 0).ownBlock ∨ v'.ownBlock = some w.heap.size) (hu : ∀ k, u.ownBlock = some k → (some E : Option Nat) ≠ some k) (hl : ∀ k, u.ownBlock = some k → k < w.heap.size) : ∀ k, u.ownBlock = some k → v'.ownBlock ≠ some k := fun k hk e => by
  rcases h with h | h
  · exact hu k hk (by rw [← e, h]; rfl)
  · rw [e] at h; cases h; have := hl _ hk; omega
theorem ob_low {w : World} {v' : Value} {E B : Nat} (h : v'.ownBlock = (Value.slice (some ⟨E, 0, none⟩) 0 0).ownBlock ∨ v'.ownBlock = some w.heap.size) (hE : B ≤ E) (hw : B ≤ w.heap.size) : ∀ k, v'.ownBlock = some k → B ≤ k := fun k hk => by
  rcases h with h | h
  · rw [hk] at h; cases h; exact hE
  · rw [hk] at h; cases h; exact hw
theorem CvA.next {w1 W w7 : World} {E m : Nat} {vH v7 : Value} {H D : List (Int × Int)} (h : CvA w1 W E vH H) (own : w7.ownsRow 0 31 2 v7 (0 + m) (flatP [] ++ flatP D)) (hD : D.length = m) (gr : W.grownBy w7 (Value.slice (some ⟨E, 0, none⟩) 0 0).ownBlock)
    (bl : v7.ownBlock = (Value.slice (some ⟨E, 0, none⟩) 0 0).ownBlock ∨ v7.ownBlock = some W.heap.size) : CvB w1 w7 v7 vH H D :=
  ⟨h.hull.grown' gr h.hne, ob_next (v := v7) bl h.hne h.hlt, by have := RwP.join (L := []) (n := m) (M := D) own hD; simpa using this, below_of_grown2 h.bel gr (own_ge h.low), ob_low bl h.low h.bel.size⟩
theorem CvB.next {w1 W w8 : World} {m : Nat} {v vH v8 : Value} {H D F : List (Int × Int)} (h : CvB w1 W v vH H D) (own : w8.ownsRow 0 31 2 v8 (D.length + m) (flatP D ++ flatP F)) (hF : F.length = m) (gr : W.grownBy w8 v.ownBlock) :
    RwP 0 w8 v8 (D ++ F) ∧ RwP 0 w8 vH H ∧ Below w1.heap.size w1 w8 :=
  ⟨RwP.join own hF, h.hull.grown' gr h.hne, below_of_grown2 h.bel gr h.low⟩
theorem CvA.first {w1 w5 : World} {v5 : Value} {H : List (Int × Int)} {B : Nat} (hb : Below w1.heap.size w1 w5) (h : RwP B w5 v5 H) : CvA w1 (w5.alloc (.cells #[] 31)) w5.heap.size v5 H :=
  ⟨(h.later ((Below.refl _ _).alloc (Nat.le_refl _) _)).mono (Nat.zero_le _), fun k hk e => by cases e; have := (own_lt h _ hk).2; omega, fun k hk => by have := (own_lt h k hk).2; simp; omega, (empty_rw w5).mono (Nat.zero_le _), hb.alloc hb.size _, hb.size⟩
theorem CvA.second {w1 w5 : World} {v5 : Value} {H : List (Int × Int)} (hb : Below ((w1.alloc (.cells #[] 31)).drew).heap.size ((w1.alloc (.cells #[] 31)).drew) w5) (h : RwP ((w1.alloc (.cells #[] 31)).drew).heap.size w5 v5 H) : CvA w1 w5 w1.heap.size v5 H :=
  ⟨h.mono (Nat.zero_le _), fun k hk e => by cases e; have := (own_lt h _ hk).1; simp at this; omega, fun k hk => (own_lt h k hk).2, ((((empty_rw w1).later (Below.refl _ _).drew)).later hb).mono (Nat.zero_le _), below_on ((((Below.refl _ _).alloc (Nat.le_refl _) _)).drew) hb, Nat.le_refl _⟩
theorem step_append_at' {P : Program} {ops : Array Oper} {o : Oper} {a : Act} {w : World} {K : Act → World → Prop} {Q : Exit → Act → World → Prop} {E : Prop} (hgd : o.guard = none) (s x : Operand) (t : TypeId)
    (ho : o.op = .call { callee := .builtin .append, args := #[s, x], argTypes := #[t, t] })
    (base : Nat) (e : TypeId) (i : TypeInfo) (z : Value) (size bytes : Nat) (ht : P.underlying t = some (.slice e)) (hi : P.info? e = some i) (hz : i.zero = some z)
    (hsize : i.size = size) (hby : i.bytes = bytes) (hzs : z.cells.size = size) (hsz : 0 < size)
    (v : Value) (n : Nat) (xs : List Value) (hs : a.eval s = v) (hown : w.ownsRow base e size v n xs)
    (ad : Addr) (m c : Nat) (news : List Value) (hx : a.eval x = .slice (some ad) m c) (hl : news.length = m * size) (hnews : ∀ j u, news[j]? = some u → w.cell? (ad.add j) = some u) (h1 : ∀ u ∈ news, u.oneCell' = true)
    (h63 : n + m ≤ maxLen) (hbytes : (n + m) * bytes ≤ 140737488355328) (hbase : base ≤ w.heap.size)
    (h : ∀ v' w', w'.ownsRow base e size v' (n + m) (xs ++ news) → w.grownBy w' v.ownBlock → (v'.ownBlock = v.ownBlock ∨ v'.ownBlock = some w.heap.size) → K (a.put o.dst v') w') :
    if Region.wanted o (yielded ops a.tmps) = true then Oper.wp P o a w K Q else E := by
  have hw : Region.wanted o (yielded ops a.tmps) = true := by simp [Region.wanted, hgd]
  rw [if_pos hw]
  obtain ⟨v', w', hr, h2, h3, _, h5⟩ := run_append_own_at (P := P) w base t o.type e i z size bytes ht hi hz hsize hby hzs hsz v n xs hown ad m c news hl hnews h1 h63 hbytes hbase
  unfold Oper.wp execOp
  simp only [ho, resolve, invoke, builtin, Sem.run_bind, Sem.run_pure, Result.andThen_ok, List.map_toArray, List.map_cons, List.map_nil, hs, hx, hr]
  exact h v' w' h2 h3 h5
theorem hul_len' (l : List (Int × Int)) : (hulV l).length ≤ 2 * l.length := by
  have h1 := sort_len l
  have h2 := chain_len (sortP l)
  have h3 := chain_len (sortP l).reverse
  unfold hulV
  split
  · omega
  · simp at h3 ⊢; omega
theorem sl_part {w : World} {b off : Nat} {l : List (Int × Int)} (h : ∀ i (h : i < l.length), w.cell? ⟨b, off + i * 2, none⟩ = some (.int .i64 l[i].1) ∧ w.cell? ⟨b, off + i * 2 + 1, none⟩ = some (.int .i64 l[i].2)) (k : Nat) (hk : k ≤ l.length) :
    (∀ j u, (flatP (l.drop k))[j]? = some u → w.cell? ((⟨b, off + k * 2, none⟩ : Addr).add j) = some u) ∧ ∀ j u, (flatP (l.take k))[j]? = some u → w.cell? ((⟨b, off, none⟩ : Addr).add j) = some u := by
  constructor
  · have := sl_news h k (l.length - k) (by omega)
    rw [List.take_of_length_le (by rw [List.length_drop]; exact Nat.le_refl _)] at this
    exact this
  · have := sl_news h 0 k (by omega)
    simpa using this
set_option maxHeartbeats 8000000 in
theorem convexI (a : Option Addr) (n c : Nat) (l : List (Int × Int)) (w : World) (h : ArP w a n c l) (h0 : 0 < n) (h1 : n ≤ 50) (hg : ∀ p ∈ l, Near p) :
    Calls Try.prog 63 #[.slice a n c] w fun e w' => e = .returned (.bool (cvV l)) ∧ Below w.heap.size w w' := by
  have hn := h.len
  have hcap := h.cap
  have htop := h.top
  unfold maxLen at htop
  have NE : l ≠ [] := fun e => by rw [e] at hn; simp at hn; omega
  have CH := hide (fun w (x : SlP w a l) => hullI a n c l w x hn h0 h1 hg)
  have HH := hul_head NE
  have SH := (sort_head NE).1
  rw [← HH.1] at SH
  have LI := least_ix NE
  rw [← HH.1] at LI
  have CI := hide (fun w (x : SlP w a l) => indexI a n c l ((hulV l).getD 0 (0, 0)) w x hn (by omega) SH)
  rw [LI] at CI
  have EV : Hid (cvV l = decide (hulV l = l.drop (leK l l.length) ++ l.take (leK l l.length))) := hide rfl
  have KL := leK_lt l l.length (by omega) (Nat.le_refl _)
  generalize leK l l.length = k at *
  have NH := hide HH.2
  have HLn := hide (hul_len' l)
  generalize cvV l = r at *
  generalize hulV l = H at *
  have HN := hide hn
  rw [hn] at KL
  rcases h.sl with e | ⟨b, off, rfl, hbb, hc⟩
  · exact absurd e NE
  have HC := hide hc
  have HS := hide h.sl
  clear hc h hn hg NE HH SH LI
  go_enter Try.func63, Try.ntmps63
  go_wp2_with fail
  refine (unhide CH _ (unhide HS)).mono ?_
  rintro e w1 ⟨v, rfl, hb1, rw1⟩
  rcases rw1.open with ⟨_, h⟩ | ⟨g, hc1, rfl, _, _, hcc, hcm, hce⟩
  · exact absurd h (unhide NH)
  have LP : 0 < H.length := List.length_pos_iff.2 (unhide NH)
  have x0 := rw1.at_ (i := 0) LP
  have e0 : w1.cell? ⟨g, 0, none⟩ = some (.int .i64 (H.getD 0 (0, 0)).1) := by simpa using x0.1
  have e1 : w1.cell? ⟨g, 1, none⟩ = some (.int .i64 (H.getD 0 (0, 0)).2) := by simpa using x0.2
  have RH := hide rw1.sl_at
  have HB1 := hide hb1
  replace HS := hide ((unhide HS).later hb1)
  have SZ1 := hb1.size
  obtain ⟨m, hm⟩ : ∃ m, m = H.length := ⟨_, rfl⟩
  have HM := hide hm.symm
  rw [← hm] at LP hcc ⊢
  have lp : (0 : Int) < (m : Int) := by omega
  have m100 : m ≤ 100 := by have := unhide HLn; have := unhide HN; omega
  clear hm rw1 hb1 hce x0 CH
  generalize H.getD 0 (0, 0) = q at *
  go_wp2_with fail
  refine (unhide CI _ (unhide HS)).mono ?_
  rintro e w2 ⟨rfl, hb2⟩
  have HB2 := hide (below_on (unhide HB1) hb2)
  replace RH := hide ((unhide RH).later hb2)
  clear hb2 HB1 CI e0 e1 HS
  have al : Below w2.heap.size w2 ((w2.alloc (.cells #[.slice (some ⟨b, off + k * 2, none⟩) (n - k) (c - k), .slice (some ⟨b, off, none⟩) k c] 23)).drew) := ((Below.refl _ _).alloc (Nat.le_refl _) _).drew
  have HB3 := hide (below_on (unhide HB2) al)
  have cells : ∀ i (h : i < l.length), ((w2.alloc (.cells #[.slice (some ⟨b, off + k * 2, none⟩) (n - k) (c - k), .slice (some ⟨b, off, none⟩) k c] 23)).drew).cell? ⟨b, off + i * 2, none⟩ = some (.int .i64 l[i].1) ∧ ((w2.alloc (.cells #[.slice (some ⟨b, off + k * 2, none⟩) (n - k) (c - k), .slice (some ⟨b, off, none⟩) k c] 23)).drew).cell? ⟨b, off + i * 2 + 1, none⟩ = some (.int .i64 l[i].2) := fun i hi => ⟨cell_later (unhide HB3) (unhide HC i hi).1, cell_later (unhide HB3) (unhide HC i hi).2⟩
  have PT := sl_part cells k (by rw [unhide HN]; omega)
  have CC := hide (concatI w2.heap.size ⟨b, off + k * 2, none⟩ ⟨b, off, none⟩ (n - k) (c - k) k c (l.drop k) (l.take k) ((w2.alloc (.cells #[.slice (some ⟨b, off + k * 2, none⟩) (n - k) (c - k), .slice (some ⟨b, off, none⟩) k c] 23)).drew) (two_cells _ _ _).1 (two_cells _ _ _).2 (by rw [List.length_drop, unhide HN]) (by rw [List.length_take, unhide HN]; omega) PT.1 PT.2 (by omega) (by omega))
  have RH3 := hide ((unhide RH).later al)
  have LD : Hid ((l.drop k ++ l.take k).length = n) := hide (by have := unhide HN; rw [List.length_append, List.length_drop, List.length_take]; omega)
  generalize l.drop k ++ l.take k = D at *
  have kc : (k : Int) ≤ (n : Int) := by omega
  have kc1 : ¬ ((c : Int) = (k : Int)) := by omega
  have kc2 : ¬ (c = k) := by omega
  have kc3 : (k : Int) ≤ (c : Int) := by omega
  clear al cells PT RH HB2
  have HX0 : Hid True := hide trivial
  go_upto_region 3 with fail
  go_region_held3 (fun _ => True)
    (trivial)
    (first
    | (have chk := HX0; go_at_call 81; refine (unhide CC).mono ?_; rintro e w6 ⟨v6, rfl, rw6, hb6⟩; obtain ⟨a6, c6, rfl, _⟩ := rw6.sl; have RW6 := hide rw6; have HB6 := hide (below_on (unhide HB3) hb6); have RH6 := hide ((unhide RH3).later hb6); clear rw6 hb6 chk HX0)
    | (go_at_call 53; refine (sameI _ _ m _ _ _ H D _ (unhide RH6) (unhide RW6).sl_at (unhide HM) rfl (by omega)).mono ?_; rintro e w7 ⟨rfl, hb7⟩; have HB7 := hide (below_on (unhide HB6) hb7); clear hb7)
    | fail)
  go_wp2
  go_ret
  exact ⟨by rw [unhide EV]; rfl, unhide HB7⟩
set_option maxHeartbeats 8000000 in
theorem convexS (a : Option Addr) (n c : Nat) (l : List (Int × Int)) (w : World) (h : ArP w a n c l) (h0 : 0 < n) (h1 : n ≤ 50) (hg : ∀ p ∈ l, Near p) :
    Calls Try.prog 68 #[.slice a n c] w fun e w' => e = .returned (.bool (cvV l)) ∧ Below w.heap.size w w' := by
  obtain ⟨i0, hi, hz0, hz1, hz2⟩ := info_parts infoPt
  have hn := h.len
  have hcap := h.cap
  have htop := h.top
  unfold maxLen at htop
  have NE : l ≠ [] := fun e => by rw [e] at hn; simp at hn; omega
  have CH := hide (fun w (x : SlP w a l) => hullS a n c l w x hn h1 hg)
  have CL := hide (leastS a n c l w h.sl hn h0 (by omega))
  have HLH : Hid ((hulV l).length ≤ 1048576) := hide (by have := hul_len' l; omega)
  have EV : Hid (cvV l = decide (hulV l = l.drop (leK l l.length) ++ l.take (leK l l.length))) := hide rfl
  have KL := leK_lt l l.length (by omega) (Nat.le_refl _)
  generalize leK l l.length = k at *
  generalize cvV l = r at *
  generalize hulV l = H at *
  have HN := hide hn
  rw [hn] at KL
  rcases h.sl with e | ⟨b, off, rfl, hbb, hc⟩
  · exact absurd e NE
  have HC := hide hc
  have HS := hide h.sl
  clear hc h hn hg NE
  go_enter Try.func68, Try.ntmps68
  go_wp2_with fail
  refine (unhide CL).mono ?_
  rintro e w1 ⟨rfl, hb1⟩
  have HB1 := hide hb1
  replace HS := hide ((unhide HS).later hb1)
  have bw : b < w1.heap.size := Nat.lt_of_lt_of_le hbb hb1.size
  replace HC : Hid (∀ i (h : i < l.length), w1.cell? ⟨b, off + i * 2, none⟩ = some (.int .i64 l[i].1) ∧ w1.cell? ⟨b, off + i * 2 + 1, none⟩ = some (.int .i64 l[i].2)) := hide (fun i hi => ⟨cell_later hb1 (unhide HC i hi).1, cell_later hb1 (unhide HC i hi).2⟩)
  clear hb1 CL
  have FD : Hid ((flatP (l.drop k)).length = (n - k) * 2 ∧ (flatP (l.take k)).length = k * 2 ∧ (l.drop k).length = n - k ∧ (l.take k).length = k ∧ (l.drop k ++ l.take k).length = n) := hide (by
    have := unhide HN
    have e1 : (l.drop k).length = n - k := by rw [List.length_drop, this]
    have e2 : (l.take k).length = k := by rw [List.length_take, this]; omega
    exact ⟨by rw [flat_len, e1], by rw [flat_len, e2], e1, e2, by rw [List.length_append, e1, e2]; omega⟩)
  have kc : (k : Int) ≤ (n : Int) := by omega
  have kc1 : ¬ ((c : Int) = (k : Int)) := by omega
  have kc2 : ¬ (c = k) := by omega
  have kc3 : (k : Int) ≤ (c : Int) := by omega
  have PT := sl_part (unhide HC) k (by rw [unhide HN]; omega)
  have ND0 := hide PT.1
  have NT0 := hide PT.2
  clear PT
  have alE : Below w1.heap.size w1 ((w1.alloc (.cells #[] 31)).drew) := ((Below.refl _ _).alloc (Nat.le_refl _) _).drew
  have HS2 := hide ((unhide HS).later alE)
  have HS1 := hide ((unhide HS).later (Below.refl _ _).drew)
  have XB := hide ((empty_rw w1).later (Below.refl _ _).drew)
  have HH0 : Hid True := hide trivial
  have HALE := hide alE
  clear alE
  go_upto_region 2 with fail
  go_region_law (first
    | (have chk := HH0; go_simp; go_at_call 47; refine (unhide CH _ (unhide HS1)).mono ?_; rintro e w5 ⟨v5, rfl, hb5, rw5⟩; have A5 := hide (CvA.first (below_of_drew hb5) rw5); obtain ⟨aH, cH, rfl, _⟩ := rw5.sl; have ND := hide (fun j u hu => cell_later (unhide A5).bel (unhide ND0 j u hu)); clear rw5 hb5 chk HH0)
    | (have chk := HH0; go_simp; go_at_call 47; refine (unhide CH _ (unhide HS2)).mono ?_; rintro e w5 ⟨v5, rfl, hb5, rw5⟩; have A6 := hide (CvA.second hb5 rw5); obtain ⟨aH, cH, rfl, _⟩ := rw5.sl; have ND := hide (fun j u hu => cell_later (unhide A6).bel (unhide ND0 j u hu)); clear rw5 hb5 chk HH0)
    | (have chk := A5; refine step_append_at' rfl (.tmp 8) (.tmp 11) 23 rfl 0 31 i0 (.agg #[.int .i64 0, .int .i64 0]) 2 16 Try.underlying23 hi hz0 hz1 hz2 rfl (by decide) (.slice (some ⟨w5.heap.size, 0, none⟩) 0 0) 0 (flatP []) (by simp [Act.eval, Act.put]) (unhide A5).emp.row ⟨b, off + k * 2, none⟩ (n - k) (c - k) (flatP (l.drop k)) (by simp [Act.eval, Act.put]) (unhide FD).1 (unhide ND) (flat_one' _) (by unfold maxLen; omega) (by omega) (Nat.zero_le _) (fun v7 w7 own7 gr7 bl7 => ?_); have B7 := hide ((unhide A5).next (by first | exact own7 | (rw [Nat.zero_add]; exact own7)) (unhide FD).2.2.1 gr7 bl7); obtain ⟨a7, d7, rfl, _⟩ := (unhide B7).row.sl; rw [(unhide FD).2.2.1] at B7 ⊢; have NT := hide (fun j u hu => cell_later (unhide B7).bel (unhide NT0 j u hu)); clear own7 gr7 bl7 chk A5)
    | (have chk := A6; refine step_append_at' rfl (.tmp 8) (.tmp 11) 23 rfl 0 31 i0 (.agg #[.int .i64 0, .int .i64 0]) 2 16 Try.underlying23 hi hz0 hz1 hz2 rfl (by decide) (.slice (some ⟨w1.heap.size, 0, none⟩) 0 0) 0 (flatP []) (by simp [Act.eval, Act.put]) (unhide A6).emp.row ⟨b, off + k * 2, none⟩ (n - k) (c - k) (flatP (l.drop k)) (by simp [Act.eval, Act.put]) (unhide FD).1 (unhide ND) (flat_one' _) (by unfold maxLen; omega) (by omega) (Nat.zero_le _) (fun v7 w7 own7 gr7 bl7 => ?_); have B7 := hide ((unhide A6).next (by first | exact own7 | (rw [Nat.zero_add]; exact own7)) (unhide FD).2.2.1 gr7 bl7); obtain ⟨a7, d7, rfl, _⟩ := (unhide B7).row.sl; rw [(unhide FD).2.2.1] at B7 ⊢; have NT := hide (fun j u hu => cell_later (unhide B7).bel (unhide NT0 j u hu)); clear own7 gr7 bl7 chk A6)
    | (have chk := B7; refine step_append_at' rfl (.tmp 12) (.tmp 15) 23 rfl 0 31 i0 (.agg #[.int .i64 0, .int .i64 0]) 2 16 Try.underlying23 hi hz0 hz1 hz2 rfl (by decide) (.slice a7 (n - k) d7) (l.drop k).length (flatP (l.drop k)) (by simp [Act.eval, Act.put]) (unhide B7).row.row ⟨b, off, none⟩ k c (flatP (l.take k)) (by simp [Act.eval, Act.put]) (unhide FD).2.1 (unhide NT) (flat_one' _) (by rw [(unhide FD).2.2.1]; unfold maxLen; omega) (by rw [(unhide FD).2.2.1]; omega) (Nat.zero_le _) (fun v8 w8 own8 gr8 bl8 => ?_); have B8 := hide ((unhide B7).next own8 (unhide FD).2.2.2.1 gr8); obtain ⟨a8, d8, rfl, _⟩ := (unhide B8).1.sl; clear own8 gr8 bl8 chk B7)
    | (have chk := B8; go_simp; go_at_call 59; refine (same10 _ _ _ _ _ _ H (l.drop k ++ l.take k) _ (unhide B8).2.1.sl_at (unhide B8).1.sl_at rfl (by simp) (unhide HLH)).mono ?_; rintro e w9 ⟨rfl, hb9⟩; have HB9 := hide (below_on (unhide B8).2.2 hb9); clear hb9 chk B8)
    | fail)
  all_goals
    go_wp2
    go_ret
    exact ⟨by rw [unhide EV]; rfl, below_on (unhide HB1) (unhide HB9)⟩
end Go.Proofs.Ytgoiodhofbkkdaa
namespace Go.Proofs.Ytgoiodhofbkkdaa
open Go.RowKit
set_option linter.unusedVariables false
set_option maxRecDepth 100000
set_option linter.unusedSimpArgs false

def cnV (l : List (Int × Int)) : Bool := if wayB l then cvV l else false
def hpB (l : List (Int × Int)) (p : Int × Int) : Bool := wayB l && gPt p && cvV l
def hpV (l : List (Int × Int)) (p : Int × Int) : Bool := if hpB l p then haK l p l.length else false
def ihB (l r : List (Int × Int)) : Bool := cloB l && r.all gPt
def ihV (l r : List (Int × Int)) : Bool := if ihB l r then decide (hulV l = r) else false
set_option maxHeartbeats 4000000 in
theorem rightI (G n : Nat) (l : List (Int × Int)) (p : Int × Int) (w : World) (h : SgP w G n l) (h0 : 0 < n) (h1 : n ≤ 1000) (hg : ∀ p ∈ l, Near p) (hp : Near p) :
    Calls Try.prog 64 #[.slice (some ⟨G, 0, none⟩) n n, .agg #[.int .i64 p.1, .int .i64 p.2]] w fun e w' => e = .returned (.bool (haK l p l.length)) ∧ Below w.heap.size w w' := by
  have HN := hide h.len
  have SG := hide h
  have HG := hide hg
  have NP := hide hp
  have KP : Hid ((w.alloc (.cells #[.int .i64 p.1, .int .i64 p.2] 31)).cell? ⟨w.heap.size, 0, none⟩ = some (.int .i64 p.1) ∧ (w.alloc (.cells #[.int .i64 p.1, .int .i64 p.2] 31)).cell? ⟨w.heap.size, 1, none⟩ = some (.int .i64 p.2)) := hide (by simp [go_sem])
  have ltX : w.heap.size < (w.alloc (.cells #[.int .i64 p.1, .int .i64 p.2] 31)).heap.size := by simp
  have HB0 : Hid (Below w.heap.size w (w.alloc (.cells #[.int .i64 p.1, .int .i64 p.2] 31))) := hide ((Below.refl _ _).alloc (Nat.le_refl _) _)
  clear h hg hp
  go_enter Try.func64, Try.ntmps64
  go_upto_region 1 with fail
  generalize w.alloc (.cells #[.int .i64 p.1, .int .i64 p.2] 31) = w2 at *
  generalize hPX : w.heap.size = PX at *
  replace HB0 : Hid (Below w.heap.size w w2) := hide (by rw [hPX]; exact unhide HB0)
  clear hPX
  replace SG := hide ((unhide SG).later (unhide HB0))
  go_wp2
  go_loopw [9] (fun iv wr => ∃ i : Nat, i ≤ n ∧ iv = .int .i64 i ∧ Hid (haK l p i = true) ∧ Hid (Below w2.heap.size w2 wr)) (fun iv _ => n - (intOf iv).toNat)
  case atStart => exact ⟨0, Nat.zero_le _, rfl, hide rfl, hide (Below.refl _ _)⟩
  case round =>
    obtain ⟨i, hi, rfl, HI, HB⟩ := hrel
    by_cases hlt : i < n
    · have hlt' : (i : Int) < (n : Int) := by omega
      have e0 := ((unhide SG).later (unhide HB)).at_ i hlt
      have gl := ((unhide SG).later (unhide HB)).lt
      have np := unhide HG (l.getD i (0, 0)) (by rw [getD_gt (by rw [unhide HN]; exact hlt)]; exact List.getElem_mem _)
      have nq := unhide HG _ (nxt_mem (by rw [unhide HN]; omega) i)
      have ES : Hid (haK l p (i + 1) = !(decide (sgZ (crs (l.getD i (0, 0)) (nxt l i) p) < 0))) := hide (by rw [haK, unhide HI, Bool.true_and])
      have HF : Hid (haK l p (i + 1) = false → haK l p l.length = false) := hide (haK_le (by rw [unhide HN]; omega))
      have CT := hide (fun w => turnI (l.getD i (0, 0)) (nxt l i) p w np nq (unhide NP))
      generalize sgZ (crs (l.getD i (0, 0)) (nxt l i) p) = s at *
      generalize nxt l i = y at *
      generalize l.getD i (0, 0) = x at *
      have E0 := e0.1
      have E1 := e0.2.1
      have E2 := e0.2.2.1
      have E3 := e0.2.2.2
      have al : Below wr.heap.size wr (wr.alloc (.cells #[.int .i64 x.1, .int .i64 x.2, .int .i64 y.1, .int .i64 y.2] 95)) := (Below.refl _ _).alloc (Nat.le_refl _) _
      have HB3 := hide (below_on (unhide HB) al)
      have k0 : wr.cell? ⟨PX, 0, none⟩ = some (.int .i64 p.1) := ((unhide HB).cell (p := ⟨PX, 0, none⟩) ltX).trans (unhide KP).1
      have k1 : wr.cell? ⟨PX, 1, none⟩ = some (.int .i64 p.2) := ((unhide HB).cell (p := ⟨PX, 1, none⟩) ltX).trans (unhide KP).2
      replace k0 := cell_later al k0
      replace k1 := cell_later al k1
      have s0 : (wr.alloc (.cells #[.int .i64 x.1, .int .i64 x.2, .int .i64 y.1, .int .i64 y.2] 95)).cell? ⟨wr.heap.size, 0, none⟩ = some (.int .i64 x.1) := by simp [go_sem]
      have s1 : (wr.alloc (.cells #[.int .i64 x.1, .int .i64 x.2, .int .i64 y.1, .int .i64 y.2] 95)).cell? ⟨wr.heap.size, 1, none⟩ = some (.int .i64 x.2) := by simp [go_sem]
      have s2 : (wr.alloc (.cells #[.int .i64 x.1, .int .i64 x.2, .int .i64 y.1, .int .i64 y.2] 95)).cell? ⟨wr.heap.size, 2, none⟩ = some (.int .i64 y.1) := by simp [go_sem]
      have s3 : (wr.alloc (.cells #[.int .i64 x.1, .int .i64 x.2, .int .i64 y.1, .int .i64 y.2] 95)).cell? ⟨wr.heap.size, 3, none⟩ = some (.int .i64 y.2) := by simp [go_sem]
      clear e0 np nq al gl
      go_upto_region 4 with fail
      clear E0 E1 E2 E3 HB
      generalize wr.alloc (.cells #[.int .i64 x.1, .int .i64 x.2, .int .i64 y.1, .int .i64 y.2] 95) = w4 at *
      by_cases hs : s < 0
      · have EF := hide (unhide HF (by rw [unhide ES, decide_eq_true hs]; rfl))
        clear HF ES
        go_wp2_with fail
        refine (unhide CT _).mono ?_
        rintro e w5 ⟨rfl, hb5⟩
        have HB5 := hide (below_on (unhide HB0) (below_on (unhide HB3) hb5))
        clear hb5 k0 k1 s0 s1 s2 s3 CT
        go_wp2
        go_ret
        exact ⟨by rw [unhide EF]; rfl, unhide HB5⟩
      · have EF : Hid (haK l p (i + 1) = true) := hide (by rw [unhide ES, decide_eq_false hs]; rfl)
        clear HF ES
        go_wp2_with fail
        refine (unhide CT _).mono ?_
        rintro e w5 ⟨rfl, hb5⟩
        have HB5 := hide (below_on (unhide HB3) hb5)
        clear hb5 k0 k1 s0 s1 s2 s3 CT
        go_wp2
        go_roundw
        case rel => exact ⟨i + 1, by omega, by go_num, EF, HB5⟩
        case measure => simp [intOf]; omega
    · obtain rfl : i = n := by omega
      have EN : Hid (haK l p l.length = true) := hide (by rw [unhide HN]; exact unhide HI)
      go_wp2
      go_ret
      exact ⟨by rw [unhide EN]; rfl, below_on (unhide HB0) (unhide HB)⟩
set_option maxHeartbeats 2000000 in
theorem IsConvexS (a : Option Addr) (n c : Nat) (l : List (Int × Int)) (w : World) (h : ArP w a n c l) (h1 : n ≤ 1048576) :
    Calls Try.prog 33 #[.slice a n c] w fun e w' => e = .returned (.tuple #[.bool (cnV l), .bool (wayB l)]) ∧ Below w.heap.size w w' := by
  have hn := h.len
  have C1 := hide (fun w (k : SlP w a l) => wayS a n c l w k hn (by unfold maxLen; omega))
  have HS := hide h
  clear h
  unfold cnV
  cases hg : wayB l
  · rw [hg] at C1
    simp only [Bool.false_eq_true, if_false]
    clear hg
    go_enter Try.func33, Try.ntmps33
    go_wp2_with fail
    refine (unhide C1 _ (unhide HS).sl).mono ?_
    rintro e w1 ⟨rfl, hb⟩
    go_wp2_with fail
    go_ret2
    exact ⟨rfl, hb⟩
  · rw [hg] at C1
    have wp := way_parts hg
    have ln := wp.1
    rw [hn] at ln
    simp only [if_true]
    have C2 := hide (fun w (k : ArP w a n c l) => convexS a n c l w k (by omega) (by omega) wp.2)
    generalize cvV l = r at *
    clear hg wp hn ln
    go_enter Try.func33, Try.ntmps33
    go_wp2_with fail
    refine (unhide C1 _ (unhide HS).sl).mono ?_
    rintro e w1 ⟨rfl, hb⟩
    have HB := hide hb
    replace HS := hide ((unhide HS).later hb)
    clear hb
    go_wp2_with fail
    refine (unhide C2 _ (unhide HS)).mono ?_
    rintro e w2 ⟨rfl, hb⟩
    replace HB := hide (below_on (unhide HB) hb)
    clear hb
    go_wp2_with fail
    go_ret2
    exact ⟨rfl, unhide HB⟩
set_option maxHeartbeats 2000000 in
theorem IsConvexI (a : Option Addr) (n c : Nat) (l : List (Int × Int)) (w : World) (h : ArP w a n c l) (h1 : n ≤ 1048576) :
    Calls Try.prog 30 #[.slice a n c] w fun e w' => e = .returned (.tuple #[.bool (cnV l), .bool (wayB l)]) ∧ Below w.heap.size w w' := by
  have hn := h.len
  have C1 := hide (fun w (k : SlP w a l) => wayI a n c l w k hn (by unfold maxLen; omega))
  have HS := hide h
  clear h
  unfold cnV
  cases hg : wayB l
  · rw [hg] at C1
    simp only [Bool.false_eq_true, if_false]
    clear hg
    go_enter Try.func30, Try.ntmps30
    go_wp2_with fail
    refine (unhide C1 _ (unhide HS).sl).mono ?_
    rintro e w1 ⟨rfl, hb⟩
    go_wp2_with fail
    go_ret2
    exact ⟨rfl, hb⟩
  · rw [hg] at C1
    have wp := way_parts hg
    have ln := wp.1
    rw [hn] at ln
    simp only [if_true]
    have C2 := hide (fun w (k : ArP w a n c l) => convexI a n c l w k (by omega) (by omega) wp.2)
    generalize cvV l = r at *
    clear hg wp hn ln
    go_enter Try.func30, Try.ntmps30
    go_wp2_with fail
    refine (unhide C1 _ (unhide HS).sl).mono ?_
    rintro e w1 ⟨rfl, hb⟩
    have HB := hide hb
    replace HS := hide ((unhide HS).later hb)
    clear hb
    go_wp2_with fail
    refine (unhide C2 _ (unhide HS)).mono ?_
    rintro e w2 ⟨rfl, hb⟩
    replace HB := hide (below_on (unhide HB) hb)
    clear hb
    go_wp2_with fail
    go_ret2
    exact ⟨rfl, unhide HB⟩
set_option maxHeartbeats 4000000 in
theorem HasPtS (a : Option Addr) (n c : Nat) (l : List (Int × Int)) (p : Int × Int) (w : World) (h : ArP w a n c l) (h1 : n ≤ 1048576) :
    Calls Try.prog 27 #[.slice a n c, .agg #[.int .i64 p.1, .int .i64 p.2]] w fun e w' => e = .returned (.tuple #[.bool (hpV l p), .bool (hpB l p)]) ∧ Below w.heap.size w w' := by
  have hn := h.len
  have C1 := hide (fun w (k : SlP w a l) => wayS a n c l w k hn (by unfold maxLen; omega))
  have C2 := hide (fun w => goodPS p.1 p.2 w)
  change Hid (∀ w, Calls _ _ _ w fun e w' => e = .returned (.bool (gPt p)) ∧ _) at C2
  have al0 : Below w.heap.size w (w.alloc (.cells #[.int .i64 p.1, .int .i64 p.2] 31)) := (Below.refl _ _).alloc (Nat.le_refl _) _
  have B0 := hide al0
  have HS := hide (h.later al0)
  have k0 : (w.alloc (.cells #[.int .i64 p.1, .int .i64 p.2] 31)).cell? ⟨w.heap.size, 0, none⟩ = some (.int .i64 p.1) := by simp [go_sem]
  have k1 : (w.alloc (.cells #[.int .i64 p.1, .int .i64 p.2] 31)).cell? ⟨w.heap.size, 1, none⟩ = some (.int .i64 p.2) := by simp [go_sem]
  unfold hpV hpB
  clear h al0
  cases hg : wayB l
  · rw [hg] at C1
    simp only [Bool.false_and, Bool.false_eq_true, if_false]
    clear hg
    go_enter Try.func27, Try.ntmps27
    go_wp2_with fail
    refine (unhide C1 _ (unhide HS).sl).mono ?_
    rintro e w1 ⟨rfl, hb⟩
    replace k0 := cell_later hb k0
    replace k1 := cell_later hb k1
    replace HS := hide ((unhide HS).later hb)
    have HB := hide (below_on (unhide B0) hb)
    clear hb
    clear k0 k1
    go_wp2_with fail
    go_ret2
    exact ⟨rfl, unhide HB⟩
  · rw [hg] at C1
    have wp := way_parts hg
    have ln := wp.1
    rw [hn] at ln
    cases hq : gPt p
    · rw [hq] at C2
      simp only [Bool.true_and, Bool.false_and, Bool.false_eq_true, if_false]
      clear hg hq wp hn ln
      go_enter Try.func27, Try.ntmps27
      go_wp2_with fail
      refine (unhide C1 _ (unhide HS).sl).mono ?_
      rintro e w1 ⟨rfl, hb⟩
      replace k0 := cell_later hb k0
      replace k1 := cell_later hb k1
      replace HS := hide ((unhide HS).later hb)
      have HB := hide (below_on (unhide B0) hb)
      clear hb
      go_wp2_with fail
      refine (unhide C2 _).mono ?_
      rintro e w2 ⟨rfl, hb⟩
      replace k0 := cell_later hb k0
      replace k1 := cell_later hb k1
      replace HS := hide ((unhide HS).later hb)
      replace HB := hide (below_on (unhide HB) hb)
      clear hb
      clear k0 k1
      go_wp2_with fail
      go_ret2
      exact ⟨rfl, unhide HB⟩
    · rw [hq] at C2
      have npp := near_of hq
      have C3 := hide (fun w (k : ArP w a n c l) => convexS a n c l w k (by omega) (by omega) wp.2)
      cases hc : cvV l
      · rw [hc] at C3
        simp only [Bool.true_and, Bool.and_false, Bool.false_eq_true, if_false]
        clear hg hq hc wp hn ln npp
        go_enter Try.func27, Try.ntmps27
        go_wp2_with fail
        refine (unhide C1 _ (unhide HS).sl).mono ?_
        rintro e w1 ⟨rfl, hb⟩
        replace k0 := cell_later hb k0
        replace k1 := cell_later hb k1
        replace HS := hide ((unhide HS).later hb)
        have HB := hide (below_on (unhide B0) hb)
        clear hb
        go_wp2_with fail
        refine (unhide C2 _).mono ?_
        rintro e w2 ⟨rfl, hb⟩
        replace k0 := cell_later hb k0
        replace k1 := cell_later hb k1
        replace HS := hide ((unhide HS).later hb)
        replace HB := hide (below_on (unhide HB) hb)
        clear hb
        go_wp2_with fail
        refine (unhide C3 _ (unhide HS)).mono ?_
        rintro e w3 ⟨rfl, hb⟩
        replace k0 := cell_later hb k0
        replace k1 := cell_later hb k1
        replace HS := hide ((unhide HS).later hb)
        replace HB := hide (below_on (unhide HB) hb)
        clear hb
        clear k0 k1
        go_wp2_with fail
        go_ret2
        exact ⟨rfl, unhide HB⟩
      · rw [hc] at C3
        simp only [Bool.true_and, Bool.and_true, if_true]
        have C4 := hide (fun w (k : SlP w a l) => hasS10 a n c l p w k hn (by omega) (by omega) wp.2 npp)
        generalize haK l p l.length = r at *
        clear hg hq hc wp hn ln npp
        go_enter Try.func27, Try.ntmps27
        go_wp2_with fail
        refine (unhide C1 _ (unhide HS).sl).mono ?_
        rintro e w1 ⟨rfl, hb⟩
        replace k0 := cell_later hb k0
        replace k1 := cell_later hb k1
        replace HS := hide ((unhide HS).later hb)
        have HB := hide (below_on (unhide B0) hb)
        clear hb
        go_wp2_with fail
        refine (unhide C2 _).mono ?_
        rintro e w2 ⟨rfl, hb⟩
        replace k0 := cell_later hb k0
        replace k1 := cell_later hb k1
        replace HS := hide ((unhide HS).later hb)
        replace HB := hide (below_on (unhide HB) hb)
        clear hb
        go_wp2_with fail
        refine (unhide C3 _ (unhide HS)).mono ?_
        rintro e w3 ⟨rfl, hb⟩
        replace k0 := cell_later hb k0
        replace k1 := cell_later hb k1
        replace HS := hide ((unhide HS).later hb)
        replace HB := hide (below_on (unhide HB) hb)
        clear hb
        go_wp2_with fail
        refine (unhide C4 _ (unhide HS).sl).mono ?_
        rintro e w5 ⟨rfl, hb⟩
        replace HB := hide (below_on (unhide HB) hb)
        clear hb k0 k1
        go_wp2_with fail
        go_ret2
        exact ⟨rfl, unhide HB⟩
set_option maxHeartbeats 4000000 in
theorem HasPtI (a : Option Addr) (n c : Nat) (l : List (Int × Int)) (p : Int × Int) (w : World) (h : ArP w a n c l) (h1 : n ≤ 1048576) :
    Calls Try.prog 26 #[.slice a n c, .agg #[.int .i64 p.1, .int .i64 p.2]] w fun e w' => e = .returned (.tuple #[.bool (hpV l p), .bool (hpB l p)]) ∧ Below w.heap.size w w' := by
  have hn := h.len
  have C1 := hide (fun w (k : SlP w a l) => wayI a n c l w k hn (by unfold maxLen; omega))
  have C2 := hide (fun w => goodPI p.1 p.2 w)
  change Hid (∀ w, Calls _ _ _ w fun e w' => e = .returned (.bool (gPt p)) ∧ _) at C2
  have al0 : Below w.heap.size w (w.alloc (.cells #[.int .i64 p.1, .int .i64 p.2] 31)) := (Below.refl _ _).alloc (Nat.le_refl _) _
  have B0 := hide al0
  have HS := hide (h.later al0)
  have k0 : (w.alloc (.cells #[.int .i64 p.1, .int .i64 p.2] 31)).cell? ⟨w.heap.size, 0, none⟩ = some (.int .i64 p.1) := by simp [go_sem]
  have k1 : (w.alloc (.cells #[.int .i64 p.1, .int .i64 p.2] 31)).cell? ⟨w.heap.size, 1, none⟩ = some (.int .i64 p.2) := by simp [go_sem]
  unfold hpV hpB
  clear h al0
  cases hg : wayB l
  · rw [hg] at C1
    simp only [Bool.false_and, Bool.false_eq_true, if_false]
    clear hg
    go_enter Try.func26, Try.ntmps26
    go_wp2_with fail
    refine (unhide C1 _ (unhide HS).sl).mono ?_
    rintro e w1 ⟨rfl, hb⟩
    replace k0 := cell_later hb k0
    replace k1 := cell_later hb k1
    replace HS := hide ((unhide HS).later hb)
    have HB := hide (below_on (unhide B0) hb)
    clear hb
    clear k0 k1
    go_wp2_with fail
    go_ret2
    exact ⟨rfl, unhide HB⟩
  · rw [hg] at C1
    have wp := way_parts hg
    have ln := wp.1
    rw [hn] at ln
    cases hq : gPt p
    · rw [hq] at C2
      simp only [Bool.true_and, Bool.false_and, Bool.false_eq_true, if_false]
      clear hg hq wp hn ln
      go_enter Try.func26, Try.ntmps26
      go_wp2_with fail
      refine (unhide C1 _ (unhide HS).sl).mono ?_
      rintro e w1 ⟨rfl, hb⟩
      replace k0 := cell_later hb k0
      replace k1 := cell_later hb k1
      replace HS := hide ((unhide HS).later hb)
      have HB := hide (below_on (unhide B0) hb)
      clear hb
      go_wp2_with fail
      refine (unhide C2 _).mono ?_
      rintro e w2 ⟨rfl, hb⟩
      replace k0 := cell_later hb k0
      replace k1 := cell_later hb k1
      replace HS := hide ((unhide HS).later hb)
      replace HB := hide (below_on (unhide HB) hb)
      clear hb
      clear k0 k1
      go_wp2_with fail
      go_ret2
      exact ⟨rfl, unhide HB⟩
    · rw [hq] at C2
      have npp := near_of hq
      have C3 := hide (fun w (k : ArP w a n c l) => convexI a n c l w k (by omega) (by omega) wp.2)
      cases hc : cvV l
      · rw [hc] at C3
        simp only [Bool.true_and, Bool.and_false, Bool.false_eq_true, if_false]
        clear hg hq hc wp hn ln npp
        go_enter Try.func26, Try.ntmps26
        go_wp2_with fail
        refine (unhide C1 _ (unhide HS).sl).mono ?_
        rintro e w1 ⟨rfl, hb⟩
        replace k0 := cell_later hb k0
        replace k1 := cell_later hb k1
        replace HS := hide ((unhide HS).later hb)
        have HB := hide (below_on (unhide B0) hb)
        clear hb
        go_wp2_with fail
        refine (unhide C2 _).mono ?_
        rintro e w2 ⟨rfl, hb⟩
        replace k0 := cell_later hb k0
        replace k1 := cell_later hb k1
        replace HS := hide ((unhide HS).later hb)
        replace HB := hide (below_on (unhide HB) hb)
        clear hb
        go_wp2_with fail
        refine (unhide C3 _ (unhide HS)).mono ?_
        rintro e w3 ⟨rfl, hb⟩
        replace k0 := cell_later hb k0
        replace k1 := cell_later hb k1
        replace HS := hide ((unhide HS).later hb)
        replace HB := hide (below_on (unhide HB) hb)
        clear hb
        clear k0 k1
        go_wp2_with fail
        go_ret2
        exact ⟨rfl, unhide HB⟩
      · rw [hc] at C3
        simp only [Bool.true_and, Bool.and_true, if_true]
        have C5 := hide (fun w (k : SlP w a l) => segsI a n c l w k hn (by omega) (by omega))
        have C4 := hide (fun G w (k : SgP w G n l) => rightI G n l p w k (by omega) (by omega) wp.2 npp)
        generalize haK l p l.length = r at *
        clear hg hq hc wp hn ln npp
        go_enter Try.func26, Try.ntmps26
        go_wp2_with fail
        refine (unhide C1 _ (unhide HS).sl).mono ?_
        rintro e w1 ⟨rfl, hb⟩
        replace k0 := cell_later hb k0
        replace k1 := cell_later hb k1
        replace HS := hide ((unhide HS).later hb)
        have HB := hide (below_on (unhide B0) hb)
        clear hb
        go_wp2_with fail
        refine (unhide C2 _).mono ?_
        rintro e w2 ⟨rfl, hb⟩
        replace k0 := cell_later hb k0
        replace k1 := cell_later hb k1
        replace HS := hide ((unhide HS).later hb)
        replace HB := hide (below_on (unhide HB) hb)
        clear hb
        go_wp2_with fail
        refine (unhide C3 _ (unhide HS)).mono ?_
        rintro e w3 ⟨rfl, hb⟩
        replace k0 := cell_later hb k0
        replace k1 := cell_later hb k1
        replace HS := hide ((unhide HS).later hb)
        replace HB := hide (below_on (unhide HB) hb)
        clear hb
        go_upto_region 3 with fail
        have HX0 : Hid True := hide trivial
        go_region_held3 (fun w' => w'.cell? ⟨w.heap.size, 0, none⟩ = some (.int .i64 p.1) ∧ w'.cell? ⟨w.heap.size, 1, none⟩ = some (.int .i64 p.2))
          (with_reducible (first | exact ⟨k0, k1⟩ | exact ⟨cdP k0, cdP k1⟩ | fail))
          (first
          | (have chk := HX0; go_at_call 65; refine (unhide C5 _ ((unhide HS).sl.later (Below.refl _ _).drew)).mono ?_; rintro e w5 ⟨rfl, hb1, sg⟩; have hbx := below_of_drew hb1; have SG := hide sg; replace k0 := cell_later hbx k0; replace k1 := cell_later hbx k1; replace HB := hide (below_on (unhide HB) hbx); clear hb1 hbx sg chk HX0)
          | (go_at_call 64; refine (unhide C4 _ _ (unhide SG)).mono ?_; rintro e w6 ⟨rfl, hb1⟩; replace k0 := cell_later hb1 k0; replace k1 := cell_later hb1 k1; replace HB := hide (below_on (unhide HB) hb1); clear hb1)
          | fail)
        clear k0 k1
        go_wp2_with fail
        go_ret2
        exact ⟨rfl, unhide HB⟩
set_option maxHeartbeats 4000000 in
theorem IsHullS (a : Option Addr) (n c : Nat) (l : List (Int × Int)) (b : Option Addr) (m d : Nat) (r : List (Int × Int)) (w : World) (h : ArP w a n c l) (h' : ArP w b m d r) (h1 : n ≤ 1048576) (h2 : m ≤ 1048576) :
    Calls Try.prog 22 #[.slice a n c, .slice b m d] w fun e w' => e = .returned (.tuple #[.bool (ihV l r), .bool (ihB l r)]) ∧ Below w.heap.size w w' := by
  have hn := h.len
  have hm := h'.len
  have C1 := hide (fun w (k : SlP w a l) => cloudS a n c l w k hn (by unfold maxLen; omega))
  have C2 := hide (fun w (k : SlP w b r) => ptsS b m d r w k hm (by unfold maxLen; omega))
  have HS := hide h.sl
  have HR := hide h'.sl
  unfold ihV ihB
  clear h h'
  cases hg : cloB l
  · rw [hg] at C1
    simp only [Bool.false_and, Bool.false_eq_true, if_false]
    clear hg
    go_enter Try.func22, Try.ntmps22
    go_wp2_with fail
    refine (unhide C1 _ (unhide HS)).mono ?_
    rintro e w1 ⟨rfl, hb⟩
    go_wp2_with fail
    go_ret2
    exact ⟨rfl, hb⟩
  · rw [hg] at C1
    have cp := clo_parts hg
    have cn : ∀ p ∈ l, Near p := fun p hq => near_of (cp.2 p hq)
    cases hq : r.all gPt
    · rw [hq] at C2
      simp only [Bool.true_and, Bool.false_eq_true, if_false]
      clear hg hq cp cn
      go_enter Try.func22, Try.ntmps22
      go_wp2_with fail
      refine (unhide C1 _ (unhide HS)).mono ?_
      rintro e w1 ⟨rfl, hb⟩
      have HB := hide hb
      replace HR := hide ((unhide HR).later hb)
      clear hb
      go_wp2_with fail
      refine (unhide C2 _ (unhide HR)).mono ?_
      rintro e w2 ⟨rfl, hb⟩
      replace HB := hide (below_on (unhide HB) hb)
      clear hb
      go_wp2_with fail
      go_ret2
      exact ⟨rfl, unhide HB⟩
    · rw [hq] at C2
      simp only [Bool.true_and, if_true]
      have C3 := hide (fun w (k : SlP w a l) => hullS a n c l w k hn (by have := cp.1; omega) cn)
      have HL : Hid ((hulV l).length ≤ 100) := hide (by have := hul_len' l; have := cp.1; omega)
      have HN := hide hn
      have HM := hide hm
      generalize hulV l = H at *
      clear hg hq cp cn hn hm
      go_enter Try.func22, Try.ntmps22
      go_wp2_with fail
      refine (unhide C1 _ (unhide HS)).mono ?_
      rintro e w1 ⟨rfl, hb⟩
      have HB := hide hb
      replace HS := hide ((unhide HS).later hb)
      replace HR := hide ((unhide HR).later hb)
      clear hb
      go_wp2_with fail
      refine (unhide C2 _ (unhide HR)).mono ?_
      rintro e w2 ⟨rfl, hb⟩
      replace HB := hide (below_on (unhide HB) hb)
      replace HS := hide ((unhide HS).later hb)
      replace HR := hide ((unhide HR).later hb)
      clear hb
      go_wp2_with fail
      refine (unhide C3 _ (unhide HS)).mono ?_
      rintro e w3 ⟨v, rfl, hb, rw3⟩
      obtain ⟨a3, c3, rfl, hs3⟩ := rw3.sl
      replace HB := hide (below_on (unhide HB) hb)
      replace HR := hide ((unhide HR).later hb)
      have HH := hide hs3
      clear hb rw3 hs3
      go_wp2_with fail
      refine (same10 a3 b H.length c3 m d H r _ (unhide HH) (unhide HR) rfl (unhide HM) (by have := unhide HL; omega)).mono ?_
      rintro e w4 ⟨rfl, hb⟩
      replace HB := hide (below_on (unhide HB) hb)
      clear hb
      go_wp2_with fail
      go_ret2
      exact ⟨rfl, unhide HB⟩
set_option maxHeartbeats 4000000 in
theorem IsHullI (a : Option Addr) (n c : Nat) (l : List (Int × Int)) (b : Option Addr) (m d : Nat) (r : List (Int × Int)) (w : World) (h : ArP w a n c l) (h' : ArP w b m d r) (h1 : n ≤ 1048576) (h2 : m ≤ 1048576) :
    Calls Try.prog 18 #[.slice a n c, .slice b m d] w fun e w' => e = .returned (.tuple #[.bool (ihV l r), .bool (ihB l r)]) ∧ Below w.heap.size w w' := by
  have hn := h.len
  have hm := h'.len
  have C1 := hide (fun w (k : SlP w a l) => cloudI a n c l w k hn (by unfold maxLen; omega))
  have C2 := hide (fun w (k : SlP w b r) => ptsI b m d r w k hm (by unfold maxLen; omega))
  have HS := hide h.sl
  have HR := hide h'.sl
  unfold ihV ihB
  clear h h'
  cases hg : cloB l
  · rw [hg] at C1
    simp only [Bool.false_and, Bool.false_eq_true, if_false]
    clear hg
    go_enter Try.func18, Try.ntmps18
    go_wp2_with fail
    refine (unhide C1 _ (unhide HS)).mono ?_
    rintro e w1 ⟨rfl, hb⟩
    go_wp2_with fail
    go_ret2
    exact ⟨rfl, hb⟩
  · rw [hg] at C1
    have cp := clo_parts hg
    have cn : ∀ p ∈ l, Near p := fun p hq => near_of (cp.2 p hq)
    cases hq : r.all gPt
    · rw [hq] at C2
      simp only [Bool.true_and, Bool.false_eq_true, if_false]
      clear hg hq cp cn
      go_enter Try.func18, Try.ntmps18
      go_wp2_with fail
      refine (unhide C1 _ (unhide HS)).mono ?_
      rintro e w1 ⟨rfl, hb⟩
      have HB := hide hb
      replace HR := hide ((unhide HR).later hb)
      clear hb
      go_wp2_with fail
      refine (unhide C2 _ (unhide HR)).mono ?_
      rintro e w2 ⟨rfl, hb⟩
      replace HB := hide (below_on (unhide HB) hb)
      clear hb
      go_wp2_with fail
      go_ret2
      exact ⟨rfl, unhide HB⟩
    · rw [hq] at C2
      simp only [Bool.true_and, if_true]
      have C3 := hide (fun w (k : SlP w a l) => hullI a n c l w k hn (by have := cp.1; omega) (by have := cp.1; omega) cn)
      have HL : Hid ((hulV l).length ≤ 100) := hide (by have := hul_len' l; have := cp.1; omega)
      have HN := hide hn
      have HM := hide hm
      generalize hulV l = H at *
      clear hg hq cp cn hn hm
      go_enter Try.func18, Try.ntmps18
      go_wp2_with fail
      refine (unhide C1 _ (unhide HS)).mono ?_
      rintro e w1 ⟨rfl, hb⟩
      have HB := hide hb
      replace HS := hide ((unhide HS).later hb)
      replace HR := hide ((unhide HR).later hb)
      clear hb
      go_wp2_with fail
      refine (unhide C2 _ (unhide HR)).mono ?_
      rintro e w2 ⟨rfl, hb⟩
      replace HB := hide (below_on (unhide HB) hb)
      replace HS := hide ((unhide HS).later hb)
      replace HR := hide ((unhide HR).later hb)
      clear hb
      go_wp2_with fail
      refine (unhide C3 _ (unhide HS)).mono ?_
      rintro e w3 ⟨v, rfl, hb, rw3⟩
      obtain ⟨a3, c3, rfl, hs3⟩ := rw3.sl
      replace HB := hide (below_on (unhide HB) hb)
      replace HR := hide ((unhide HR).later hb)
      have HH := hide hs3
      clear hb rw3 hs3
      go_wp2_with fail
      refine (sameI a3 b H.length c3 m d H r _ (unhide HH) (unhide HR) rfl (unhide HM) (by have := unhide HL; omega)).mono ?_
      rintro e w4 ⟨rfl, hb⟩
      replace HB := hide (below_on (unhide HB) hb)
      clear hb
      go_wp2_with fail
      go_ret2
      exact ⟨rfl, unhide HB⟩
end Go.Proofs.Ytgoiodhofbkkdaa
namespace Go.Proofs.Ytgoiodhofbkkdaa
open Go.RowKit
set_option linter.unusedVariables false
set_option maxRecDepth 100000
set_option linter.unusedSimpArgs false

theorem RwP.rt {B : Nat} {w : World} {v : Value} {L : List (Int × Int)} (h : RwP B w v L) : ∃ a c, v = .slice a L.length c ∧ RtP B w a L.length c L := own_rt h.row rfl
theorem RtP.mono {B B' : Nat} {w : World} {a : Option Addr} {n c : Nat} {l : List (Int × Int)} (h : RtP B w a n c l) (hb : B' ≤ B) : RtP B' w a n c l := ⟨h.len, h.own.imp_right (fun ⟨G, e, hB, ho⟩ => ⟨G, e, Nat.le_trans hb hB, ho⟩)⟩
def srV (l : List (Int × Int)) : List (Int × Int) := if fitB l then sortP l else []
def huV (l : List (Int × Int)) : List (Int × Int) := if cloB l then hulV l else []
theorem hul_len (l : List (Int × Int)) : (hulV l).length ≤ 2 * l.length := by
  have h1 := sort_len l
  have h2 := chain_len (sortP l)
  have h3 := chain_len (sortP l).reverse
  unfold hulV
  split
  · omega
  · simp at h3 ⊢; omega
theorem fit_near {l : List (Int × Int)} (h : fitB l = true) : l.length ≤ 16 ∧ ∀ p ∈ l, Near p := by
  unfold fitB at h
  rw [Bool.and_eq_true, decide_eq_true_eq, List.all_eq_true] at h
  exact ⟨h.1, fun p hp => near_of (h.2 p hp)⟩
theorem fit_sp (l : List (Int × Int)) (n : Nat) (hn : l.length = n) : fitB l = (l.all gPt && !(decide ((16 : Int) < (n : Int)))) := by
  unfold fitB
  rw [hn, Bool.and_comm]
  congr 1
  rw [Bool.eq_iff_iff]
  simp
  omega
set_option maxHeartbeats 2000000 in
theorem SortPtsS (a : Option Addr) (n c : Nat) (l : List (Int × Int)) (w : World) (h : ArP w a n c l) (h1 : n ≤ 1048576) :
    Calls Try.prog 16 #[.slice a n c] w fun e w' => ∃ a' n' c', e = .returned (.tuple #[.slice a' n' c', .bool (fitB l)]) ∧ Below w.heap.size w w' ∧ RtP w.heap.size w' a' n' c' (srV l) ∧ n' ≤ 1048576 := by
  have hn := h.len
  have HS := hide h.sl
  have C1 := hide (fun w (k : SlP w a l) => ptsS a n c l w k hn (by unfold maxLen; omega))
  have EF := fit_sp l n hn
  unfold srV
  clear h
  cases hp : l.all gPt
  · rw [hp] at EF C1
    rw [EF]
    simp only [Bool.false_and, Bool.false_eq_true, if_false]
    clear hp EF
    go_enter Try.func16, Try.ntmps16
    go_wp2_with fail
    refine (unhide C1 _ (unhide HS)).mono ?_
    rintro e w1 ⟨rfl, hb⟩
    go_wp2_with fail
    go_ret2
    exact ⟨none, 0, 0, rfl, hb, ⟨rfl, .inl rfl⟩, by omega⟩
  · by_cases hl : n ≤ 16
    · have lt : ¬ ((16 : Int) < (n : Int)) := by omega
      rw [hp, decide_eq_false lt] at EF
      rw [hp] at C1
      replace EF : fitB l = true := EF
      have FN := fit_near EF
      rw [EF]
      simp only [if_true]
      have C2 := hide (fun w (k : SlP w a l) => sortS a n c l w k hn (by omega))
      have LN := hide (sort_len l)
      have HN := hide hn
      generalize sortP l = S at *
      clear hp EF FN hn
      go_enter Try.func16, Try.ntmps16
      go_wp2_with fail
      refine (unhide C1 _ (unhide HS)).mono ?_
      rintro e w1 ⟨rfl, hb⟩
      have HB := hide hb
      replace HS := hide ((unhide HS).later hb)
      clear hb C1
      go_wp2_with fail
      refine (unhide C2 _ (unhide HS)).mono ?_
      rintro e w2 ⟨v, rfl, hb, rw2⟩
      obtain ⟨a', c', rfl, rt⟩ := rw2.rt
      have HB2 := hide (below_on (unhide HB) hb)
      have RT := hide (rt.mono (unhide HB).size)
      clear hb rw2 rt C2
      go_wp2_with fail
      go_ret2
      exact ⟨_, _, _, rfl, unhide HB2, unhide RT, by have := unhide LN; have := unhide HN; omega⟩
    · have lt : (16 : Int) < (n : Int) := by omega
      rw [hp, decide_eq_true lt] at EF
      rw [hp] at C1
      rw [EF]
      simp only [Bool.not_true, Bool.and_false, Bool.false_eq_true, if_false]
      clear hp EF hl
      go_enter Try.func16, Try.ntmps16
      go_wp2_with fail
      refine (unhide C1 _ (unhide HS)).mono ?_
      rintro e w1 ⟨rfl, hb⟩
      go_wp2_with fail
      go_ret2
      exact ⟨none, 0, 0, rfl, hb, ⟨rfl, .inl rfl⟩, by omega⟩
set_option maxHeartbeats 2000000 in
theorem SortPtsI (a : Option Addr) (n c : Nat) (l : List (Int × Int)) (w : World) (h : ArP w a n c l) (h1 : n ≤ 1048576) :
    Calls Try.prog 15 #[.slice a n c] w fun e w' => ∃ a' n' c', e = .returned (.tuple #[.slice a' n' c', .bool (fitB l)]) ∧ Below w.heap.size w w' ∧ RtP w.heap.size w' a' n' c' (srV l) ∧ n' ≤ 1048576 := by
  have hn := h.len
  have HS := hide h.sl
  have C1 := hide (fun w (k : SlP w a l) => fitsI a n c l w k hn (by unfold maxLen; omega))
  unfold srV
  clear h
  cases hp : fitB l
  · rw [hp] at C1
    simp only [Bool.false_eq_true, if_false]
    clear hp
    go_enter Try.func15, Try.ntmps15
    go_wp2_with fail
    refine (unhide C1 _ (unhide HS)).mono ?_
    rintro e w1 ⟨rfl, hb⟩
    go_wp2_with fail
    go_ret2
    exact ⟨none, 0, 0, rfl, hb, ⟨rfl, .inl rfl⟩, by omega⟩
  · rw [hp] at C1
    simp only [if_true]
    have fit := fit_near hp
    have C2 := hide (fun w (k : SlP w a l) => risingI a n c l w k hn (by have := fit.1; omega))
    have LN := hide (sort_len l)
    have HN := hide hn
    generalize sortP l = S at *
    clear hp hn
    go_enter Try.func15, Try.ntmps15
    go_wp2_with fail
    refine (unhide C1 _ (unhide HS)).mono ?_
    rintro e w1 ⟨rfl, hb⟩
    have HB := hide hb
    replace HS := hide ((unhide HS).later hb)
    clear hb C1
    go_wp2_with fail
    refine (unhide C2 _ (unhide HS)).mono ?_
    rintro e w2 ⟨v, rfl, hb, rw2⟩
    obtain ⟨a', c', rfl, rt⟩ := rw2.rt
    have HB2 := hide (below_on (unhide HB) hb)
    have RT := hide (rt.mono (unhide HB).size)
    clear hb rw2 rt C2
    go_wp2_with fail
    go_ret2
    exact ⟨_, _, _, rfl, unhide HB2, unhide RT, by have := unhide LN; have := unhide HN; omega⟩
set_option maxHeartbeats 2000000 in
theorem HullOfI (a : Option Addr) (n c : Nat) (l : List (Int × Int)) (w : World) (h : ArP w a n c l) (h1 : n ≤ 1048576) :
    Calls Try.prog 13 #[.slice a n c] w fun e w' => ∃ a' n' c', e = .returned (.tuple #[.slice a' n' c', .bool (cloB l)]) ∧ Below w.heap.size w w' ∧ RtP w.heap.size w' a' n' c' (huV l) ∧ n' ≤ 1048576 := by
  have hn := h.len
  have HS := hide h.sl
  have C1 := hide (fun w (k : SlP w a l) => cloudI a n c l w k hn (by unfold maxLen; omega))
  unfold huV
  clear h
  cases hp : cloB l
  · rw [hp] at C1
    simp only [Bool.false_eq_true, if_false]
    clear hp
    go_enter Try.func13, Try.ntmps13
    go_wp2_with fail
    refine (unhide C1 _ (unhide HS)).mono ?_
    rintro e w1 ⟨rfl, hb⟩
    go_wp2_with fail
    go_ret2
    exact ⟨none, 0, 0, rfl, hb, ⟨rfl, .inl rfl⟩, by omega⟩
  · rw [hp] at C1
    simp only [if_true]
    have cp := clo_parts hp
    have cn : ∀ p ∈ l, Near p := fun p hq => near_of (cp.2 p hq)
    have C2 := hide (fun w (k : SlP w a l) => hullI a n c l w k hn (by have := cp.1; omega) (by have := cp.1; omega) cn)
    have LN := hide (hul_len l)
    have HN := hide hn
    generalize hulV l = S at *
    clear hp hn
    go_enter Try.func13, Try.ntmps13
    go_wp2_with fail
    refine (unhide C1 _ (unhide HS)).mono ?_
    rintro e w1 ⟨rfl, hb⟩
    have HB := hide hb
    replace HS := hide ((unhide HS).later hb)
    clear hb C1
    go_wp2_with fail
    refine (unhide C2 _ (unhide HS)).mono ?_
    rintro e w2 ⟨v, rfl, hb, rw2⟩
    obtain ⟨a', c', rfl, rt⟩ := rw2.rt
    have HB2 := hide (below_on (unhide HB) hb)
    have RT := hide (rt.mono (unhide HB).size)
    clear hb rw2 rt C2
    go_wp2_with fail
    go_ret2
    exact ⟨_, _, _, rfl, unhide HB2, unhide RT, by have := unhide LN; have := unhide HN; omega⟩
set_option maxHeartbeats 2000000 in
theorem HullOfS (a : Option Addr) (n c : Nat) (l : List (Int × Int)) (w : World) (h : ArP w a n c l) (h1 : n ≤ 1048576) :
    Calls Try.prog 14 #[.slice a n c] w fun e w' => ∃ a' n' c', e = .returned (.tuple #[.slice a' n' c', .bool (cloB l)]) ∧ Below w.heap.size w w' ∧ RtP w.heap.size w' a' n' c' (huV l) ∧ n' ≤ 1048576 := by
  have hn := h.len
  have HS := hide h.sl
  have C1 := hide (fun w (k : SlP w a l) => cloudS a n c l w k hn (by unfold maxLen; omega))
  unfold huV
  clear h
  cases hp : cloB l
  · rw [hp] at C1
    simp only [Bool.false_eq_true, if_false]
    clear hp
    go_enter Try.func14, Try.ntmps14
    go_wp2_with fail
    refine (unhide C1 _ (unhide HS)).mono ?_
    rintro e w1 ⟨rfl, hb⟩
    go_wp2_with fail
    go_ret2
    exact ⟨none, 0, 0, rfl, hb, ⟨rfl, .inl rfl⟩, by omega⟩
  · rw [hp] at C1
    simp only [if_true]
    have cp := clo_parts hp
    have cn : ∀ p ∈ l, Near p := fun p hq => near_of (cp.2 p hq)
    have C2 := hide (fun w (k : SlP w a l) => hullS a n c l w k hn (by have := cp.1; omega) cn)
    have LN := hide (hul_len l)
    have HN := hide hn
    generalize hulV l = S at *
    clear hp hn
    go_enter Try.func14, Try.ntmps14
    go_wp2_with fail
    refine (unhide C1 _ (unhide HS)).mono ?_
    rintro e w1 ⟨rfl, hb⟩
    have HB := hide hb
    replace HS := hide ((unhide HS).later hb)
    clear hb C1
    go_wp2_with fail
    refine (unhide C2 _ (unhide HS)).mono ?_
    rintro e w2 ⟨v, rfl, hb, rw2⟩
    obtain ⟨a', c', rfl, rt⟩ := rw2.rt
    have HB2 := hide (below_on (unhide HB) hb)
    have RT := hide (rt.mono (unhide HB).size)
    clear hb rw2 rt C2
    go_wp2_with fail
    go_ret2
    exact ⟨_, _, _, rfl, unhide HB2, unhide RT, by have := unhide LN; have := unhide HN; omega⟩
end Go.Proofs.Ytgoiodhofbkkdaa
