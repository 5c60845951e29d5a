/- Chapter 10: hulls by value; l10Hull of the specification. No condition beyond those typed. No condition beyond those typed. Written by mkhs10.py. -/
import Derived.Test.YtgoiodhofbkkdaaCc10
import Derived.Test.YtgoiodhofbkkdaaRv10
import Derived.Test.YtgoiodhofbkkdaaLt10
import Derived.Test.YtgoiodhofbkkdaaSm10
namespace Go.Proofs.Ytgoiodhofbkkdaa
open Go.RowKit
set_option linter.unusedVariables false
set_option maxRecDepth 100000
set_option linter.unusedSimpArgs false

/-- The corners of the least convex shape. -/
def hulV (l : List (Int × Int)) : List (Int × Int) := if (sortP l).length < 3 then sortP l else (chainP (sortP l)).dropLast ++ (chainP (sortP l).reverse).dropLast
theorem step_append_at {P : Program} {ops : Array Oper} {o : Oper} {a : Act} {w : World} {K : Act → World → Prop} {Q : Exit → Act → World → Prop} {E : Prop} (hgd : o.guard = none) (s x : Operand) (t : TypeId)
    (ho : o.op = .call { callee := .builtin .append, args := #[s, x], argTypes := #[t, t] })
    (base : Nat) (e : TypeId) (i : TypeInfo) (z : Value) (size bytes : Nat) (ht : P.underlying t = some (.slice e)) (hi : P.info? e = some i) (hz : i.zero = some z)
    (hsize : i.size = size) (hby : i.bytes = bytes) (hzs : z.cells.size = size) (hsz : 0 < size)
    (v : Value) (n : Nat) (xs : List Value) (hs : a.eval s = v) (hown : w.ownsRow base e size v n xs)
    (ad : Addr) (m c : Nat) (news : List Value) (hx : a.eval x = .slice (some ad) m c) (hl : news.length = m * size) (hnews : ∀ j u, news[j]? = some u → w.cell? (ad.add j) = some u) (h1 : ∀ u ∈ news, u.oneCell' = true)
    (h63 : n + m ≤ maxLen) (hbytes : (n + m) * bytes ≤ 140737488355328) (hbase : base ≤ w.heap.size)
    (h : ∀ v' w', w'.ownsRow base e size v' (n + m) (xs ++ news) → w.grownBy w' v.ownBlock → K (a.put o.dst v') w') :
    if Region.wanted o (yielded ops a.tmps) = true then Oper.wp P o a w K Q else E := by
  have hw : Region.wanted o (yielded ops a.tmps) = true := by simp [Region.wanted, hgd]
  rw [if_pos hw]
  obtain ⟨v', w', hr, h2, h3, _, _⟩ := run_append_own_at (P := P) w base t o.type e i z size bytes ht hi hz hsize hby hzs hsz v n xs hown ad m c news hl hnews h1 h63 hbytes hbase
  unfold Oper.wp execOp
  simp only [ho, resolve, invoke, builtin, Sem.run_bind, Sem.run_pure, Result.andThen_ok, List.map_toArray, List.map_cons, List.map_nil, hs, hx, hr]
  exact h v' w' h2 h3
theorem chR_ne {l : List (Int × Int)} (h : l ≠ []) : chR l ≠ [] := by
  rcases List.eq_nil_or_concat l with rfl | ⟨L, p, rfl⟩
  · exact absurd rfl h
  · rw [List.concat_eq_append, chR_snoc]; simp
theorem chR_len : ∀ (l s : List (Int × Int)), (l.foldl (fun s p => p :: popP p s) s).length ≤ s.length + l.length
  | [], s => by simp
  | p :: l, s => by
    have h1 := chR_len l (p :: popP p s)
    have h2 := pop_len p s
    rw [List.foldl_cons]
    simp at h1 ⊢
    omega
theorem chain_len (l : List (Int × Int)) : (chainP l).length ≤ l.length := by
  have := chR_len l []
  unfold chainP chR
  simpa using this
theorem chain_ne {l : List (Int × Int)} (h : l ≠ []) : chainP l ≠ [] := by
  unfold chainP
  simpa using chR_ne h
theorem take_last (L : List (Int × Int)) (n : Nat) (h : L.length = n) : L.take (n - 1) = L.dropLast := by rw [List.dropLast_eq_take, h]
theorem sort_len (l : List (Int × Int)) : (sortP l).length ≤ l.length := by
  have := fold_len l []
  unfold sortP
  simpa using this
theorem near_sort {l : List (Int × Int)} (h : ∀ p ∈ l, Near p) : ∀ p ∈ sortP l, Near p := fun p hp => h p (sortP_mem.1 hp)
theorem rev_at (L : List (Int × Int)) (k n : Nat) (hn : L.length = n) (hk : k < n) : L.reverse.take (k + 1) = L.reverse.take k ++ [L.getD (n - 1 - k) (0, 0)] := by
  rw [take_succP (by simp; omega), List.getElem_reverse, getD_gt (by omega)]
  congr 3
  omega
set_option maxHeartbeats 8000000 in
theorem hullS (a : Option Addr) (n c : Nat) (l : List (Int × Int)) (w : World) (h : SlP w a l) (hn : l.length = n) (h1 : n ≤ 50) (hg : ∀ p ∈ l, Near p) :
    Calls Try.prog 47 #[.slice a n c] w fun e w' => ∃ v, e = .returned v ∧ Below w.heap.size w w' ∧ RwP w.heap.size w' v (hulV l) := by
  obtain ⟨i0, hi, hz0, hz1, hz2⟩ := info_parts infoPt
  have C1 := hide (sortS a n c l w h hn (by omega))
  have SL : (sortP l).length ≤ 50 := by have := sort_len l; omega
  have SN := hide (near_sort hg)
  have EV : Hid (hulV l = if (sortP l).length < 3 then sortP l else (chainP (sortP l)).dropLast ++ (chainP (sortP l).reverse).dropLast) := hide rfl
  generalize hulV l = R at *
  generalize sortP l = S at *
  clear h hn h1 hg
  go_enter Try.func47, Try.ntmps47
  go_wp2_with fail
  refine (unhide C1).mono ?_
  rintro e w1 ⟨v, rfl, hb1, rw1⟩
  obtain ⟨a1, c1, rfl, hs1⟩ := rw1.sl
  have RW1 := hide rw1
  have HB1 := hide hb1
  have HS1 := hide hs1
  clear rw1 hb1 hs1 C1
  by_cases hlen : S.length < 3
  · have hlen' : (S.length : Int) < 3 := by omega
    replace EV : Hid (R = S) := hide (by rw [unhide EV, if_pos hlen])
    clear hlen
    go_wp2
    go_ret
    exact ⟨_, rfl, unhide HB1, by rw [unhide EV]; exact unhide RW1⟩
  · have hlen' : ¬ (S.length : Int) < 3 := by omega
    replace EV : Hid (R = (chainP S).dropLast ++ (chainP S.reverse).dropLast) := hide (by rw [unhide EV, if_neg hlen])
    go_wp2_with fail
    refine (chainS a1 S.length c1 S _ (unhide HS1) rfl (by omega) (unhide SN)).mono ?_
    rintro e w2 ⟨v2, rfl, hb2, rw2⟩
    obtain ⟨a2, c2, rfl, hs2⟩ := rw2.sl
    have RW2 := hide rw2
    have HB2 := hide (below_on (unhide HB1) hb2)
    have RS := hide ((unhide HS1).later hb2)
    have SZ2 : w.heap.size ≤ w2.heap.size := (unhide HB2).size
    clear rw2 hb2 hs2 HS1 RW1 HB1
    obtain ⟨m, hm⟩ : ∃ m, m = S.length := ⟨_, rfl⟩
    have HM := hide hm.symm
    rw [← hm]
    have m3 : 3 ≤ m := by omega
    have m50 : m ≤ 50 := by omega
    clear hlen hlen' SL
    have i1 : IntKind.i64.wrap ((m : Int) - 1) = (m : Int) - 1 := by rw [IntKind.wrap_i64]; omega
    clear hm
    go_wp2
    go_loopw [5, 6] (fun v iv wr => ∃ k : Nat, k ≤ m ∧ iv = .int .i64 ((m : Int) - 1 - (k : Int)) ∧ Hid (RwP w2.heap.size wr v (S.reverse.take k)) ∧ Hid (Below w2.heap.size w2 wr)) (fun _ iv _ => (intOf iv + 1).toNat)
    case atStart => exact ⟨0, by omega, by go_num, hide (RwP.nil _ _), hide (Below.refl _ _)⟩
    case round =>
      obtain ⟨k, hk, rfl, HR, HB⟩ := hrel
      obtain ⟨av, cv, rfl, _⟩ := (unhide HR).sl
      by_cases hlt : k < m
      · have ge : (0 : Int) ≤ (m : Int) - 1 - (k : Int) := by omega
        obtain ⟨j, hj⟩ : ∃ j : Nat, j = m - 1 - k := ⟨_, rfl⟩
        have hjI : (m : Int) - 1 - (k : Int) = (j : Int) := by omega
        have hjm : (j : Int) < (m : Int) := by omega
        rw [hjI] at ge ⊢
        have ER := hide (rev_at S k m (unhide HM) hlt)
        rw [← hj] at ER
        have EJ : Hid ((j : Int) - 1 = (m : Int) - 1 - ((k + 1 : Nat) : Int)) := hide (by omega)
        have i2 : IntKind.i64.wrap ((j : Int) - 1) = (j : Int) - 1 := by rw [IntKind.wrap_i64]; omega
        have LK : Hid ((S.reverse.take k).length = k) := hide (by rw [List.length_take, List.length_reverse, unhide HM]; omega)
        rcases (unhide RS) with e | ⟨b, off, rfl, hb, hc⟩
        · exact absurd (unhide HM) (by rw [e]; simp; omega)
        have e0 := hc j (by rw [unhide HM]; omega)
        rw [← getD_gt (by rw [unhide HM]; omega)] at e0
        generalize S.getD j (0, 0) = p at *
        have E0 : wr.cell? ⟨b, off + j * 2, none⟩ = some (.int .i64 p.1) := ((unhide HB).cell (p := ⟨b, off + j * 2, none⟩) hb).trans e0.1
        have E1 : wr.cell? ⟨b, off + j * 2 + 1, none⟩ = some (.int .i64 p.2) := ((unhide HB).cell (p := ⟨b, off + j * 2 + 1, none⟩) hb).trans e0.2
        clear e0 hc hj hjI
        rw [unhide LK]
        have HR2 : Hid (wr.ownsRow w2.heap.size 31 2 (.slice av k cv) k (flatP (S.reverse.take k))) := hide (by have := (unhide HR).row; rw [unhide LK] at this; exact this)
        go_wp2_with (at_builtin; refine wpList_append_own _ rfl (.tmp 23) (.tmp 28) 23 rfl w2.heap.size 31 i0 (.agg #[.int .i64 0, .int .i64 0]) 2 16 Try.underlying23 hi hz0 hz1 hz2 rfl (by decide) _ _ _ rfl ((unhide HR2).alloc _) ⟨_, 0, none⟩ 1 1 [.int .i64 p.1, .int .i64 p.2] rfl rfl (new_cellP _ _ _) (fun u hu => by simp at hu; rcases hu with rfl | rfl <;> rfl) (by unfold maxLen; omega) (by omega) (by have := (unhide HB).size; simp; omega) ?_)
        intro v' w6 hown hgr _
        have RN : Hid (RwP w2.heap.size w6 v' (S.reverse.take (k + 1))) := hide (by rw [unhide ER]; exact RwP.snoc (by rw [unhide LK]; exact hown))
        have HBN := hide (push_belowP (unhide HB) (unhide HB).size (unhide HR2) hgr)
        clear hown hgr E0 E1 HR2
        go_wp2
        go_roundw
        case rel => exact ⟨k + 1, by omega, by rw [← unhide EJ], RN, HBN⟩
        case measure => simp [intOf] <;> omega
      · obtain rfl : k = m := by omega
        have ge : ¬ (0 : Int) ≤ (k : Int) - 1 - (k : Int) := by omega
        have LK : Hid (S.reverse.take k = S.reverse) := hide (by rw [← unhide HM, ← List.length_reverse, List.take_length])
        rw [unhide LK] at HR
        rw [unhide LK]
        have LR : S.reverse.length = k := by rw [List.length_reverse]; exact unhide HM
        have HB3 := hide (below_on (unhide HB2) (unhide HB))
        rw [LR] at HR ⊢
        have RLow := hide ((unhide RW2).later (unhide HB))
        have CH := hide (fun w (x : SlP w av S.reverse) => chainS av k cv S.reverse w x LR (by omega) (fun p hp => unhide SN p (List.mem_reverse.1 hp)))
        have NE1 : Hid (S ≠ []) := hide (fun e => by have := unhide HM; rw [e] at this; simp at this; omega)
        have L1 := chain_len S
        have L2 := chain_len S.reverse
        rw [unhide HM] at L1
        rw [LR] at L2
        have P1 : 1 ≤ (chainP S).length := List.length_pos_iff.2 (chain_ne (unhide NE1))
        have P2 : 1 ≤ (chainP S.reverse).length := List.length_pos_iff.2 (chain_ne (by simpa using unhide NE1))
        generalize chainP S.reverse = X at *
        generalize chainP S = Y at *
        clear LK LR RW2 HB2 RS
        have SLB := hide (unhide HR).sl_at
        clear HR HB
        go_wp2_with fail
        refine (unhide CH _ (unhide SLB)).mono ?_
        rintro e w4 ⟨v4, rfl, hb4, rw4⟩
        have RHigh := hide rw4
        replace RLow := hide ((unhide RLow).later hb4)
        have HB4 := hide (below_on (unhide HB3) hb4)
        clear rw4 hb4 HB3 SLB CH
        rcases (unhide RLow).open with ⟨_, h⟩ | ⟨g1, d1, e1, _, _, cc1, cm1, _⟩
        · rw [h] at P1; simp at P1
        rcases (unhide RHigh).open with ⟨_, h⟩ | ⟨g2, d2, e2, _, _, cc2, cm2, _⟩
        · rw [h] at P2; simp at P2
        simp only [Value.slice.injEq, true_and] at e1
        obtain ⟨rfl, rfl⟩ := e1
        subst e2
        obtain ⟨p1, hp1⟩ : ∃ p1, Y.length = p1 + 1 := ⟨Y.length - 1, by omega⟩
        obtain ⟨p2, hp2⟩ : ∃ p2, X.length = p2 + 1 := ⟨X.length - 1, by omega⟩
        have D1 : Hid (Y.dropLast = Y.take p1 ∧ (flatP Y.dropLast).length = p1 * 2 ∧ Y.dropLast.length = p1) := hide ⟨by rw [List.dropLast_eq_take, hp1]; simp, by rw [flat_len]; simp [hp1], by simp [hp1]⟩
        have D2 : Hid (X.dropLast = X.take p2 ∧ (flatP X.dropLast).length = p2 * 2 ∧ X.dropLast.length = p2) := hide ⟨by rw [List.dropLast_eq_take, hp2]; simp, by rw [flat_len]; simp [hp2], by simp [hp2]⟩
        have q1 : p1 ≤ 50 := by omega
        have q2 : p2 ≤ 50 := by omega
        rw [hp1] at RLow cc1 ⊢
        rw [hp2] at RHigh cc2 ⊢
        have al : Below w4.heap.size w4 ((w4.alloc (.cells #[] 31)).drew) := ((Below.refl _ _).alloc (Nat.le_refl _) _).drew
        have X1 : Hid (RwP w4.heap.size ((w4.alloc (.cells #[] 31)).drew) (.slice (some ⟨w4.heap.size, 0, none⟩) 0 0) []) := hide ((empty_rw w4).later (Below.refl _ _).drew)
        have N1 : Hid (∀ j u, (flatP Y.dropLast)[j]? = some u → ((w4.alloc (.cells #[] 31)).drew).cell? ((⟨g1, 0, none⟩ : Addr).add j) = some u) := hide (by have := ((unhide RLow).later al).news 0 p1 (by omega); rw [(unhide D1).1]; simpa using this)
        have SZ4 : w4.heap.size ≤ ((w4.alloc (.cells #[] 31)).drew).heap.size := al.size
        have ALH := hide al
        have j1 : IntKind.i64.wrap (((p1 + 1 : Nat) : Int) - 1) = (p1 : Int) := by rw [IntKind.wrap_i64]; omega
        have j2 : IntKind.i64.wrap (((p2 + 1 : Nat) : Int) - 1) = (p2 : Int) := by rw [IntKind.wrap_i64]; omega
        have c1' : (p1 : Int) ≤ (c2 : Int) := by omega
        have c2' : (p2 : Int) ≤ (d2 : Int) := by omega
        have LX : Hid (0 + p2 ≤ X.length) := hide (by omega)
        clear al hp1 hp2 P1 P2 L1 L2
        generalize hq1 : p1 + 1 = n1 at *
        generalize hq2 : p2 + 1 = n2 at *
        clear hq1 hq2
        have HX0 : Hid True := hide trivial
        go_upto_region 11 with fail
        go_region_law (first
          | (have chk := HX0; refine step_append_at rfl (.tmp 32) (.tmp 37) 23 rfl w4.heap.size 31 i0 (.agg #[.int .i64 0, .int .i64 0]) 2 16 Try.underlying23 hi hz0 hz1 hz2 rfl (by decide) (.slice (some ⟨w4.heap.size, 0, none⟩) 0 0) 0 (flatP []) (by simp [Act.eval, Act.put]) (unhide X1).row ⟨g1, 0, none⟩ p1 c2 (flatP Y.dropLast) (by simp [Act.eval, Act.put]) (unhide D1).2.1 (unhide N1) (flat_one' _) (by unfold maxLen; omega) (by omega) SZ4 (fun v5 w5 own5 gr5 => ?_); have r5 : RwP w4.heap.size w5 v5 Y.dropLast := ⟨by rw [(unhide D1).2.2]; simpa [flatP] using own5⟩; have HB5 := hide (grow_below (unhide ALH) SZ4 (unhide X1).blk gr5); have SZ5 := (unhide HB5).size; have N2 : Hid (∀ j u, (flatP X.dropLast)[j]? = some u → w5.cell? ((⟨g2, 0, none⟩ : Addr).add j) = some u) := hide (by have := ((unhide RHigh).later (unhide HB5)).news 0 p2 (unhide LX); rw [(unhide D2).1]; simpa using this); obtain ⟨a5, d5, rfl, _⟩ := r5.sl; have R5 := hide r5; rw [(unhide D1).2.2] at R5 ⊢; clear own5 gr5 r5 chk HX0)
          | (refine step_append_at rfl (.tmp 38) (.tmp 43) 23 rfl w4.heap.size 31 i0 (.agg #[.int .i64 0, .int .i64 0]) 2 16 Try.underlying23 hi hz0 hz1 hz2 rfl (by decide) (.slice a5 p1 d5) Y.dropLast.length (flatP Y.dropLast) (by simp [Act.eval, Act.put]) (unhide R5).row ⟨g2, 0, none⟩ p2 d2 (flatP X.dropLast) (by simp [Act.eval, Act.put]) (unhide D2).2.1 (unhide N2) (flat_one' _) (by rw [(unhide D1).2.2]; unfold maxLen; omega) (by rw [(unhide D1).2.2]; omega) SZ5 (fun v6 w6 own6 gr6 => ?_); have R6 := hide (RwP.join own6 (unhide D2).2.2); have HB6 := hide (grow_below (unhide HB5) SZ5 (unhide R5).blk gr6); clear own6 gr6))
        go_wp2
        go_ret
        exact ⟨_, rfl, below_on (unhide HB4) (unhide HB6), by rw [unhide EV]; exact (unhide R6).mono (unhide HB4).size⟩
end Go.Proofs.Ytgoiodhofbkkdaa
