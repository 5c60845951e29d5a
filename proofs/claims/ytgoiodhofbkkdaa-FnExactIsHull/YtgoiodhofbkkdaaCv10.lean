/- Chapter 10: convex ways, both sides. No condition beyond those typed. No condition beyond those typed. Written by mkcv10.py. -/
import Derived.Test.YtgoiodhofbkkdaaCx10
namespace Go.Proofs.Ytgoiodhofbkkdaa
open Go.RowKit
set_option linter.unusedVariables false
set_option maxRecDepth 100000
set_option linter.unusedSimpArgs false

theorem RwP.grown' {B : Nat} {w w' : World} {v : Value} {L : List (Int × Int)} {r : Option Nat} (h : RwP B w v L) (hg : w.grownBy w' r) (hr : ∀ k, v.ownBlock = some k → r ≠ some k) : RwP B w' v L := by
  refine ⟨h.row.1, ?_⟩
  rcases h.row.2 with h' | ⟨g', cap, cur, hv, h1, hh, q⟩
  · exact .inl h'
  · exact .inr ⟨g', cap, cur, hv, h1, by rw [hg.block g' (Array.getElem?_eq_some_iff.1 hh).1 (fun e => hr g' (by rw [hv]; rfl) e.symm)]; exact hh, q⟩
theorem below_of_grown2 {w0 w w' : World} {r : Option Nat} (h : Below w0.heap.size w0 w) (hg : w.grownBy w' r) (hr : ∀ k, r = some k → w0.heap.size ≤ k) : Below w0.heap.size w0 w' := h.grown hg h.size hr
/-- The hull and the empty row, ahead of the first append. -/
structure CvA (w1 W : World) (E : Nat) (vH : Value) (H : List (Int × Int)) : Prop where
  hull : RwP 0 W vH H
  hne : ∀ k, vH.ownBlock = some k → (some E : Option Nat) ≠ some k
  hlt : ∀ k, vH.ownBlock = some k → k < W.heap.size
  emp : RwP 0 W (.slice (some ⟨E, 0, none⟩) 0 0) []
  bel : Below w1.heap.size w1 W
  low : w1.heap.size ≤ E
/-- .. and behind it. -/
structure CvB (w1 W : World) (v vH : Value) (H D : List (Int × Int)) : Prop where
  hull : RwP 0 W vH H
  hne : ∀ k, vH.ownBlock = some k → v.ownBlock ≠ some k
  row : RwP 0 W v D
  bel : Below w1.heap.size w1 W
  low : ∀ k, v.ownBlock = some k → w1.heap.size ≤ k
theorem own_ge {E B : Nat} (h : B ≤ E) : ∀ k, (Value.slice (some ⟨E, 0, none⟩) 0 0).ownBlock = some k → B ≤ k := fun k e => by cases e; exact h
theorem ob_next {w : World} {v v' u : Value} {E : Nat} (h : v'.ownBlock = (Value.slice (some ⟨E, 0, none⟩) 0 0).ownBlock ∨ v'.ownBlock = some w.heap.size) (hu : ∀ k, u.ownBlock = some k → (some E : Option Nat) ≠ some k) (hl : ∀ k, u.ownBlock = some k → k < w.heap.size) : ∀ k, u.ownBlock = some k → v'.ownBlock ≠ some k := fun k hk e => by
  rcases h with h | h
  · exact hu k hk (by rw [← e, h]; rfl)
  · rw [e] at h; cases h; have := hl _ hk; omega
theorem ob_low {w : World} {v' : Value} {E B : Nat} (h : v'.ownBlock = (Value.slice (some ⟨E, 0, none⟩) 0 0).ownBlock ∨ v'.ownBlock = some w.heap.size) (hE : B ≤ E) (hw : B ≤ w.heap.size) : ∀ k, v'.ownBlock = some k → B ≤ k := fun k hk => by
  rcases h with h | h
  · rw [hk] at h; cases h; exact hE
  · rw [hk] at h; cases h; exact hw
theorem CvA.next {w1 W w7 : World} {E m : Nat} {vH v7 : Value} {H D : List (Int × Int)} (h : CvA w1 W E vH H) (own : w7.ownsRow 0 31 2 v7 (0 + m) (flatP [] ++ flatP D)) (hD : D.length = m) (gr : W.grownBy w7 (Value.slice (some ⟨E, 0, none⟩) 0 0).ownBlock)
    (bl : v7.ownBlock = (Value.slice (some ⟨E, 0, none⟩) 0 0).ownBlock ∨ v7.ownBlock = some W.heap.size) : CvB w1 w7 v7 vH H D :=
  ⟨h.hull.grown' gr h.hne, ob_next (v := v7) bl h.hne h.hlt, by have := RwP.join (L := []) (n := m) (M := D) own hD; simpa using this, below_of_grown2 h.bel gr (own_ge h.low), ob_low bl h.low h.bel.size⟩
theorem CvB.next {w1 W w8 : World} {m : Nat} {v vH v8 : Value} {H D F : List (Int × Int)} (h : CvB w1 W v vH H D) (own : w8.ownsRow 0 31 2 v8 (D.length + m) (flatP D ++ flatP F)) (hF : F.length = m) (gr : W.grownBy w8 v.ownBlock) :
    RwP 0 w8 v8 (D ++ F) ∧ RwP 0 w8 vH H ∧ Below w1.heap.size w1 w8 :=
  ⟨RwP.join own hF, h.hull.grown' gr h.hne, below_of_grown2 h.bel gr h.low⟩
theorem CvA.first {w1 w5 : World} {v5 : Value} {H : List (Int × Int)} {B : Nat} (hb : Below w1.heap.size w1 w5) (h : RwP B w5 v5 H) : CvA w1 (w5.alloc (.cells #[] 31)) w5.heap.size v5 H :=
  ⟨(h.later ((Below.refl _ _).alloc (Nat.le_refl _) _)).mono (Nat.zero_le _), fun k hk e => by cases e; have := (own_lt h _ hk).2; omega, fun k hk => by have := (own_lt h k hk).2; simp; omega, (empty_rw w5).mono (Nat.zero_le _), hb.alloc hb.size _, hb.size⟩
theorem CvA.second {w1 w5 : World} {v5 : Value} {H : List (Int × Int)} (hb : Below ((w1.alloc (.cells #[] 31)).drew).heap.size ((w1.alloc (.cells #[] 31)).drew) w5) (h : RwP ((w1.alloc (.cells #[] 31)).drew).heap.size w5 v5 H) : CvA w1 w5 w1.heap.size v5 H :=
  ⟨h.mono (Nat.zero_le _), fun k hk e => by cases e; have := (own_lt h _ hk).1; simp at this; omega, fun k hk => (own_lt h k hk).2, ((((empty_rw w1).later (Below.refl _ _).drew)).later hb).mono (Nat.zero_le _), below_on ((((Below.refl _ _).alloc (Nat.le_refl _) _)).drew) hb, Nat.le_refl _⟩
theorem step_append_at' {P : Program} {ops : Array Oper} {o : Oper} {a : Act} {w : World} {K : Act → World → Prop} {Q : Exit → Act → World → Prop} {E : Prop} (hgd : o.guard = none) (s x : Operand) (t : TypeId)
    (ho : o.op = .call { callee := .builtin .append, args := #[s, x], argTypes := #[t, t] })
    (base : Nat) (e : TypeId) (i : TypeInfo) (z : Value) (size bytes : Nat) (ht : P.underlying t = some (.slice e)) (hi : P.info? e = some i) (hz : i.zero = some z)
    (hsize : i.size = size) (hby : i.bytes = bytes) (hzs : z.cells.size = size) (hsz : 0 < size)
    (v : Value) (n : Nat) (xs : List Value) (hs : a.eval s = v) (hown : w.ownsRow base e size v n xs)
    (ad : Addr) (m c : Nat) (news : List Value) (hx : a.eval x = .slice (some ad) m c) (hl : news.length = m * size) (hnews : ∀ j u, news[j]? = some u → w.cell? (ad.add j) = some u) (h1 : ∀ u ∈ news, u.oneCell' = true)
    (h63 : n + m ≤ maxLen) (hbytes : (n + m) * bytes ≤ 140737488355328) (hbase : base ≤ w.heap.size)
    (h : ∀ v' w', w'.ownsRow base e size v' (n + m) (xs ++ news) → w.grownBy w' v.ownBlock → (v'.ownBlock = v.ownBlock ∨ v'.ownBlock = some w.heap.size) → K (a.put o.dst v') w') :
    if Region.wanted o (yielded ops a.tmps) = true then Oper.wp P o a w K Q else E := by
  have hw : Region.wanted o (yielded ops a.tmps) = true := by simp [Region.wanted, hgd]
  rw [if_pos hw]
  obtain ⟨v', w', hr, h2, h3, _, h5⟩ := run_append_own_at (P := P) w base t o.type e i z size bytes ht hi hz hsize hby hzs hsz v n xs hown ad m c news hl hnews h1 h63 hbytes hbase
  unfold Oper.wp execOp
  simp only [ho, resolve, invoke, builtin, Sem.run_bind, Sem.run_pure, Result.andThen_ok, List.map_toArray, List.map_cons, List.map_nil, hs, hx, hr]
  exact h v' w' h2 h3 h5
theorem hul_len' (l : List (Int × Int)) : (hulV l).length ≤ 2 * l.length := by
  have h1 := sort_len l
  have h2 := chain_len (sortP l)
  have h3 := chain_len (sortP l).reverse
  unfold hulV
  split
  · omega
  · simp at h3 ⊢; omega
theorem sl_part {w : World} {b off : Nat} {l : List (Int × Int)} (h : ∀ i (h : i < l.length), w.cell? ⟨b, off + i * 2, none⟩ = some (.int .i64 l[i].1) ∧ w.cell? ⟨b, off + i * 2 + 1, none⟩ = some (.int .i64 l[i].2)) (k : Nat) (hk : k ≤ l.length) :
    (∀ j u, (flatP (l.drop k))[j]? = some u → w.cell? ((⟨b, off + k * 2, none⟩ : Addr).add j) = some u) ∧ ∀ j u, (flatP (l.take k))[j]? = some u → w.cell? ((⟨b, off, none⟩ : Addr).add j) = some u := by
  constructor
  · have := sl_news h k (l.length - k) (by omega)
    rw [List.take_of_length_le (by rw [List.length_drop]; exact Nat.le_refl _)] at this
    exact this
  · have := sl_news h 0 k (by omega)
    simpa using this
set_option maxHeartbeats 8000000 in
theorem convexI (a : Option Addr) (n c : Nat) (l : List (Int × Int)) (w : World) (h : ArP w a n c l) (h0 : 0 < n) (h1 : n ≤ 50) (hg : ∀ p ∈ l, Near p) :
    Calls Try.prog 63 #[.slice a n c] w fun e w' => e = .returned (.bool (cvV l)) ∧ Below w.heap.size w w' := by
  have hn := h.len
  have hcap := h.cap
  have htop := h.top
  unfold maxLen at htop
  have NE : l ≠ [] := fun e => by rw [e] at hn; simp at hn; omega
  have CH := hide (fun w (x : SlP w a l) => hullI a n c l w x hn h0 h1 hg)
  have HH := hul_head NE
  have SH := (sort_head NE).1
  rw [← HH.1] at SH
  have LI := least_ix NE
  rw [← HH.1] at LI
  have CI := hide (fun w (x : SlP w a l) => indexI a n c l ((hulV l).getD 0 (0, 0)) w x hn (by omega) SH)
  rw [LI] at CI
  have EV : Hid (cvV l = decide (hulV l = l.drop (leK l l.length) ++ l.take (leK l l.length))) := hide rfl
  have KL := leK_lt l l.length (by omega) (Nat.le_refl _)
  generalize leK l l.length = k at *
  have NH := hide HH.2
  have HLn := hide (hul_len' l)
  generalize cvV l = r at *
  generalize hulV l = H at *
  have HN := hide hn
  rw [hn] at KL
  rcases h.sl with e | ⟨b, off, rfl, hbb, hc⟩
  · exact absurd e NE
  have HC := hide hc
  have HS := hide h.sl
  clear hc h hn hg NE HH SH LI
  go_enter Try.func63, Try.ntmps63
  go_wp2_with fail
  refine (unhide CH _ (unhide HS)).mono ?_
  rintro e w1 ⟨v, rfl, hb1, rw1⟩
  rcases rw1.open with ⟨_, h⟩ | ⟨g, hc1, rfl, _, _, hcc, hcm, hce⟩
  · exact absurd h (unhide NH)
  have LP : 0 < H.length := List.length_pos_iff.2 (unhide NH)
  have x0 := rw1.at_ (i := 0) LP
  have e0 : w1.cell? ⟨g, 0, none⟩ = some (.int .i64 (H.getD 0 (0, 0)).1) := by simpa using x0.1
  have e1 : w1.cell? ⟨g, 1, none⟩ = some (.int .i64 (H.getD 0 (0, 0)).2) := by simpa using x0.2
  have RH := hide rw1.sl_at
  have HB1 := hide hb1
  replace HS := hide ((unhide HS).later hb1)
  have SZ1 := hb1.size
  obtain ⟨m, hm⟩ : ∃ m, m = H.length := ⟨_, rfl⟩
  have HM := hide hm.symm
  rw [← hm] at LP hcc ⊢
  have lp : (0 : Int) < (m : Int) := by omega
  have m100 : m ≤ 100 := by have := unhide HLn; have := unhide HN; omega
  clear hm rw1 hb1 hce x0 CH
  generalize H.getD 0 (0, 0) = q at *
  go_wp2_with fail
  refine (unhide CI _ (unhide HS)).mono ?_
  rintro e w2 ⟨rfl, hb2⟩
  have HB2 := hide (below_on (unhide HB1) hb2)
  replace RH := hide ((unhide RH).later hb2)
  clear hb2 HB1 CI e0 e1 HS
  have al : Below w2.heap.size w2 ((w2.alloc (.cells #[.slice (some ⟨b, off + k * 2, none⟩) (n - k) (c - k), .slice (some ⟨b, off, none⟩) k c] 23)).drew) := ((Below.refl _ _).alloc (Nat.le_refl _) _).drew
  have HB3 := hide (below_on (unhide HB2) al)
  have cells : ∀ i (h : i < l.length), ((w2.alloc (.cells #[.slice (some ⟨b, off + k * 2, none⟩) (n - k) (c - k), .slice (some ⟨b, off, none⟩) k c] 23)).drew).cell? ⟨b, off + i * 2, none⟩ = some (.int .i64 l[i].1) ∧ ((w2.alloc (.cells #[.slice (some ⟨b, off + k * 2, none⟩) (n - k) (c - k), .slice (some ⟨b, off, none⟩) k c] 23)).drew).cell? ⟨b, off + i * 2 + 1, none⟩ = some (.int .i64 l[i].2) := fun i hi => ⟨cell_later (unhide HB3) (unhide HC i hi).1, cell_later (unhide HB3) (unhide HC i hi).2⟩
  have PT := sl_part cells k (by rw [unhide HN]; omega)
  have CC := hide (concatI w2.heap.size ⟨b, off + k * 2, none⟩ ⟨b, off, none⟩ (n - k) (c - k) k c (l.drop k) (l.take k) ((w2.alloc (.cells #[.slice (some ⟨b, off + k * 2, none⟩) (n - k) (c - k), .slice (some ⟨b, off, none⟩) k c] 23)).drew) (two_cells _ _ _).1 (two_cells _ _ _).2 (by rw [List.length_drop, unhide HN]) (by rw [List.length_take, unhide HN]; omega) PT.1 PT.2 (by omega) (by omega))
  have RH3 := hide ((unhide RH).later al)
  have LD : Hid ((l.drop k ++ l.take k).length = n) := hide (by have := unhide HN; rw [List.length_append, List.length_drop, List.length_take]; omega)
  generalize l.drop k ++ l.take k = D at *
  have kc : (k : Int) ≤ (n : Int) := by omega
  have kc1 : ¬ ((c : Int) = (k : Int)) := by omega
  have kc2 : ¬ (c = k) := by omega
  have kc3 : (k : Int) ≤ (c : Int) := by omega
  clear al cells PT RH HB2
  have HX0 : Hid True := hide trivial
  go_upto_region 3 with fail
  go_region_held3 (fun _ => True)
    (trivial)
    (first
    | (have chk := HX0; go_at_call 81; refine (unhide CC).mono ?_; rintro e w6 ⟨v6, rfl, rw6, hb6⟩; obtain ⟨a6, c6, rfl, _⟩ := rw6.sl; have RW6 := hide rw6; have HB6 := hide (below_on (unhide HB3) hb6); have RH6 := hide ((unhide RH3).later hb6); clear rw6 hb6 chk HX0)
    | (go_at_call 53; refine (sameI _ _ m _ _ _ H D _ (unhide RH6) (unhide RW6).sl_at (unhide HM) rfl (by omega)).mono ?_; rintro e w7 ⟨rfl, hb7⟩; have HB7 := hide (below_on (unhide HB6) hb7); clear hb7)
    | fail)
  go_wp2
  go_ret
  exact ⟨by rw [unhide EV]; rfl, unhide HB7⟩
set_option maxHeartbeats 8000000 in
theorem convexS (a : Option Addr) (n c : Nat) (l : List (Int × Int)) (w : World) (h : ArP w a n c l) (h0 : 0 < n) (h1 : n ≤ 50) (hg : ∀ p ∈ l, Near p) :
    Calls Try.prog 68 #[.slice a n c] w fun e w' => e = .returned (.bool (cvV l)) ∧ Below w.heap.size w w' := by
  obtain ⟨i0, hi, hz0, hz1, hz2⟩ := info_parts infoPt
  have hn := h.len
  have hcap := h.cap
  have htop := h.top
  unfold maxLen at htop
  have NE : l ≠ [] := fun e => by rw [e] at hn; simp at hn; omega
  have CH := hide (fun w (x : SlP w a l) => hullS a n c l w x hn h1 hg)
  have CL := hide (leastS a n c l w h.sl hn h0 (by omega))
  have HLH : Hid ((hulV l).length ≤ 1048576) := hide (by have := hul_len' l; omega)
  have EV : Hid (cvV l = decide (hulV l = l.drop (leK l l.length) ++ l.take (leK l l.length))) := hide rfl
  have KL := leK_lt l l.length (by omega) (Nat.le_refl _)
  generalize leK l l.length = k at *
  generalize cvV l = r at *
  generalize hulV l = H at *
  have HN := hide hn
  rw [hn] at KL
  rcases h.sl with e | ⟨b, off, rfl, hbb, hc⟩
  · exact absurd e NE
  have HC := hide hc
  have HS := hide h.sl
  clear hc h hn hg NE
  go_enter Try.func68, Try.ntmps68
  go_wp2_with fail
  refine (unhide CL).mono ?_
  rintro e w1 ⟨rfl, hb1⟩
  have HB1 := hide hb1
  replace HS := hide ((unhide HS).later hb1)
  have bw : b < w1.heap.size := Nat.lt_of_lt_of_le hbb hb1.size
  replace HC : Hid (∀ i (h : i < l.length), w1.cell? ⟨b, off + i * 2, none⟩ = some (.int .i64 l[i].1) ∧ w1.cell? ⟨b, off + i * 2 + 1, none⟩ = some (.int .i64 l[i].2)) := hide (fun i hi => ⟨cell_later hb1 (unhide HC i hi).1, cell_later hb1 (unhide HC i hi).2⟩)
  clear hb1 CL
  have FD : Hid ((flatP (l.drop k)).length = (n - k) * 2 ∧ (flatP (l.take k)).length = k * 2 ∧ (l.drop k).length = n - k ∧ (l.take k).length = k ∧ (l.drop k ++ l.take k).length = n) := hide (by
    have := unhide HN
    have e1 : (l.drop k).length = n - k := by rw [List.length_drop, this]
    have e2 : (l.take k).length = k := by rw [List.length_take, this]; omega
    exact ⟨by rw [flat_len, e1], by rw [flat_len, e2], e1, e2, by rw [List.length_append, e1, e2]; omega⟩)
  have kc : (k : Int) ≤ (n : Int) := by omega
  have kc1 : ¬ ((c : Int) = (k : Int)) := by omega
  have kc2 : ¬ (c = k) := by omega
  have kc3 : (k : Int) ≤ (c : Int) := by omega
  have PT := sl_part (unhide HC) k (by rw [unhide HN]; omega)
  have ND0 := hide PT.1
  have NT0 := hide PT.2
  clear PT
  have alE : Below w1.heap.size w1 ((w1.alloc (.cells #[] 31)).drew) := ((Below.refl _ _).alloc (Nat.le_refl _) _).drew
  have HS2 := hide ((unhide HS).later alE)
  have HS1 := hide ((unhide HS).later (Below.refl _ _).drew)
  have XB := hide ((empty_rw w1).later (Below.refl _ _).drew)
  have HH0 : Hid True := hide trivial
  have HALE := hide alE
  clear alE
  go_upto_region 2 with fail
  go_region_law (first
    | (have chk := HH0; go_simp; go_at_call 47; refine (unhide CH _ (unhide HS1)).mono ?_; rintro e w5 ⟨v5, rfl, hb5, rw5⟩; have A5 := hide (CvA.first (below_of_drew hb5) rw5); obtain ⟨aH, cH, rfl, _⟩ := rw5.sl; have ND := hide (fun j u hu => cell_later (unhide A5).bel (unhide ND0 j u hu)); clear rw5 hb5 chk HH0)
    | (have chk := HH0; go_simp; go_at_call 47; refine (unhide CH _ (unhide HS2)).mono ?_; rintro e w5 ⟨v5, rfl, hb5, rw5⟩; have A6 := hide (CvA.second hb5 rw5); obtain ⟨aH, cH, rfl, _⟩ := rw5.sl; have ND := hide (fun j u hu => cell_later (unhide A6).bel (unhide ND0 j u hu)); clear rw5 hb5 chk HH0)
    | (have chk := A5; refine step_append_at' rfl (.tmp 8) (.tmp 11) 23 rfl 0 31 i0 (.agg #[.int .i64 0, .int .i64 0]) 2 16 Try.underlying23 hi hz0 hz1 hz2 rfl (by decide) (.slice (some ⟨w5.heap.size, 0, none⟩) 0 0) 0 (flatP []) (by simp [Act.eval, Act.put]) (unhide A5).emp.row ⟨b, off + k * 2, none⟩ (n - k) (c - k) (flatP (l.drop k)) (by simp [Act.eval, Act.put]) (unhide FD).1 (unhide ND) (flat_one' _) (by unfold maxLen; omega) (by omega) (Nat.zero_le _) (fun v7 w7 own7 gr7 bl7 => ?_); have B7 := hide ((unhide A5).next (by first | exact own7 | (rw [Nat.zero_add]; exact own7)) (unhide FD).2.2.1 gr7 bl7); obtain ⟨a7, d7, rfl, _⟩ := (unhide B7).row.sl; rw [(unhide FD).2.2.1] at B7 ⊢; have NT := hide (fun j u hu => cell_later (unhide B7).bel (unhide NT0 j u hu)); clear own7 gr7 bl7 chk A5)
    | (have chk := A6; refine step_append_at' rfl (.tmp 8) (.tmp 11) 23 rfl 0 31 i0 (.agg #[.int .i64 0, .int .i64 0]) 2 16 Try.underlying23 hi hz0 hz1 hz2 rfl (by decide) (.slice (some ⟨w1.heap.size, 0, none⟩) 0 0) 0 (flatP []) (by simp [Act.eval, Act.put]) (unhide A6).emp.row ⟨b, off + k * 2, none⟩ (n - k) (c - k) (flatP (l.drop k)) (by simp [Act.eval, Act.put]) (unhide FD).1 (unhide ND) (flat_one' _) (by unfold maxLen; omega) (by omega) (Nat.zero_le _) (fun v7 w7 own7 gr7 bl7 => ?_); have B7 := hide ((unhide A6).next (by first | exact own7 | (rw [Nat.zero_add]; exact own7)) (unhide FD).2.2.1 gr7 bl7); obtain ⟨a7, d7, rfl, _⟩ := (unhide B7).row.sl; rw [(unhide FD).2.2.1] at B7 ⊢; have NT := hide (fun j u hu => cell_later (unhide B7).bel (unhide NT0 j u hu)); clear own7 gr7 bl7 chk A6)
    | (have chk := B7; refine step_append_at' rfl (.tmp 12) (.tmp 15) 23 rfl 0 31 i0 (.agg #[.int .i64 0, .int .i64 0]) 2 16 Try.underlying23 hi hz0 hz1 hz2 rfl (by decide) (.slice a7 (n - k) d7) (l.drop k).length (flatP (l.drop k)) (by simp [Act.eval, Act.put]) (unhide B7).row.row ⟨b, off, none⟩ k c (flatP (l.take k)) (by simp [Act.eval, Act.put]) (unhide FD).2.1 (unhide NT) (flat_one' _) (by rw [(unhide FD).2.2.1]; unfold maxLen; omega) (by rw [(unhide FD).2.2.1]; omega) (Nat.zero_le _) (fun v8 w8 own8 gr8 bl8 => ?_); have B8 := hide ((unhide B7).next own8 (unhide FD).2.2.2.1 gr8); obtain ⟨a8, d8, rfl, _⟩ := (unhide B8).1.sl; clear own8 gr8 bl8 chk B7)
    | (have chk := B8; go_simp; go_at_call 59; refine (same10 _ _ _ _ _ _ H (l.drop k ++ l.take k) _ (unhide B8).2.1.sl_at (unhide B8).1.sl_at rfl (by simp) (unhide HLH)).mono ?_; rintro e w9 ⟨rfl, hb9⟩; have HB9 := hide (below_on (unhide B8).2.2 hb9); clear hb9 chk B8)
    | fail)
  all_goals
    go_wp2
    go_ret
    exact ⟨by rw [unhide EV]; rfl, below_on (unhide HB1) (unhide HB9)⟩
end Go.Proofs.Ytgoiodhofbkkdaa
