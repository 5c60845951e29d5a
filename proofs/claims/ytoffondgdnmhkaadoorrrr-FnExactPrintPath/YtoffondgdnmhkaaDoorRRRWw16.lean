/- Slices of slices of points: sizes, copies, comparisons. No condition beyond those typed. Written by mkww16.py. -/
import Derived.Test.YtoffondgdnmhkaaDoorRRRPtH
import Derived.Test.YtoffondgdnmhkaaDoorRRRPtM
import Derived.Test.YtoffondgdnmhkaaDoorRRRRw11
namespace Go.Proofs.YtoffondgdnmhkaaDoorRRR
open Go.RowKit
set_option linter.unusedVariables false
set_option maxRecDepth 100000
set_option linter.unusedSimpArgs false

/-- A way in a row of ways: where its slice lies, and its points. -/
structure RW where
  a : Option Addr
  n : Nat
  c : Nat
  l : List (Int × Int)
def WAt (w : World) (a : Option Addr) (rs : List RW) : Prop := rs = [] ∨ ∃ b off, a = some ⟨b, off, none⟩ ∧ b < w.heap.size ∧ ∀ i (h : i < rs.length), w.cell? ⟨b, off + i, none⟩ = some (.slice rs[i].a rs[i].n rs[i].c)
theorem WAt.later {w w' : World} {a : Option Addr} {rs : List RW} (h : WAt w a rs) (hb : Below w.heap.size w w') : WAt w' a rs := by
  rcases h with h | ⟨b, off, rfl, h1, h2⟩
  · exact .inl h
  · exact .inr ⟨b, off, rfl, Nat.lt_of_lt_of_le h1 hb.size, fun i hi => cell_later hb (h2 i hi)⟩
structure WSl (w : World) (a : Option Addr) (rs : List RW) : Prop where
  at_ : WAt w a rs
  rd : ∀ r ∈ rs, SlP w r.a r.l ∧ r.l.length = r.n ∧ r.n ≤ maxLen
theorem WSl.later {w w' : World} {a : Option Addr} {rs : List RW} (h : WSl w a rs) (hb : Below w.heap.size w w') : WSl w' a rs := ⟨h.at_.later hb, fun r hr => ⟨(h.rd r hr).1.later hb, (h.rd r hr).2⟩⟩
theorem WSl.nil (w : World) (a : Option Addr) : WSl w a [] := ⟨.inl rfl, fun r hr => by cases hr⟩
def dW (rs : List RW) : List (List (Int × Int)) := rs.map RW.l
theorem dW_len (rs : List RW) : (dW rs).length = rs.length := by simp [dW]
theorem take_succW {l : List RW} {i : Nat} (h : i < l.length) : l.take (i + 1) = l.take i ++ [l[i]] := (List.take_append_getElem h).symm
theorem get_dW {l l' : List RW} (h : dW l = dW l') {i : Nat} (hi : i < l.length) (hi' : i < l'.length) : l[i].l = l'[i].l := by
  have := congrArg (fun x => x[i]?) h
  simpa [dW, hi, hi'] using this
set_option maxHeartbeats 2000000 in
theorem szW (a : Option Addr) (n c : Nat) (rs : List RW) (left : Int) (w : World) (h : WSl w a rs) (hn : rs.length = n) (hm : n ≤ maxLen) (h0 : 0 ≤ left) (h1 : left ≤ 1048576) :
    Calls Tryd.prog 7 #[.slice a n c, .int .i64 left] w fun e w' => ∃ r : Int, e = .returned (.int .i64 r) ∧ Below w.heap.size w w' ∧ (r = -1 ∨ (0 ≤ r ∧ r ≤ 1048576 ∧ n ≤ 1048576 ∧ ∀ q ∈ rs, q.n ≤ 1048576)) := by
  have HS := hide h
  have HN := hide hn
  clear h hn
  unfold maxLen at hm
  by_cases c0 : left - (n : Int) < 0
  · go_enter Tryd.func7, Tryd.ntmps7
    go_wp2
    go_ret
    exact ⟨_, rfl, Below.refl _ _, .inl rfl⟩
  · have N1 : Hid (n ≤ 1048576) := hide (by omega)
    go_enter Tryd.func7, Tryd.ntmps7
    go_wp2
    go_loopw [1, 5] (fun lv iv wr => ∃ (i : Nat) (r : Int), i ≤ n ∧ iv = .int .i64 i ∧ lv = .int .i64 r ∧ 0 ≤ r ∧ r ≤ 1048576 ∧ Hid (∀ q ∈ rs.take i, q.n ≤ 1048576) ∧ Hid (Below w.heap.size w wr)) (fun _ iv _ => n - (intOf iv).toNat)
    case atStart => exact ⟨0, _, Nat.zero_le _, rfl, rfl, by omega, by omega, hide (by simp), hide (Below.refl _ _)⟩
    case round =>
      obtain ⟨i, r, hi, rfl, rfl, r0, r1, ER, HB⟩ := hrel
      by_cases hlt : i < n
      · have hlt' : (i : Int) < (n : Int) := by omega
        rcases (unhide HS).at_ with e | ⟨b, off, rfl, hb, hc⟩
        · exact absurd (unhide HN) (by rw [e]; simp; omega)
        have e0 := hc i (by rw [unhide HN]; exact hlt)
        obtain ⟨y, hy⟩ : ∃ y, y = rs[i]'(by rw [unhide HN]; exact hlt) := ⟨_, rfl⟩
        rw [← hy] at e0
        have MY : Hid (y ∈ rs) := hide (by rw [hy]; exact List.getElem_mem _)
        have TK : Hid (rs.take (i + 1) = rs.take i ++ [y]) := hide (by have h := take_succW (l := rs) (i := i) (by rw [unhide HN]; exact hlt); rw [← hy] at h; exact h)
        clear hy
        have E0 : wr.cell? ⟨b, off + i, none⟩ = some (.slice y.a y.n y.c) := ((unhide HB).cell (p := ⟨b, off + i, none⟩) hb).trans e0
        clear e0 hc
        have CS := hide (szPs y.a y.n y.c r wr ((unhide HS).rd y (unhide MY)).2.2 r0 r1)
        go_wp2_with fail
        refine (unhide CS).mono ?_
        rintro e w1 ⟨hb1, hq⟩
        have HB1 := hide (below_on (unhide HB) hb1)
        clear hb1 E0
        rcases hq with ⟨rfl, hq⟩ | ⟨rfl, hq⟩
        · go_wp2
          go_ret
          exact ⟨_, rfl, unhide HB1, .inl rfl⟩
        · have q0 : ¬ (r - (y.n : Int) < 0) := by omega
          have QB : Hid (∀ q ∈ rs.take (i + 1), q.n ≤ 1048576) := hide (by
            intro q hq2
            rw [unhide TK, List.mem_append] at hq2
            rcases hq2 with h | h
            · exact unhide ER q h
            · rw [List.mem_singleton] at h; subst h; omega)
          go_wp2
          go_roundw
          case rel => exact ⟨i + 1, r - (y.n : Int), by omega, by go_num, rfl, by omega, by omega, QB, HB1⟩
          case measure => simp [intOf]; omega
      · obtain rfl : i = n := by omega
        have QB : Hid (∀ q ∈ rs, q.n ≤ 1048576) := hide (by have := unhide ER; rw [← unhide HN, List.take_length] at this; exact this)
        go_wp2
        go_ret
        exact ⟨_, rfl, unhide HB, .inr ⟨r0, r1, unhide N1, unhide QB⟩⟩
set_option maxHeartbeats 2000000 in
theorem eqW (a a' : Option Addr) (n c c' : Nat) (l l' : List RW) (w : World) (h : WSl w a l) (h' : WSl w a' l') (he : dW l = dW l') (hn : l.length = n) (hm : n ≤ maxLen) :
    Calls Tryd.prog 11 #[.slice a n c, .slice a' n c'] w fun e w' => e = .returned (.bool true) ∧ Below w.heap.size w w' := by
  have hn' : l'.length = n := by have := congrArg List.length he; simp [dW] at this; omega
  have HS := hide h
  have HS' := hide h'
  have HN := hide hn
  have HN' := hide hn'
  have HE := hide he
  clear h hn he hn' h'
  unfold maxLen at hm
  go_enter Tryd.func11, Tryd.ntmps11
  go_wp2
  go_loopw [5] (fun iv wr => ∃ (i : Nat), i ≤ n ∧ iv = .int .i64 i ∧ Hid (Below w.heap.size w wr)) (fun iv _ => n - (intOf iv).toNat)
  case atStart => exact ⟨0, Nat.zero_le _, rfl, hide (Below.refl _ _)⟩
  case round =>
    obtain ⟨i, hi, rfl, HB⟩ := hrel
    by_cases hlt : i < n
    · have hlt' : (i : Int) < (n : Int) := by omega
      rcases (unhide HS).at_ with e | ⟨b, off, rfl, hb, hc⟩
      · exact absurd (unhide HN) (by rw [e]; simp; omega)
      rcases (unhide HS').at_ with e | ⟨b', off', rfl, hb', hc'⟩
      · exact absurd (unhide HN') (by rw [e]; simp; omega)
      have E0 : wr.cell? ⟨b, off + i, none⟩ = _ := ((unhide HB).cell (p := ⟨b, off + i, none⟩) hb).trans (hc i (by rw [unhide HN]; exact hlt))
      have F0 : wr.cell? ⟨b', off' + i, none⟩ = _ := ((unhide HB).cell (p := ⟨b', off' + i, none⟩) hb').trans (hc' i (by rw [unhide HN']; exact hlt))
      have ED := hide (get_dW (unhide HE) (i := i) (by rw [unhide HN]; exact hlt) (by rw [unhide HN']; exact hlt))
      have MY := hide (List.getElem_mem (l := l) (n := i) (by rw [unhide HN]; exact hlt))
      have MY' := hide (List.getElem_mem (l := l') (n := i) (by rw [unhide HN']; exact hlt))
      generalize l[i]'(by rw [unhide HN]; exact hlt) = y at E0 ED MY
      generalize l'[i]'(by rw [unhide HN']; exact hlt) = y' at F0 ED MY'
      clear hc hc'
      have hy := (unhide HS).rd y (unhide MY)
      have hy' := (unhide HS').rd y' (unhide MY')
      have en : y'.n = y.n := by rw [← hy.2.1, ← hy'.2.1, unhide ED]
      rw [en] at F0
      have CE := hide (eqPs y.a y'.a y.n y.c y'.c y.l wr.drew (hy.1.later (unhide HB).drew) (by rw [unhide ED]; exact hy'.1.later (unhide HB).drew) hy.2.1 hy.2.2)
      clear hy hy' en
      go_upto_region 6 with fail
      go_region_held3 (fun w' => w'.cell? ⟨b, off + i, none⟩ = some (.slice y.a y.n y.c) ∧ w'.cell? ⟨b', off' + i, none⟩ = some (.slice y'.a y.n y'.c))
        (with_reducible (first | exact ⟨E0, F0⟩ | exact ⟨cdP E0, cdP F0⟩ | fail))
        (first
        | (go_at_call 24; refine (unhide CE).mono ?_; rintro e w1 ⟨rfl, hb1⟩; have hbx := below_of_drew hb1; have HB1 := hide (below_on (unhide HB) hbx); replace E0 := cell_later hbx E0; replace F0 := cell_later hbx F0; clear hb1 hbx))
      clear E0 F0
      go_wp2
      go_roundw
      case rel => exact ⟨i + 1, by omega, by go_num, HB1⟩
      case measure => simp [intOf]; omega
    · obtain rfl : i = n := by omega
      go_wp2
      go_ret
      exact ⟨rfl, unhide HB⟩
theorem infoW : (Tryd.prog.info? 39).map (fun i => (i.zero, i.size, i.bytes)) = some (some (.slice none 0 0), 1, 24) := by kernel_rfl
set_option maxHeartbeats 4000000 in
theorem toW16 (a : Option Addr) (n c : Nat) (rs : List RW) (w : World) (h : WSl w a rs) (hn : rs.length = n) (h1 : n ≤ 1048576) (sz : ∀ q ∈ rs, q.n ≤ 1048576) :
    Calls Tryd.prog 9 #[.slice a n c] w fun e w' => ∃ (g : Nat) (ys : List RW), e = .returned (.slice (some ⟨g, 0, none⟩) n n) ∧ Below w.heap.size w w' ∧ dW ys = dW rs ∧ WSl w' (some ⟨g, 0, none⟩) ys := by
  have HS := hide h
  have HN := hide hn
  have SZ := hide sz
  clear h hn sz
  obtain ⟨i0, hi0, hz0, hz1, hz2⟩ := info_parts infoW
  have I0 := hide (And.intro hi0 (And.intro hz0 (And.intro hz1 hz2)))
  clear hi0 hz0 hz1 hz2
  go_enter Tryd.func9, Tryd.ntmps9
  go_wp2_with (at_make; refine wpList_make_full _ rfl _ _ 28 rfl w.heap.size 39 i0 (.slice none 0 0) 1 Tryd.underlying28 (unhide I0).1 (unhide I0).2.1 (unhide I0).2.2.1 .i64 .i64 _ _ n rfl rfl rfl rfl ?c1 ?c2 ?c3 ?_)
  case c1 => rw [(unhide I0).2.2.2]; omega
  case c2 => unfold maxLen; omega
  case c3 => exact Nat.le_refl _
  intro w0 hown hgrow
  have hb0 : Below w.heap.size w w0 := (Below.refl _ _).grown hgrow (Nat.le_refl _) (fun k e => by cases e)
  have z0 : w.heap.size < w0.heap.size := by
    rcases hown.2 with ⟨h', _⟩ | ⟨g', cap, cur, hv, h1, hg, r⟩
    · simp at h'
    · simp only [Value.slice.injEq, Option.some.injEq, Addr.mk.injEq, and_true, true_and] at hv
      obtain ⟨rfl, _⟩ := hv
      exact (Array.getElem?_eq_some_iff.1 hg).1
  have P0 : Hid (∃ M, w0.ownsRow w.heap.size 39 1 (.slice (some ⟨w.heap.size, 0, none⟩) n n) n M) := hide ⟨_, hown⟩
  have HB0 := hide hb0
  clear hown hgrow hb0
  go_wp2
  go_loopw [4] (fun iv wr => ∃ (k : Nat) (us : List RW), k ≤ n ∧ iv = .int .i64 k ∧ us.length = k ∧ Hid (dW us = dW (rs.take k)) ∧ Hid (∃ M, wr.ownsRow w.heap.size 39 1 (.slice (some ⟨w.heap.size, 0, none⟩) n n) n M ∧ ∀ i (h : i < us.length), M[i]? = some (.slice us[i].a us[i].n us[i].c)) ∧ Hid (∀ q ∈ us, ∃ G, w.heap.size < G ∧ q.a = some ⟨G, 0, none⟩ ∧ OwP wr G q.n q.c q.l ∧ q.n ≤ maxLen) ∧ Hid (Below w.heap.size w wr) ∧ Hid (w.heap.size < wr.heap.size)) (fun iv _ => n - (intOf iv).toNat)
  case atStart =>
    obtain ⟨M, hM⟩ := unhide P0
    exact ⟨0, [], Nat.zero_le _, rfl, rfl, hide (by simp [dW]), hide ⟨M, hM, fun i hi => absurd hi (by simp)⟩, hide (fun q hq => by cases hq), HB0, hide z0⟩
  case round =>
    clear P0 HB0 z0
    obtain ⟨k, us, hk, rfl, hu, ED, EM, RW_, HB, ZZ⟩ := hrel
    by_cases hlt : k < n
    · have hlt' : (k : Int) < (n : Int) := by omega
      rcases (unhide HS).at_ with e0 | ⟨b, off, rfl, hb, hc⟩
      · exact absurd (unhide HN) (by rw [e0]; simp; omega)
      have E0 : wr.cell? ⟨b, off + k, none⟩ = _ := ((unhide HB).cell (p := ⟨b, off + k, none⟩) hb).trans (hc k (by rw [unhide HN]; exact hlt))
      have MY := hide (List.getElem_mem (l := rs) (n := k) (by rw [unhide HN]; exact hlt))
      have TK := hide (take_succW (l := rs) (i := k) (by rw [unhide HN]; exact hlt))
      generalize rs[k]'(by rw [unhide HN]; exact hlt) = y at E0 MY TK
      clear hc
      have hy := (unhide HS).rd y (unhide MY)
      have CT := hide (toPs y.a y.n y.c y.l wr (hy.1.later (unhide HB)) hy.2.1 (unhide SZ y (unhide MY)))
      have ym : Hid (y.n ≤ maxLen) := hide hy.2.2
      clear hy
      go_wp2_with fail
      refine (unhide CT).mono ?_
      rintro x w2 ⟨rfl, hb2, ow⟩
      have HB1 := hide (below_on (unhide HB) hb2)
      obtain ⟨M, hM, hL⟩ := unhide EM
      replace hM := owns_laterR hM hb2
      have old0 : ∃ x, w2.cell? ⟨w.heap.size, k, none⟩ = some x := by
        have hl := hM.1
        rw [hM.cellAt _ (by omega)]
        exact ⟨_, List.getElem?_eq_getElem (by omega)⟩
      obtain ⟨x0, o0⟩ := old0
      have fr : ∀ o, w2.frozen? ⟨w.heap.size, o, none⟩ = false := fun o => hM.frozenAt o
      have HM := hide hM
      have HL := hide hL
      have OW := hide (fun q (hq : q ∈ us ++ [(⟨some ⟨wr.heap.size, 0, none⟩, y.n, y.n, y.l⟩ : RW)]) => show ∃ G, w.heap.size < G ∧ q.a = some ⟨G, 0, none⟩ ∧ OwP w2 G q.n q.c q.l ∧ q.n ≤ maxLen from by
        rw [List.mem_append] at hq
        rcases hq with h | h
        · obtain ⟨G, g1, g2, g3, g4⟩ := unhide RW_ q h
          exact ⟨G, g1, g2, g3.later hb2, g4⟩
        · rw [List.mem_singleton] at h
          subst h
          exact ⟨_, unhide ZZ, rfl, ow, unhide ym⟩)
      have ZZ2 := hide (Nat.lt_of_lt_of_le (unhide ZZ) hb2.size)
      have DM : Hid (dW (us ++ [⟨some ⟨wr.heap.size, 0, none⟩, y.n, y.n, y.l⟩]) = dW (rs.take (k + 1))) := hide (by
        rw [unhide TK]
        have h := unhide ED
        unfold dW at h ⊢
        rw [List.map_append, List.map_append, h]
        simp)
      clear hM hL hb2 EM E0 ow RW_ ZZ
      go_wp2
      go_roundw
      case rel =>
        have bt : But w.heap.size (w.heap.size + 1) w2 (w2.setCell ⟨w.heap.size, k, none⟩ (.slice (some ⟨wr.heap.size, 0, none⟩) y.n y.n)) := (But.refl _ _ _).set (p := ⟨w.heap.size, k, none⟩) (Nat.le_refl _) (Nat.lt_succ_self _) _
        refine ⟨k + 1, us ++ [⟨some ⟨wr.heap.size, 0, none⟩, y.n, y.n, y.l⟩], by omega, by go_num, by simp [hu], DM, hide ⟨_, (World.ownsRow.stored (unhide HM) k (.slice (some ⟨wr.heap.size, 0, none⟩) y.n y.n)).1, fun i hi => ?_⟩, hide (fun q hq => ?_), hide (bt.below (unhide HB1) (Nat.le_refl _) (unhide HB1).size), hide ?_⟩
        · have hml : M.length = n * 1 := (unhide HM).1
          by_cases c : i = k
          · subst c
            rw [List.getElem?_set_self (by omega)]
            simp [hu]
          · have hi2 : i < us.length := by simp at hi; omega
            rw [List.getElem?_set_ne (by omega), (unhide HL) i hi2, List.getElem_append_left hi2]
        · obtain ⟨G, g1, g2, g3, g4⟩ := unhide OW q hq
          exact ⟨G, g1, g2, g3.keep bt (.inr (by omega)), g4⟩
        · exact Nat.lt_of_lt_of_le (unhide ZZ2) bt.size
      case measure => simp [intOf]; omega
    · obtain rfl : k = n := by omega
      go_wp2
      go_ret
      obtain ⟨M, hM, hL⟩ := unhide EM
      have ED2 : dW us = dW rs := by have := unhide ED; rw [← unhide HN, List.take_length] at this; exact this
      refine ⟨_, us, rfl, unhide HB, ED2, ?_, fun q hq => ?_⟩
      · refine .inr ⟨_, 0, rfl, unhide ZZ, fun i hi => ?_⟩
        rw [Nat.zero_add, hM.cellAt _ (by have := hM.1; omega)]
        exact hL i hi
      · obtain ⟨G, g1, g2, g3, g4⟩ := unhide RW_ q hq
        rw [g2]
        exact ⟨g3.arg.sl, g3.len, g4⟩
end Go.Proofs.YtoffondgdnmhkaaDoorRRR
