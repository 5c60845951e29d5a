/- The law FnExactGoodPoly, walked: it answers true at every list of fractions that lies in memory. No condition beyond those typed. -/
import Derived.Test.YtlmeokeanihhoaaFlatQ
import Derived.Test.YtlmeokeanihhoaaLow
import Derived.Test.YtlmeokeanihhoaaRatF
namespace Go.Proofs.Ytlmeokeanihhoaa
open Go.RowKit
set_option linter.unusedVariables false
set_option maxRecDepth 100000
set_option linter.unusedSimpArgs false

/-- The cells of some values in a row. -/
def PAtQ (w : World) (a : Option Addr) (l : List (QV × QD)) : Prop := l = [] ∨ ∃ b off, a = some ⟨b, off, none⟩ ∧ b < w.heap.size ∧ ∀ i (h : i < l.length), w.cell? ⟨b, off + i * 4, none⟩ = some (.bool l[i].1.num.g) ∧ w.cell? ⟨b, off + i * 4 + 1, none⟩ = some (.slice l[i].1.num.a l[i].1.num.n l[i].1.num.c) ∧ w.cell? ⟨b, off + i * 4 + 2, none⟩ = some (.bool l[i].1.den.g) ∧ w.cell? ⟨b, off + i * 4 + 3, none⟩ = some (.slice l[i].1.den.a l[i].1.den.n l[i].1.den.c)
theorem PAtQ.later {w w' : World} {a : Option Addr} {l : List (QV × QD)} (h : PAtQ w a l) (hb : Below w.heap.size w w') : PAtQ w' a l := by
  rcases h with h | ⟨b, off, rfl, h1, h2⟩
  · exact .inl h
  · exact .inr ⟨b, off, rfl, Nat.lt_of_lt_of_le h1 hb.size, fun i hi => ⟨cell_later hb ((h2 i hi).1), cell_later hb ((h2 i hi).2.1), cell_later hb ((h2 i hi).2.2.1), cell_later hb ((h2 i hi).2.2.2)⟩⟩
structure PSlQ (w : World) (a : Option Addr) (l : List (QV × QD)) : Prop where
  at_ : PAtQ w a l
  rd : ∀ p ∈ l, AllSl w [(p.1.num, p.2.num), (p.1.den, p.2.den)]
theorem PSlQ.later {w w' : World} {a : Option Addr} {l : List (QV × QD)} (h : PSlQ w a l) (hb : Below w.heap.size w w') : PSlQ w' a l := ⟨h.at_.later hb, fun p hp => (h.rd p hp).later hb⟩
/-- .. as an argument. -/
structure PArQ (w : World) (a : Option Addr) (n c : Nat) (l : List (QV × QD)) : Prop where
  at_ : PAtQ w a l
  rd : ∀ p ∈ l, AllAr w [(p.1.num, p.2.num), (p.1.den, p.2.den)]
  len : l.length = n
  cap : n ≤ c
  top : c ≤ maxLen
theorem PArQ.later {w w' : World} {a : Option Addr} {n c : Nat} {l : List (QV × QD)} (h : PArQ w a n c l) (hb : Below w.heap.size w w') : PArQ w' a n c l := ⟨h.at_.later hb, fun p hp => (h.rd p hp).later hb, h.len, h.cap, h.top⟩
theorem PArQ.sl {w : World} {a : Option Addr} {n c : Nat} {l : List (QV × QD)} (h : PArQ w a n c l) : PSlQ w a l := ⟨h.at_, fun p hp => (h.rd p hp).sl⟩
def lenQ (p : QV × QD) : Nat := p.1.num.n + p.1.den.n
def lenPQ : List (QV × QD) → Nat
  | [] => 0
  | p :: l => lenQ p + lenPQ l
theorem lenPQ_append (l l' : List (QV × QD)) : lenPQ (l ++ l') = lenPQ l + lenPQ l' := by
  induction l with
  | nil => simp [lenPQ]
  | cons p l ih => simp only [List.cons_append, lenPQ, ih]; omega
theorem lenPQ_mem {l : List (QV × QD)} {p : QV × QD} (h : p ∈ l) : lenQ p ≤ lenPQ l := by
  induction l with
  | nil => cases h
  | cons q l ih =>
    unfold lenPQ
    rcases List.mem_cons.1 h with rfl | h
    · omega
    · have := ih h; omega
/-- The numbers in some values. -/
def zipPQ (l : List (QV × QD)) : List (BV × BD) := l.flatMap (fun p => [(p.1.num, p.2.num), (p.1.den, p.2.den)])
theorem zipPQ_append (l l' : List (QV × QD)) : zipPQ (l ++ l') = zipPQ l ++ zipPQ l' := by simp [zipPQ]
theorem zipPQ_one (p : QV × QD) : zipPQ [p] = [(p.1.num, p.2.num), (p.1.den, p.2.den)] := by simp [zipPQ]
theorem zipPQ_mem {l : List (QV × QD)} {p : QV × QD} (h : p ∈ l) {x : BV × BD} (hx : x ∈ [(p.1.num, p.2.num), (p.1.den, p.2.den)]) : x ∈ zipPQ l := List.mem_flatMap.2 ⟨p, h, hx⟩
theorem take_succQ {l : List (QV × QD)} {i : Nat} (h : i < l.length) : l.take (i + 1) = l.take i ++ [l[i]] := (List.take_append_getElem h).symm

set_option maxHeartbeats 2000000 in
theorem szPQ (a : Option Addr) (n c : Nat) (l : List (QV × QD)) (left : Int) (w : World) (h : PSlQ w a l) (hn : l.length = n) (hm : n ≤ maxLen) (ml : ∀ p ∈ l, p.1.num.n ≤ maxLen ∧ p.1.den.n ≤ maxLen) (h0 : 0 ≤ left) (h1 : left ≤ 1048576) :
    Calls Try.prog 51 #[.slice a n c, .int .i64 left] w fun e w' => ∃ r : Int, e = .returned (.int .i64 r) ∧ Below w.heap.size w w' ∧ (r = -1 ∨ (0 ≤ r ∧ r = left - (n : Int) - (lenPQ l : Int))) := by
  have HS := hide h
  have HN := hide hn
  have ML := hide ml
  clear h hn ml
  unfold maxLen at hm
  by_cases c0 : left - (n : Int) < 0
  · go_enter Try.func51, Try.ntmps51
    go_wp2
    go_ret
    exact ⟨_, rfl, Below.refl _ _, .inl rfl⟩
  · go_enter Try.func51, Try.ntmps51
    go_wp2
    go_loopw [1, 5] (fun lv iv wr => ∃ (i : Nat) (r : Int), i ≤ n ∧ iv = .int .i64 i ∧ lv = .int .i64 r ∧ 0 ≤ r ∧ r ≤ 1048576 ∧ Hid (r = left - (n : Int) - (lenPQ (l.take i) : Int)) ∧ Hid (Below w.heap.size w wr)) (fun _ iv _ => n - (intOf iv).toNat)
    case atStart => exact ⟨0, _, Nat.zero_le _, rfl, rfl, by omega, by omega, hide (by simp [lenPQ]), hide (Below.refl _ _)⟩
    case round =>
      obtain ⟨i, r, hi, rfl, rfl, r0, r1, ER, HB⟩ := hrel
      by_cases hlt : i < n
      · have hlt' : (i : Int) < (n : Int) := by omega
        rcases (unhide HS).at_ with e | ⟨b, off, rfl, hb, hc⟩
        · exact absurd (unhide HN) (by rw [e]; simp; omega)
        have e0 := hc i (by rw [unhide HN]; exact hlt)
        obtain ⟨y, hy⟩ : ∃ y, y = l[i]'(by rw [unhide HN]; exact hlt) := ⟨_, rfl⟩
        rw [← hy] at e0
        have MY : Hid (y ∈ l) := hide (by rw [hy]; exact List.getElem_mem _)
        have EY := hide hy
        clear hy
        have E0 : wr.cell? ⟨b, off + i * 4, none⟩ = some (.bool y.1.num.g) := ((unhide HB).cell (p := ⟨b, off + i * 4, none⟩) hb).trans (e0.1)
        have E1 : wr.cell? ⟨b, off + i * 4 + 1, none⟩ = some (.slice y.1.num.a y.1.num.n y.1.num.c) := ((unhide HB).cell (p := ⟨b, off + i * 4 + 1, none⟩) hb).trans (e0.2.1)
        have E2 : wr.cell? ⟨b, off + i * 4 + 2, none⟩ = some (.bool y.1.den.g) := ((unhide HB).cell (p := ⟨b, off + i * 4 + 2, none⟩) hb).trans (e0.2.2.1)
        have E3 : wr.cell? ⟨b, off + i * 4 + 3, none⟩ = some (.slice y.1.den.a y.1.den.n y.1.den.c) := ((unhide HB).cell (p := ⟨b, off + i * 4 + 3, none⟩) hb).trans (e0.2.2.2)
        clear e0
        have TK : Hid (l.take (i + 1) = l.take i ++ [y]) := hide (by have h := take_succQ (l := l) (i := i) (by rw [unhide HN]; exact hlt); rw [← unhide EY] at h; exact h)
        have j0 := (unhide ML) y (unhide MY)
        have lo : lenQ y = y.1.num.n + y.1.den.n := rfl
        have TL : Hid ((lenPQ (l.take (i + 1)) : Int) = (lenPQ (l.take i) : Int) + ((y.1.num.n : Int) + (y.1.den.n : Int))) := hide (by rw [unhide TK, lenPQ_append]; show ((_ + (lenQ y + 0) : Nat) : Int) = _; omega)
        clear hc lo
        by_cases c1 : (y.1.num.n : Int) + (y.1.den.n : Int) ≤ r
        · have c2 : ¬ (r - (y.1.num.n : Int) - (y.1.den.n : Int) < 0) := by omega
          go_wp2_with fail
          refine (szQ_in y.1 r _ r0 r1 c1).mono ?_
          rintro e w1 ⟨rfl, hb1⟩
          have HB1 := hide (below_on (unhide HB) hb1)
          clear hb1 E0 E1 E2 E3
          go_wp2
          go_roundw
          case rel => exact ⟨i + 1, _, by omega, by go_num, rfl, by omega, by omega, hide (by rw [unhide TL]; have := unhide ER; omega), HB1⟩
          case measure => simp [intOf]; omega
        · go_wp2_with fail
          refine (szQ_out y.1 r _ r0 r1 j0.1 j0.2 (by omega)).mono ?_
          rintro e w1 ⟨rfl, hb1⟩
          have HB1 := hide (below_on (unhide HB) hb1)
          clear hb1 E0 E1 E2 E3
          go_wp2
          go_ret
          exact ⟨_, rfl, unhide HB1, .inl rfl⟩
      · obtain rfl : i = n := by omega
        have EL := hide (show r = left - (i : Int) - (lenPQ l : Int) from by have := unhide ER; rw [← unhide HN, List.take_length, unhide HN] at this; exact this)
        go_wp2
        go_ret
        exact ⟨_, rfl, unhide HB, .inr ⟨r0, unhide EL⟩⟩

theorem get_sndQ {l l' : List (QV × QD)} (h : l.map Prod.snd = l'.map Prod.snd) {i : Nat} (hi : i < l.length) (hi' : i < l'.length) : l[i].2 = l'[i].2 := by
  have := congrArg (fun x => x[i]?) h
  simpa [hi, hi'] using this
set_option maxHeartbeats 4000000 in
theorem eqPQ (a a' : Option Addr) (n c c' : Nat) (l l' : List (QV × QD)) (w : World) (h : PSlQ w a l) (h' : PSlQ w a' l') (hn : l.length = n) (he : l.map Prod.snd = l'.map Prod.snd) (hm : n ≤ maxLen) (ml : ∀ p ∈ l, p.1.num.n ≤ maxLen ∧ p.1.den.n ≤ maxLen) :
    Calls Try.prog 55 #[.slice a n c, .slice a' n c'] w fun e w' => e = .returned (.bool true) ∧ Below w.heap.size w w' := by
  have hn' : l'.length = n := by have := congrArg List.length he; simp at this; omega
  have HS := hide h
  have HS' := hide h'
  have HN := hide hn
  have HN' := hide hn'
  have HE := hide he
  have ML := hide ml
  clear h hn ml he hn' h'
  unfold maxLen at hm
  go_enter Try.func55, Try.ntmps55
  go_wp2
  go_loopw [5] (fun iv wr => ∃ (i : Nat), i ≤ n ∧ iv = .int .i64 i ∧ Hid (Below w.heap.size w wr)) (fun iv _ => n - (intOf iv).toNat)
  case atStart => exact ⟨0, Nat.zero_le _, rfl, hide (Below.refl _ _)⟩
  case round =>
    obtain ⟨i, hi, rfl, HB⟩ := hrel
    by_cases hlt : i < n
    · have hlt' : (i : Int) < (n : Int) := by omega
      rcases (unhide HS).at_ with e | ⟨b, off, rfl, hb, hc⟩
      · exact absurd (unhide HN) (by rw [e]; simp; omega)
      have e0 := hc i (by rw [unhide HN]; exact hlt)
      obtain ⟨y, hy⟩ : ∃ y, y = l[i]'(by rw [unhide HN]; exact hlt) := ⟨_, rfl⟩
      rw [← hy] at e0
      have MY : Hid (y ∈ l) := hide (by rw [hy]; exact List.getElem_mem _)
      have EY := hide hy
      clear hy
      have E0 : wr.cell? ⟨b, off + i * 4, none⟩ = some (.bool y.1.num.g) := ((unhide HB).cell (p := ⟨b, off + i * 4, none⟩) hb).trans (e0.1)
      have E1 : wr.cell? ⟨b, off + i * 4 + 1, none⟩ = some (.slice y.1.num.a y.1.num.n y.1.num.c) := ((unhide HB).cell (p := ⟨b, off + i * 4 + 1, none⟩) hb).trans (e0.2.1)
      have E2 : wr.cell? ⟨b, off + i * 4 + 2, none⟩ = some (.bool y.1.den.g) := ((unhide HB).cell (p := ⟨b, off + i * 4 + 2, none⟩) hb).trans (e0.2.2.1)
      have E3 : wr.cell? ⟨b, off + i * 4 + 3, none⟩ = some (.slice y.1.den.a y.1.den.n y.1.den.c) := ((unhide HB).cell (p := ⟨b, off + i * 4 + 3, none⟩) hb).trans (e0.2.2.2)
      clear e0
      clear hc
      rcases (unhide HS').at_ with e | ⟨b', off', rfl, hb', hc'⟩
      · exact absurd (unhide HN') (by rw [e]; simp; omega)
      have e0 := hc' i (by rw [unhide HN']; exact hlt)
      obtain ⟨y', hy'⟩ : ∃ y, y = l'[i]'(by rw [unhide HN']; exact hlt) := ⟨_, rfl⟩
      rw [← hy'] at e0
      have MY' : Hid (y' ∈ l') := hide (by rw [hy']; exact List.getElem_mem _)
      have ED : Hid (y.2 = y'.2) := hide (by rw [unhide EY, hy']; exact get_sndQ (unhide HE) _ _)
      clear hy'
      have F0 : wr.cell? ⟨b', off' + i * 4, none⟩ = some (.bool y'.1.num.g) := ((unhide HB).cell (p := ⟨b', off' + i * 4, none⟩) hb').trans (e0.1)
      have F1 : wr.cell? ⟨b', off' + i * 4 + 1, none⟩ = some (.slice y'.1.num.a y'.1.num.n y'.1.num.c) := ((unhide HB).cell (p := ⟨b', off' + i * 4 + 1, none⟩) hb').trans (e0.2.1)
      have F2 : wr.cell? ⟨b', off' + i * 4 + 2, none⟩ = some (.bool y'.1.den.g) := ((unhide HB).cell (p := ⟨b', off' + i * 4 + 2, none⟩) hb').trans (e0.2.2.1)
      have F3 : wr.cell? ⟨b', off' + i * 4 + 3, none⟩ = some (.slice y'.1.den.a y'.1.den.n y'.1.den.c) := ((unhide HB).cell (p := ⟨b', off' + i * 4 + 3, none⟩) hb').trans (e0.2.2.2)
      clear e0 hc'
      have j0 := (unhide ML) y (unhide MY)
      have R1 := hide (((unhide HS).rd y (unhide MY)).later (unhide HB))
      have R2 := hide (((unhide HS').rd y' (unhide MY')).later (unhide HB))
      go_upto_region 6 with fail
      go_region_held3 (fun w' => w'.cell? ⟨b, off + i * 4, none⟩ = some (.bool y.1.num.g) ∧ w'.cell? ⟨b, off + i * 4 + 1, none⟩ = some (.slice y.1.num.a y.1.num.n y.1.num.c) ∧ w'.cell? ⟨b, off + i * 4 + 2, none⟩ = some (.bool y.1.den.g) ∧ w'.cell? ⟨b, off + i * 4 + 3, none⟩ = some (.slice y.1.den.a y.1.den.n y.1.den.c) ∧ w'.cell? ⟨b', off' + i * 4, none⟩ = some (.bool y'.1.num.g) ∧ w'.cell? ⟨b', off' + i * 4 + 1, none⟩ = some (.slice y'.1.num.a y'.1.num.n y'.1.num.c) ∧ w'.cell? ⟨b', off' + i * 4 + 2, none⟩ = some (.bool y'.1.den.g) ∧ w'.cell? ⟨b', off' + i * 4 + 3, none⟩ = some (.slice y'.1.den.a y'.1.den.n y'.1.den.c))
        (with_reducible (first | exact ⟨E0, E1, E2, E3, F0, F1, F2, F3⟩ | exact ⟨cd_other E0, cd_other E1, cd_other E2, cd_other E3, cd_other F0, cd_other F1, cd_other F2, cd_other F3⟩ | fail))
        (first
        | (go_at_call 23; refine (eqQ_at y.1 y'.1 y.2 _ ?_ ?_ j0.1 j0.2).mono ?_; exact (unhide R1).drew; (rw [unhide ED]; exact (unhide R2).drew); rintro e w1 ⟨rfl, hb1⟩; have HB1 := hide (below_on (unhide HB) (below_of_drew hb1)); have hbx := below_of_drew hb1; replace E0 := cell_later hbx E0; replace E1 := cell_later hbx E1; replace E2 := cell_later hbx E2; replace E3 := cell_later hbx E3; replace F0 := cell_later hbx F0; replace F1 := cell_later hbx F1; replace F2 := cell_later hbx F2; replace F3 := cell_later hbx F3; clear hb1 hbx))
      clear E0 F0 E1 F1 E2 F2 E3 F3
      go_wp2
      go_roundw
      case rel => exact ⟨i + 1, by omega, by go_num, HB1⟩
      case measure => simp [intOf]; omega
    · obtain rfl : i = n := by omega
      go_wp2
      go_ret
      exact ⟨rfl, unhide HB⟩

theorem but_rowQ {w : World} {G k : Nat} {u : QV} : But G (G + 1) w ((((w.setCell ⟨G, k * 4, none⟩ (.bool u.num.g)).setCell ⟨G, k * 4 + 1, none⟩ (.slice u.num.a u.num.n u.num.c)).setCell ⟨G, k * 4 + 2, none⟩ (.bool u.den.g)).setCell ⟨G, k * 4 + 3, none⟩ (.slice u.den.a u.den.n u.den.c)) := (((((But.refl _ _ _).set (p := ⟨G, k * 4, none⟩) (Nat.le_refl G) (Nat.lt_succ_self G) (.bool u.num.g)).set (p := ⟨G, k * 4 + 1, none⟩) (Nat.le_refl G) (Nat.lt_succ_self G) (.slice u.num.a u.num.n u.num.c)).set (p := ⟨G, k * 4 + 2, none⟩) (Nat.le_refl G) (Nat.lt_succ_self G) (.bool u.den.g)).set (p := ⟨G, k * 4 + 3, none⟩) (Nat.le_refl G) (Nat.lt_succ_self G) (.slice u.den.a u.den.n u.den.c))

/-- Some values in a row that is the law's own, at block G; their numbers in blocks from lo to below hi. -/
structure POwQ (lo hi : Nat) (w : World) (G n c : Nat) (l : List (QV × QD)) : Prop where
  row : ∃ M, w.ownsRow G 30 4 (.slice (some ⟨G, 0, none⟩) n c) n M ∧ ∀ i (h : i < l.length), M[i * 4]? = some (.bool l[i].1.num.g) ∧ M[i * 4 + 1]? = some (.slice l[i].1.num.a l[i].1.num.n l[i].1.num.c) ∧ M[i * 4 + 2]? = some (.bool l[i].1.den.g) ∧ M[i * 4 + 3]? = some (.slice l[i].1.den.a l[i].1.den.n l[i].1.den.c)
  own : AllOwn lo hi w (zipPQ l)
  ar : ∀ p ∈ l, AllAr w [(p.1.num, p.2.num), (p.1.den, p.2.den)]
  len : l.length = n
theorem ownsRow_later {w w' : World} {G g n c size : Nat} {e : TypeId} {M : List Value} (h : w.ownsRow G e size (.slice (some ⟨g, 0, none⟩) n c) n M) (hb : Below w.heap.size w w') : w'.ownsRow G e size (.slice (some ⟨g, 0, none⟩) n c) n M := by
  refine ⟨h.1, ?_⟩
  rcases h.2 with ⟨h', _⟩ | ⟨g', cap, cur, hv, h1, hg, r⟩
  · simp at h'
  · refine .inr ⟨g', cap, cur, hv, h1, ?_, r⟩
    rw [hb.block g' (Array.getElem?_eq_some_iff.1 hg).1]
    exact hg
theorem POwQ.later {lo hi : Nat} {w w' : World} {G n c : Nat} {l : List (QV × QD)} (h : POwQ lo hi w G n c l) (hb : Below w.heap.size w w') : POwQ lo hi w' G n c l := by
  obtain ⟨M, hr, hM⟩ := h.row
  exact ⟨⟨M, ownsRow_later hr hb, hM⟩, h.own.later hb, fun p hp => (h.ar p hp).later hb, h.len⟩
theorem POwQ.arg {lo hi : Nat} {w : World} {G n c : Nat} {l : List (QV × QD)} (h : POwQ lo hi w G n c l) : PArQ w (some ⟨G, 0, none⟩) n c l := by
  obtain ⟨M, hr, hM⟩ := h.row
  have hl := h.len
  have h2 := hr.2
  rcases h2 with ⟨h', _⟩ | ⟨g', cap, cur, hv, h1, hg, r1, r2, r3⟩
  · simp at h'
  simp only [Value.slice.injEq, Option.some.injEq, Addr.mk.injEq, and_true, true_and] at hv
  obtain ⟨rfl, rfl⟩ := hv
  refine ⟨.inr ⟨G, 0, rfl, (Array.getElem?_eq_some_iff.1 hg).1, fun i hi => ?_⟩, h.ar, hl, r1, r2⟩
  have hc := hM i hi
  refine ⟨?_, ?_, ?_, ?_⟩ <;> rw [Nat.zero_add, hr.cellAt _ (by omega)]
  · exact hc.1
  · exact hc.2.1
  · exact hc.2.2.1
  · exact hc.2.2.2
theorem Try.info30 : (Try.prog.info? 30).map (fun i => (i.zero, i.size, i.bytes)) = some (some (.agg #[.bool false, .slice none 0 0, .bool false, .slice none 0 0]), 4, 64) := by kernel_rfl
theorem set_rowQ {M : List Value} {us : List (QV × QD)} {n k : Nat} {u : QV} {d : QD} (hM : M.length = n * 4) (hk : k < n) (hu : us.length = k) (h : ∀ i (h : i < us.length), M[i * 4]? = some (.bool us[i].1.num.g) ∧ M[i * 4 + 1]? = some (.slice us[i].1.num.a us[i].1.num.n us[i].1.num.c) ∧ M[i * 4 + 2]? = some (.bool us[i].1.den.g) ∧ M[i * 4 + 3]? = some (.slice us[i].1.den.a us[i].1.den.n us[i].1.den.c)) :
    ∀ i (h : i < (us ++ [(u, d)]).length), ((((M.set (k * 4) (.bool u.num.g)).set (k * 4 + 1) (.slice u.num.a u.num.n u.num.c)).set (k * 4 + 2) (.bool u.den.g)).set (k * 4 + 3) (.slice u.den.a u.den.n u.den.c))[i * 4]? = some (.bool (us ++ [(u, d)])[i].1.num.g) ∧ ((((M.set (k * 4) (.bool u.num.g)).set (k * 4 + 1) (.slice u.num.a u.num.n u.num.c)).set (k * 4 + 2) (.bool u.den.g)).set (k * 4 + 3) (.slice u.den.a u.den.n u.den.c))[i * 4 + 1]? = some (.slice (us ++ [(u, d)])[i].1.num.a (us ++ [(u, d)])[i].1.num.n (us ++ [(u, d)])[i].1.num.c) ∧ ((((M.set (k * 4) (.bool u.num.g)).set (k * 4 + 1) (.slice u.num.a u.num.n u.num.c)).set (k * 4 + 2) (.bool u.den.g)).set (k * 4 + 3) (.slice u.den.a u.den.n u.den.c))[i * 4 + 2]? = some (.bool (us ++ [(u, d)])[i].1.den.g) ∧ ((((M.set (k * 4) (.bool u.num.g)).set (k * 4 + 1) (.slice u.num.a u.num.n u.num.c)).set (k * 4 + 2) (.bool u.den.g)).set (k * 4 + 3) (.slice u.den.a u.den.n u.den.c))[i * 4 + 3]? = some (.slice (us ++ [(u, d)])[i].1.den.a (us ++ [(u, d)])[i].1.den.n (us ++ [(u, d)])[i].1.den.c) := by
  intro i hi
  by_cases e : i < k
  · have hi' : i < us.length := by omega
    have h1 := h i hi'
    rw [List.getElem_append_left hi']
    simp only [List.getElem?_set]
    refine ⟨?_, ?_, ?_, ?_⟩
    · rw [if_neg (by omega), if_neg (by omega), if_neg (by omega), if_neg (by omega)]; exact h1.1
    · rw [if_neg (by omega), if_neg (by omega), if_neg (by omega), if_neg (by omega)]; exact h1.2.1
    · rw [if_neg (by omega), if_neg (by omega), if_neg (by omega), if_neg (by omega)]; exact h1.2.2.1
    · rw [if_neg (by omega), if_neg (by omega), if_neg (by omega), if_neg (by omega)]; exact h1.2.2.2
  · obtain rfl : i = k := by simp at hi; omega
    subst hu
    rw [List.getElem_append_right (Nat.le_refl _)]
    simp only [Nat.sub_self, List.getElem_cons_zero]
    refine ⟨?_, ?_, ?_, ?_⟩
    · simp only [List.getElem?_set, List.length_set]; rw [if_neg (by omega), if_neg (by omega), if_neg (by omega)]; rw [if_pos trivial, if_pos (by omega)]
    · simp only [List.getElem?_set, List.length_set]; rw [if_neg (by omega), if_neg (by omega)]; rw [if_pos trivial, if_pos (by omega)]
    · simp only [List.getElem?_set, List.length_set]; rw [if_neg (by omega)]; rw [if_pos trivial, if_pos (by omega)]
    · simp only [List.getElem?_set, List.length_set]; rw [if_pos trivial, if_pos (by omega)]

set_option maxHeartbeats 4000000 in
theorem toPQ (a : Option Addr) (n c : Nat) (l : List (QV × QD)) (w : World) (h : PSlQ w a l) (hn : l.length = n) (h1 : n ≤ 1048576) (ml : ∀ p ∈ l, p.1.num.n ≤ 1048576 ∧ p.1.den.n ≤ 1048576) :
    Calls Try.prog 53 #[.slice a n c] w fun e w' => ∃ l' : List (QV × QD), e = .returned (.slice (some ⟨w.heap.size, 0, none⟩) n n) ∧ Below w.heap.size w w' ∧ w.heap.size < w'.heap.size ∧ l'.map Prod.snd = l.map Prod.snd ∧ POwQ (w.heap.size + 1) w'.heap.size w' w.heap.size n n l' := by
  obtain ⟨i0, hi, hz0, hz1, hz2⟩ := info_parts Try.info30
  have HS := hide h
  have HN := hide hn
  have ML := hide ml
  clear h hn ml
  go_enter Try.func53, Try.ntmps53
  go_wp2_with (at_make; refine wpList_make_full _ rfl _ _ 54 rfl w.heap.size 30 i0 (.agg #[.bool false, .slice none 0 0, .bool false, .slice none 0 0]) 4 Try.underlying54 hi hz0 hz1 .i64 .i64 _ _ n rfl rfl rfl rfl ?c1 ?c2 ?c3 ?_)
  case c1 => rw [hz2]; omega
  case c2 => unfold maxLen; omega
  case c3 => exact Nat.le_refl _
  intro w1 hown hgrow
  have hb0 : Below w.heap.size w w1 := (Below.refl _ _).grown hgrow (Nat.le_refl _) (fun k e => by cases e)
  have P0 : Hid (∃ M, w1.ownsRow w.heap.size 30 4 (.slice (some ⟨w.heap.size, 0, none⟩) n n) n M) := hide ⟨_, hown⟩
  have z0 : w.heap.size < w1.heap.size := by
    rcases hown.2 with ⟨h', _⟩ | ⟨g', cap, cur, hv, _, hg, _⟩
    · simp at h'
    · simp only [Value.slice.injEq, Option.some.injEq, Addr.mk.injEq, and_true, true_and] at hv
      have := (Array.getElem?_eq_some_iff.1 hg).1
      omega
  clear hown hgrow hi hz0 hz1 hz2
  have HB0 := hide hb0
  clear hb0
  go_wp2
  go_loopw [4] (fun iv wr => ∃ (k : Nat) (us : List (QV × QD)), k ≤ n ∧ iv = .int .i64 k ∧ us.length = k ∧ w.heap.size < wr.heap.size ∧ Hid (us.map Prod.snd = (l.take k).map Prod.snd) ∧ Hid (∃ M, wr.ownsRow w.heap.size 30 4 (.slice (some ⟨w.heap.size, 0, none⟩) n n) n M ∧ ∀ i (h : i < us.length), M[i * 4]? = some (.bool us[i].1.num.g) ∧ M[i * 4 + 1]? = some (.slice us[i].1.num.a us[i].1.num.n us[i].1.num.c) ∧ M[i * 4 + 2]? = some (.bool us[i].1.den.g) ∧ M[i * 4 + 3]? = some (.slice us[i].1.den.a us[i].1.den.n us[i].1.den.c)) ∧ Hid (AllOwn (w.heap.size + 1) wr.heap.size wr (zipPQ us)) ∧ Hid (∀ p ∈ us, AllAr wr [(p.1.num, p.2.num), (p.1.den, p.2.den)]) ∧ Hid (Below w.heap.size w wr)) (fun iv _ => n - (intOf iv).toNat)
  case atStart =>
    obtain ⟨M, hM⟩ := unhide P0
    exact ⟨0, [], Nat.zero_le _, rfl, rfl, z0, hide (by simp), hide ⟨M, hM, fun i hi => absurd hi (by simp)⟩, hide (AllOwn.nil _ _ _), hide (fun p hp => by cases hp), HB0⟩
  case round =>
    clear P0 HB0 z0
    obtain ⟨k, us, hk, rfl, hu, z1, ED, EM, OO, AA, HB⟩ := hrel
    by_cases hlt : k < n
    · have hlt' : (k : Int) < (n : Int) := by omega
      rcases (unhide HS).at_ with e | ⟨b, off, rfl, hb, hc⟩
      · exact absurd (unhide HN) (by rw [e]; simp; omega)
      have e0 := hc k (by rw [unhide HN]; exact hlt)
      obtain ⟨y, hy⟩ : ∃ y, y = l[k]'(by rw [unhide HN]; exact hlt) := ⟨_, rfl⟩
      rw [← hy] at e0
      have MY : Hid (y ∈ l) := hide (by rw [hy]; exact List.getElem_mem _)
      have EY := hide hy
      clear hy
      have E0 : wr.cell? ⟨b, off + k * 4, none⟩ = some (.bool y.1.num.g) := ((unhide HB).cell (p := ⟨b, off + k * 4, none⟩) hb).trans (e0.1)
      have E1 : wr.cell? ⟨b, off + k * 4 + 1, none⟩ = some (.slice y.1.num.a y.1.num.n y.1.num.c) := ((unhide HB).cell (p := ⟨b, off + k * 4 + 1, none⟩) hb).trans (e0.2.1)
      have E2 : wr.cell? ⟨b, off + k * 4 + 2, none⟩ = some (.bool y.1.den.g) := ((unhide HB).cell (p := ⟨b, off + k * 4 + 2, none⟩) hb).trans (e0.2.2.1)
      have E3 : wr.cell? ⟨b, off + k * 4 + 3, none⟩ = some (.slice y.1.den.a y.1.den.n y.1.den.c) := ((unhide HB).cell (p := ⟨b, off + k * 4 + 3, none⟩) hb).trans (e0.2.2.2)
      clear e0
      have TK : Hid ((l.take (k + 1)).map Prod.snd = us.map Prod.snd ++ [y.2]) := hide (by have h := take_succQ (l := l) (i := k) (by rw [unhide HN]; exact hlt); rw [← unhide EY] at h; rw [h, List.map_append, ← unhide ED]; rfl)
      have j0 := (unhide ML) y (unhide MY)
      have R1 := hide (((unhide HS).rd y (unhide MY)).later (unhide HB))
      clear hc
      go_wp2_with fail
      refine (toQ_at y.1 y.2 _ (unhide R1) j0.1 j0.2).mono ?_
      rintro e w2 ⟨u, rfl, hb2, hlens, ho, ha⟩
      clear hlens
      have z2 := hb2.size
      have HB1 := hide (below_on (unhide HB) hb2)
      obtain ⟨M, hM, hL⟩ := unhide EM
      replace hM := ownsRow_later hM hb2
      have OO2 := hide ((unhide OO).later hb2)
      have AA2 := hide (fun p hp => ((unhide AA) p hp).later hb2)
      have AU := hide ho
      have AV := hide ha
      have old0 : ∃ x, w2.cell? ⟨w.heap.size, k * 4, none⟩ = some x := by
        have hl := hM.1
        rw [hM.cellAt _ (by omega)]
        exact ⟨_, List.getElem?_eq_getElem (by omega)⟩
      obtain ⟨x0, o0⟩ := old0
      have old1 : ∃ x, w2.cell? ⟨w.heap.size, k * 4 + 1, none⟩ = some x := by
        have hl := hM.1
        rw [hM.cellAt _ (by omega)]
        exact ⟨_, List.getElem?_eq_getElem (by omega)⟩
      obtain ⟨x1, o1⟩ := old1
      have old2 : ∃ x, w2.cell? ⟨w.heap.size, k * 4 + 2, none⟩ = some x := by
        have hl := hM.1
        rw [hM.cellAt _ (by omega)]
        exact ⟨_, List.getElem?_eq_getElem (by omega)⟩
      obtain ⟨x2, o2⟩ := old2
      have old3 : ∃ x, w2.cell? ⟨w.heap.size, k * 4 + 3, none⟩ = some x := by
        have hl := hM.1
        rw [hM.cellAt _ (by omega)]
        exact ⟨_, List.getElem?_eq_getElem (by omega)⟩
      obtain ⟨x3, o3⟩ := old3
      have fr : ∀ o, w2.frozen? ⟨w.heap.size, o, none⟩ = false := fun o => hM.frozenAt o
      have HM := hide hM
      have HL := hide hL
      clear hM hL hb2 ho ha EM OO AA E0 E1 E2 E3
      go_wp2
      go_roundw
      case rel =>
        have hM := unhide HM
        have bt : But w.heap.size (w.heap.size + 1) w2 ((((w2.setCell ⟨w.heap.size, k * 4, none⟩ (.bool u.num.g)).setCell ⟨w.heap.size, k * 4 + 1, none⟩ (.slice u.num.a u.num.n u.num.c)).setCell ⟨w.heap.size, k * 4 + 2, none⟩ (.bool u.den.g)).setCell ⟨w.heap.size, k * 4 + 3, none⟩ (.slice u.den.a u.den.n u.den.c)) := but_rowQ
        refine ⟨k + 1, us ++ [(u, y.2)], by omega, by go_num, by simp [hu], Nat.lt_of_lt_of_le (by omega) bt.size, hide (by rw [unhide TK, List.map_append]; rfl), hide ⟨_, (World.ownsRow.stored (World.ownsRow.stored (World.ownsRow.stored (World.ownsRow.stored hM (k * 4) (.bool u.num.g)).1 (k * 4 + 1) (.slice u.num.a u.num.n u.num.c)).1 (k * 4 + 2) (.bool u.den.g)).1 (k * 4 + 3) (.slice u.den.a u.den.n u.den.c)).1, set_rowQ hM.1 hlt hu (unhide HL)⟩, hide ?_, hide ?_, hide ?_⟩
        · rw [zipPQ_append, zipPQ_one]
          exact (((unhide OO2).join (unhide AU) (by omega) (by omega)).but bt (.inr (Nat.le_refl _))).wide (Nat.le_refl _) bt.size
        · intro p hp x hx
          have own := (((unhide OO2).join (unhide AU) (by omega) (by omega)))
          have hAr : AllAr w2 (zipPQ us ++ [(u.num, y.2.num), (u.den, y.2.den)]) := fun x hx => by
            rcases List.mem_append.1 hx with hx | hx
            · obtain ⟨p, hp, hx⟩ := List.mem_flatMap.1 hx
              exact (unhide AA2) p hp x hx
            · exact (unhide AV) x hx
          refine ar_fin bt own hAr (Nat.le_refl _) x ?_
          rcases List.mem_append.1 hp with hp | hp
          · exact List.mem_append_left _ (zipPQ_mem hp hx)
          · obtain rfl := List.mem_singleton.1 hp
            exact List.mem_append_right _ hx
        · exact bt.below (unhide HB1) (Nat.le_refl _) (by have := (unhide HB1).size; omega)
      case measure => simp [intOf]; omega
    · obtain rfl : k = n := by omega
      have EL := hide (show us.map Prod.snd = l.map Prod.snd from by have := unhide ED; rw [← unhide HN, List.take_length] at this; exact this)
      go_wp2
      go_ret
      exact ⟨us, rfl, unhide HB, z1, unhide EL, ⟨unhide EM, unhide OO, unhide AA, hu⟩⟩
end Go.Proofs.Ytlmeokeanihhoaa
namespace Go.Proofs.Ytlmeokeanihhoaa
open Go.RowKit
set_option linter.unusedVariables false
set_option maxRecDepth 100000
set_option linter.unusedSimpArgs false

/-- At most 6 limbs each. -/
def sm (d : QD) : Bool := decide (d.num.xs.length ≤ 6) && decide (d.den.xs.length ≤ 6)
def nz (d : QD) : Bool := decide (d.num.xs.length = 0)
def gC (d : QD) : Bool := sm d && gQ d
def lastOk (l : List QD) : Bool := match l.getLast? with | none => true | some d => !nz d
def gP (l : List QD) : Bool := (decide (l.length ≤ 7) && l.all gC) && lastOk l
theorem any_not_all (l : List QD) (P : QD → Bool) : l.any (fun d => !P d) = !l.all P := by
  induction l with
  | nil => rfl
  | cons d l ih => simp only [List.any_cons, List.all_cons, ih, Bool.not_and]
theorem all_gC (l : List QD) : l.all gC = (l.all sm && l.all gQ) := by
  induction l with
  | nil => rfl
  | cons d l ih =>
    simp only [List.all_cons, ih, gC]
    cases sm d <;> cases gQ d <;> cases l.all sm <;> cases l.all gQ <;> rfl
set_option maxHeartbeats 1000000 in
theorem smallS (q : QV) (d : QD) (w : World) (h : AllAr w [(q.num, d.num), (q.den, d.den)]) : Calls Try.prog 113 #[.agg #[.bool q.num.g, .slice q.num.a q.num.n q.num.c, .bool q.den.g, .slice q.den.a q.den.n q.den.c]] w fun e w' => e = .returned (.bool (sm d)) ∧ Below w.heap.size w w' := by
  have e1 := h.head.ar.len
  have e2 := h.tail.head.ar.len
  have m1 := Nat.le_trans h.head.ar.cap h.head.ar.top
  have m2 := Nat.le_trans h.tail.head.ar.cap h.tail.head.ar.top
  clear h
  unfold maxLen at m1 m2
  unfold sm
  rw [e1, e2]
  have HB := hide (show ∀ o, Below w.heap.size w (w.alloc o) from fun o => (Below.refl _ _).alloc (Nat.le_refl _) _)
  by_cases c1 : q.num.n ≤ 6
  · by_cases c2 : q.den.n ≤ 6
    · rw [decide_eq_true c1, decide_eq_true c2]
      have b1 : (q.num.n : Int) ≤ 6 := by omega
      have b1x : ¬ (6 < (q.num.n : Int)) := by omega
      have b2 : (q.den.n : Int) ≤ 6 := by omega
      have b2x : ¬ (6 < (q.den.n : Int)) := by omega
      go_enter Try.func113, Try.ntmps113
      go_wp2
      go_ret
      exact ⟨rfl, unhide HB _⟩
    · rw [decide_eq_true c1, decide_eq_false c2]
      have b1 : (q.num.n : Int) ≤ 6 := by omega
      have b1x : ¬ (6 < (q.num.n : Int)) := by omega
      have b2 : ¬ ((q.den.n : Int) ≤ 6) := by omega
      have b2x : 6 < (q.den.n : Int) := by omega
      go_enter Try.func113, Try.ntmps113
      go_wp2
      go_ret
      exact ⟨rfl, unhide HB _⟩
  · rw [decide_eq_false c1]
    have b1 : ¬ ((q.num.n : Int) ≤ 6) := by omega
    have b1x : 6 < (q.num.n : Int) := by omega
    go_enter Try.func113, Try.ntmps113
    go_wp2
    go_ret
    exact ⟨by simp, unhide HB _⟩
theorem longI (q : QV) (d : QD) (w : World) (h : AllAr w [(q.num, d.num), (q.den, d.den)]) : Calls Try.prog 168 #[.agg #[.bool q.num.g, .slice q.num.a q.num.n q.num.c, .bool q.den.g, .slice q.den.a q.den.n q.den.c]] w fun e w' => e = .returned (.bool (!sm d)) ∧ Below w.heap.size w w' := by
  have CC := hide (fun w1 => inL q 6 w1)
  rw [show (decide (q.num.n ≤ 6) && decide (q.den.n ≤ 6)) = sm d from by unfold sm; rw [h.head.ar.len, h.tail.head.ar.len]] at CC
  clear h
  have B0 := hide (show Below w.heap.size w (w.alloc (.cells #[.bool q.num.g, .slice q.num.a q.num.n q.num.c, .bool q.den.g, .slice q.den.a q.den.n q.den.c] 30)) from ((Below.refl _ _).alloc (by simp) _))
  go_enter Try.func168, Try.ntmps168
  go_wp2_with fail
  refine (unhide CC _).mono ?_
  rintro e w1 ⟨rfl, hb⟩
  have HB := hide (below_on (unhide B0) hb)
  clear hb
  go_wp2
  go_ret
  exact ⟨rfl, unhide HB⟩
theorem zeroSq (q : QV) (d : QD) (w : World) (h : AllAr w [(q.num, d.num), (q.den, d.den)]) : Calls Try.prog 115 #[.agg #[.bool q.num.g, .slice q.num.a q.num.n q.num.c, .bool q.den.g, .slice q.den.a q.den.n q.den.c]] w fun e w' => e = .returned (.bool (nz d)) ∧ Below w.heap.size w w' := by
  have e1 := h.head.ar.len
  have m1 := Nat.le_trans h.head.ar.cap h.head.ar.top
  clear h
  unfold maxLen at m1
  unfold nz
  rw [e1]
  have HB := hide (show ∀ o, Below w.heap.size w (w.alloc o) from fun o => (Below.refl _ _).alloc (Nat.le_refl _) _)
  by_cases c1 : q.num.n = 0
  · have b1 : ((q.num.n : Int) == 0) = true := by simp [c1]
    rw [decide_eq_true c1]
    clear c1
    go_enter Try.func115, Try.ntmps115
    go_wp2
    go_ret
    exact ⟨rfl, unhide HB _⟩
  · have b1 : ((q.num.n : Int) == 0) = false := by simp; omega
    rw [decide_eq_false c1]
    go_enter Try.func115, Try.ntmps115
    go_wp2
    go_ret
    exact ⟨rfl, unhide HB _⟩
theorem badI (q : QV) (d : QD) (w : World) (h : AllAr w [(q.num, d.num), (q.den, d.den)]) : Calls Try.prog 118 #[.agg #[.bool q.num.g, .slice q.num.a q.num.n q.num.c, .bool q.den.g, .slice q.den.a q.den.n q.den.c]] w fun e w' => e = .returned (.bool (!gQ d)) ∧ Below w.heap.size w w' := by
  have H1 := hide h
  clear h
  have B0 := hide (show Below w.heap.size w (w.alloc (.cells #[.bool q.num.g, .slice q.num.a q.num.n q.num.c, .bool q.den.g, .slice q.den.a q.den.n q.den.c] 30)) from ((Below.refl _ _).alloc (by simp) _))
  go_enter Try.func118, Try.ntmps118
  go_wp2_with fail
  refine (goodQI q d _ ((unhide H1).later (unhide B0))).mono ?_
  rintro e w1 ⟨rfl, hb⟩
  have HB := hide (below_on (unhide B0) hb)
  clear hb
  go_wp2
  go_ret
  exact ⟨rfl, unhide HB⟩
theorem noughtI (q : QV) (d : QD) (w : World) (h : AllAr w [(q.num, d.num), (q.den, d.den)]) : Calls Try.prog 169 #[.agg #[.bool q.num.g, .slice q.num.a q.num.n q.num.c, .bool q.den.g, .slice q.den.a q.den.n q.den.c]] w fun e w' => e = .returned (.bool (nz d)) ∧ Below w.heap.size w w' := by
  have e1 := h.head.ar.len
  have m1 := Nat.le_trans h.head.ar.cap h.head.ar.top
  clear h
  unfold nz
  rw [e1]
  clear e1
  have B0 := hide (show Below w.heap.size w (w.alloc (.cells #[.bool q.num.g, .slice q.num.a q.num.n q.num.c, .bool q.den.g, .slice q.den.a q.den.n q.den.c] 30)) from ((Below.refl _ _).alloc (by simp) _))
  go_enter Try.func169, Try.ntmps169
  go_wp2_with fail
  refine (nought_any q.num.g q.num.a q.num.n q.num.c _ m1).mono ?_
  rintro e w1 ⟨rfl, hb⟩
  have HB := hide (below_on (unhide B0) hb)
  clear hb
  go_wp2
  go_ret
  exact ⟨rfl, unhide HB⟩

set_option maxHeartbeats 2000000 in
theorem indexBad (a : Option Addr) (n c : Nat) (l : List (QV × QD)) (w : World) (h : PArQ w a n c l) :
    Calls Try.prog 171 #[.slice a n c, .func (Fn.func 118) #[] #[]] w fun e w' => ∃ r : Int, e = .returned (.int .i64 r) ∧ Below w.heap.size w w' ∧ decide (0 ≤ r) = (l.map Prod.snd).any (fun d => !gQ d) ∧ -1 ≤ r ∧ r ≤ 9223372036854775807 := by
  have HS := hide h
  have HN := hide h.len
  have hm : n ≤ maxLen := Nat.le_trans h.cap h.top
  clear h
  unfold maxLen at hm
  go_enter Try.func171, Try.ntmps171
  go_wp2
  go_loopw [8] (fun iv wr => ∃ (i : Nat), i ≤ n ∧ iv = .int .i64 i ∧ Hid (((l.take i).map Prod.snd).any (fun d => !gQ d) = false) ∧ Hid (Below w.heap.size w wr)) (fun iv _ => n - (intOf iv).toNat)
  case atStart => exact ⟨0, Nat.zero_le _, rfl, hide (by simp), hide (Below.refl _ _)⟩
  case round =>
    obtain ⟨i, hi, rfl, EA, HB⟩ := hrel
    by_cases hlt : i < n
    · have hlt' : (i : Int) < (n : Int) := by omega
      rcases (unhide HS).at_ with e | ⟨b, off, rfl, hb, hc⟩
      · exact absurd (unhide HN) (by rw [e]; simp; omega)
      have e0 := hc i (by rw [unhide HN]; exact hlt)
      obtain ⟨y, hy⟩ : ∃ y, y = l[i]'(by rw [unhide HN]; exact hlt) := ⟨_, rfl⟩
      rw [← hy] at e0
      have MY : Hid (y ∈ l) := hide (by rw [hy]; exact List.getElem_mem _)
      have EY := hide hy
      clear hy
      have E0 : wr.cell? ⟨b, off + i * 4, none⟩ = some (.bool y.1.num.g) := ((unhide HB).cell (p := ⟨b, off + i * 4, none⟩) hb).trans (e0.1)
      have E1 : wr.cell? ⟨b, off + i * 4 + 1, none⟩ = some (.slice y.1.num.a y.1.num.n y.1.num.c) := ((unhide HB).cell (p := ⟨b, off + i * 4 + 1, none⟩) hb).trans (e0.2.1)
      have E2 : wr.cell? ⟨b, off + i * 4 + 2, none⟩ = some (.bool y.1.den.g) := ((unhide HB).cell (p := ⟨b, off + i * 4 + 2, none⟩) hb).trans (e0.2.2.1)
      have E3 : wr.cell? ⟨b, off + i * 4 + 3, none⟩ = some (.slice y.1.den.a y.1.den.n y.1.den.c) := ((unhide HB).cell (p := ⟨b, off + i * 4 + 3, none⟩) hb).trans (e0.2.2.2)
      clear e0 hc
      have TK : Hid (l.take (i + 1) = l.take i ++ [y]) := hide (by have h := take_succQ (l := l) (i := i) (by rw [unhide HN]; exact hlt); rw [← unhide EY] at h; exact h)
      have R1 := hide (((unhide HS).rd y (unhide MY)).later (unhide HB))
      have CC := hide (fun w1 (k : AllAr w1 [(y.1.num, y.2.num), (y.1.den, y.2.den)]) => badI y.1 y.2 w1 k)
      cases hp : (fun d => !gQ d) y.2
      · have hp' : (!gQ y.2) = false := hp
        rw [hp'] at CC
        go_wp2_with fail
        refine (unhide CC _ (unhide R1)).mono ?_
        rintro e w1 ⟨rfl, hb1⟩
        have HB1 := hide (below_on (unhide HB) hb1)
        clear hb1 E0 E1 E2 E3 CC
        go_wp2
        go_roundw
        case rel => exact ⟨i + 1, by omega, by go_num, hide (by rw [unhide TK, List.map_append, List.any_append, unhide EA]; simp only [List.map_cons, List.map_nil, List.any_cons, List.any_nil]; rw [hp']; rfl), HB1⟩
        case measure => simp [intOf]; omega
      · have hp' : (!gQ y.2) = true := hp
        rw [hp'] at CC
        have AN := hide (show (l.map Prod.snd).any (fun d => !gQ d) = true from List.any_eq_true.2 ⟨y.2, List.mem_map.2 ⟨y, unhide MY, rfl⟩, hp'⟩)
        go_wp2_with fail
        refine (unhide CC _ (unhide R1)).mono ?_
        rintro e w1 ⟨rfl, hb1⟩
        have HB1 := hide (below_on (unhide HB) hb1)
        clear hb1 E0 E1 E2 E3 CC
        go_wp2
        go_ret
        exact ⟨_, rfl, unhide HB1, by rw [unhide AN]; exact decide_eq_true (by omega), by omega, by omega⟩
    · obtain rfl : i = n := by omega
      have EL := hide (show (l.map Prod.snd).any (fun d => !gQ d) = false from by have := unhide EA; rw [← unhide HN, List.take_length] at this; exact this)
      go_wp2
      go_ret
      exact ⟨_, rfl, unhide HB, by rw [unhide EL]; rfl, by omega, by omega⟩
theorem containsBad (a : Option Addr) (n c : Nat) (l : List (QV × QD)) (w : World) (h : PArQ w a n c l) :
    Calls Try.prog 117 #[.slice a n c, .func (Fn.func 118) #[] #[]] w fun e w' => e = .returned (.bool ((l.map Prod.snd).any (fun d => !gQ d))) ∧ Below w.heap.size w w' := by
  have HS := hide h
  clear h
  go_enter Try.func117, Try.ntmps117
  go_wp2_with fail
  refine (indexBad a n c l _ (unhide HS)).mono ?_
  rintro e w1 ⟨r, rfl, hb1, hr, r0, r1⟩
  have HB1 := hide hb1
  have HR := hide hr
  clear hb1 hr
  go_wp2
  go_ret
  exact ⟨by rw [← unhide HR]; rfl, unhide HB1⟩

set_option maxHeartbeats 2000000 in
theorem indexLong (a : Option Addr) (n c : Nat) (l : List (QV × QD)) (w : World) (h : PArQ w a n c l) :
    Calls Try.prog 171 #[.slice a n c, .func (Fn.func 168) #[] #[]] w fun e w' => ∃ r : Int, e = .returned (.int .i64 r) ∧ Below w.heap.size w w' ∧ decide (0 ≤ r) = (l.map Prod.snd).any (fun d => !sm d) ∧ -1 ≤ r ∧ r ≤ 9223372036854775807 := by
  have HS := hide h
  have HN := hide h.len
  have hm : n ≤ maxLen := Nat.le_trans h.cap h.top
  clear h
  unfold maxLen at hm
  go_enter Try.func171, Try.ntmps171
  go_wp2
  go_loopw [8] (fun iv wr => ∃ (i : Nat), i ≤ n ∧ iv = .int .i64 i ∧ Hid (((l.take i).map Prod.snd).any (fun d => !sm d) = false) ∧ Hid (Below w.heap.size w wr)) (fun iv _ => n - (intOf iv).toNat)
  case atStart => exact ⟨0, Nat.zero_le _, rfl, hide (by simp), hide (Below.refl _ _)⟩
  case round =>
    obtain ⟨i, hi, rfl, EA, HB⟩ := hrel
    by_cases hlt : i < n
    · have hlt' : (i : Int) < (n : Int) := by omega
      rcases (unhide HS).at_ with e | ⟨b, off, rfl, hb, hc⟩
      · exact absurd (unhide HN) (by rw [e]; simp; omega)
      have e0 := hc i (by rw [unhide HN]; exact hlt)
      obtain ⟨y, hy⟩ : ∃ y, y = l[i]'(by rw [unhide HN]; exact hlt) := ⟨_, rfl⟩
      rw [← hy] at e0
      have MY : Hid (y ∈ l) := hide (by rw [hy]; exact List.getElem_mem _)
      have EY := hide hy
      clear hy
      have E0 : wr.cell? ⟨b, off + i * 4, none⟩ = some (.bool y.1.num.g) := ((unhide HB).cell (p := ⟨b, off + i * 4, none⟩) hb).trans (e0.1)
      have E1 : wr.cell? ⟨b, off + i * 4 + 1, none⟩ = some (.slice y.1.num.a y.1.num.n y.1.num.c) := ((unhide HB).cell (p := ⟨b, off + i * 4 + 1, none⟩) hb).trans (e0.2.1)
      have E2 : wr.cell? ⟨b, off + i * 4 + 2, none⟩ = some (.bool y.1.den.g) := ((unhide HB).cell (p := ⟨b, off + i * 4 + 2, none⟩) hb).trans (e0.2.2.1)
      have E3 : wr.cell? ⟨b, off + i * 4 + 3, none⟩ = some (.slice y.1.den.a y.1.den.n y.1.den.c) := ((unhide HB).cell (p := ⟨b, off + i * 4 + 3, none⟩) hb).trans (e0.2.2.2)
      clear e0 hc
      have TK : Hid (l.take (i + 1) = l.take i ++ [y]) := hide (by have h := take_succQ (l := l) (i := i) (by rw [unhide HN]; exact hlt); rw [← unhide EY] at h; exact h)
      have R1 := hide (((unhide HS).rd y (unhide MY)).later (unhide HB))
      have CC := hide (fun w1 (k : AllAr w1 [(y.1.num, y.2.num), (y.1.den, y.2.den)]) => longI y.1 y.2 w1 k)
      cases hp : (fun d => !sm d) y.2
      · have hp' : (!sm y.2) = false := hp
        rw [hp'] at CC
        go_wp2_with fail
        refine (unhide CC _ (unhide R1)).mono ?_
        rintro e w1 ⟨rfl, hb1⟩
        have HB1 := hide (below_on (unhide HB) hb1)
        clear hb1 E0 E1 E2 E3 CC
        go_wp2
        go_roundw
        case rel => exact ⟨i + 1, by omega, by go_num, hide (by rw [unhide TK, List.map_append, List.any_append, unhide EA]; simp only [List.map_cons, List.map_nil, List.any_cons, List.any_nil]; rw [hp']; rfl), HB1⟩
        case measure => simp [intOf]; omega
      · have hp' : (!sm y.2) = true := hp
        rw [hp'] at CC
        have AN := hide (show (l.map Prod.snd).any (fun d => !sm d) = true from List.any_eq_true.2 ⟨y.2, List.mem_map.2 ⟨y, unhide MY, rfl⟩, hp'⟩)
        go_wp2_with fail
        refine (unhide CC _ (unhide R1)).mono ?_
        rintro e w1 ⟨rfl, hb1⟩
        have HB1 := hide (below_on (unhide HB) hb1)
        clear hb1 E0 E1 E2 E3 CC
        go_wp2
        go_ret
        exact ⟨_, rfl, unhide HB1, by rw [unhide AN]; exact decide_eq_true (by omega), by omega, by omega⟩
    · obtain rfl : i = n := by omega
      have EL := hide (show (l.map Prod.snd).any (fun d => !sm d) = false from by have := unhide EA; rw [← unhide HN, List.take_length] at this; exact this)
      go_wp2
      go_ret
      exact ⟨_, rfl, unhide HB, by rw [unhide EL]; rfl, by omega, by omega⟩
theorem containsLong (a : Option Addr) (n c : Nat) (l : List (QV × QD)) (w : World) (h : PArQ w a n c l) :
    Calls Try.prog 117 #[.slice a n c, .func (Fn.func 168) #[] #[]] w fun e w' => e = .returned (.bool ((l.map Prod.snd).any (fun d => !sm d))) ∧ Below w.heap.size w w' := by
  have HS := hide h
  clear h
  go_enter Try.func117, Try.ntmps117
  go_wp2_with fail
  refine (indexLong a n c l _ (unhide HS)).mono ?_
  rintro e w1 ⟨r, rfl, hb1, hr, r0, r1⟩
  have HB1 := hide hb1
  have HR := hide hr
  clear hb1 hr
  go_wp2
  go_ret
  exact ⟨by rw [← unhide HR]; rfl, unhide HB1⟩

theorem lastOk_of {l : List (QV × QD)} {n : Nat} (hn : l.length = n) (h0 : 0 < n) : lastOk (l.map Prod.snd) = !nz (l[n - 1]'(by omega)).2 := by
  subst hn
  have : (l.map Prod.snd).getLast? = some (l[l.length - 1]'(by omega)).2 := by
    rw [List.getLast?_eq_getElem?, List.getElem?_map, List.length_map, List.getElem?_eq_getElem (by omega)]
    rfl
  unfold lastOk
  rw [this]

set_option maxHeartbeats 2000000 in
theorem lastQ_v (a : Option Addr) (n c : Nat) (l : List (QV × QD)) (y : QV × QD) (w : World) (h : PArQ w a n c l) (h0 : 0 < n) (hy : l[n - 1]? = some y) :
    Calls Try.prog 170 #[.slice a n c] w fun e w' => e = .returned (.agg #[.bool y.1.num.g, .slice y.1.num.a y.1.num.n y.1.num.c, .bool y.1.den.g, .slice y.1.den.a y.1.den.n y.1.den.c]) ∧ Below w.heap.size w w' := by
  have hl := h.len
  have hm : n ≤ maxLen := Nat.le_trans h.cap h.top
  unfold maxLen at hm
  have HB0 := hide (show ∀ o, Below w.heap.size w (w.alloc o) from fun o => (Below.refl _ _).alloc (Nat.le_refl _) _)
  rcases h.at_ with e | ⟨b, off, rfl, hb, hc⟩
  · exact absurd hl (by rw [e]; simp; omega)
  have e0 := hc (n - 1) (by omega)
  rw [show l[n - 1]'(by omega) = y from (List.getElem?_eq_some_iff.1 hy).2] at e0
  have E0 : w.cell? ⟨b, off + (n - 1) * 4, none⟩ = some (.bool y.1.num.g) := e0.1
  have E1 : w.cell? ⟨b, off + (n - 1) * 4 + 1, none⟩ = some (.slice y.1.num.a y.1.num.n y.1.num.c) := e0.2.1
  have E2 : w.cell? ⟨b, off + (n - 1) * 4 + 2, none⟩ = some (.bool y.1.den.g) := e0.2.2.1
  have E3 : w.cell? ⟨b, off + (n - 1) * 4 + 3, none⟩ = some (.slice y.1.den.a y.1.den.n y.1.den.c) := e0.2.2.2
  have i1 : (0 : Int) ≤ (n : Int) - 1 := by omega
  have i2 : (n : Int) - 1 < (n : Int) := by omega
  have i3 : ((n : Int) - 1).toNat = n - 1 := by omega
  clear e0 hc hy h hl
  go_enter Try.func170, Try.ntmps170
  go_wp2
  refine bodyPost_ret (v := .agg #[.bool y.1.num.g, .slice y.1.num.a y.1.num.n y.1.num.c, .bool y.1.den.g, .slice y.1.den.a y.1.den.n y.1.den.c]) (by simp [results, Try.results170, go_sem]) rfl ?_
  refine ⟨rfl, ?_⟩
  first | exact unhide HB0 _ | (refine (Below.setCell ?_ (Nat.le_refl _) _); exact unhide HB0 _) | (refine (Below.setCell (Below.setCell (Below.setCell (Below.setCell ?_ (Nat.le_refl _) _) (Nat.le_refl _) _) (Nat.le_refl _) _) (Nat.le_refl _) _); exact unhide HB0 _)

set_option maxHeartbeats 4000000 in
theorem polyFits_v (a : Option Addr) (n c : Nat) (l : List (QV × QD)) (w : World) (h : PArQ w a n c l) :
    Calls Try.prog 116 #[.slice a n c] w fun e w' => e = .returned (.bool ((decide (l.length ≤ 7) && (l.map Prod.snd).all sm) && lastOk (l.map Prod.snd))) ∧ Below w.heap.size w w' := by
  have HS := hide h
  have HN := hide h.len
  have hm : n ≤ maxLen := Nat.le_trans h.cap h.top
  have hl := h.len
  clear h
  unfold maxLen at hm
  rw [hl]
  clear hl
  by_cases c7 : n ≤ 7
  · have b7 : ¬ ((7 : Int) < (n : Int)) := by omega
    rw [decide_eq_true c7, Bool.true_and]
    have CC := hide (fun w1 (k : PArQ w1 a n c l) => containsLong a n c l w1 k)
    rw [any_not_all] at CC
    cases hA : (l.map Prod.snd).all sm
    · rw [hA] at CC
      rw [Bool.false_and]
      go_enter Try.func116, Try.ntmps116
      go_wp2_with fail
      refine (unhide CC _ (unhide HS)).mono ?_
      rintro e w1 ⟨rfl, hb1⟩
      have HB1 := hide hb1
      clear hb1 CC
      go_wp2
      go_ret
      exact ⟨rfl, unhide HB1⟩
    · rw [hA] at CC
      rw [Bool.true_and]
      by_cases h0 : n = 0
      · have b0 : ((n : Int) == 0) = true := by simp [h0]
        have LO := hide (show lastOk (l.map Prod.snd) = true from by have := unhide HN; rw [h0] at this; rw [List.length_eq_zero_iff.1 this]; rfl)
        rw [unhide LO]
        clear h0
        go_enter Try.func116, Try.ntmps116
        go_wp2_with fail
        refine (unhide CC _ (unhide HS)).mono ?_
        rintro e w1 ⟨rfl, hb1⟩
        have HB1 := hide hb1
        clear hb1 CC
        go_wp2
        go_ret
        exact ⟨rfl, unhide HB1⟩
      · have b0 : ((n : Int) == 0) = false := by simp; omega
        obtain ⟨y, hy⟩ : ∃ y, y = l[n - 1]'(by have := unhide HN; omega) := ⟨_, rfl⟩
        have LO := hide (lastOk_of (unhide HN) (by omega : 0 < n))
        rw [← hy] at LO
        have R1 := hide ((unhide HS).rd y (by rw [hy]; exact List.getElem_mem _))
        have LY := hide (fun w1 (k : PArQ w1 a n c l) => lastQ_v a n c l y w1 k (by omega) (by rw [hy]; exact List.getElem?_eq_getElem _))
        clear hy
        rw [unhide LO]
        go_enter Try.func116, Try.ntmps116
        go_wp2_with fail
        refine (unhide CC _ (unhide HS)).mono ?_
        rintro e w1 ⟨rfl, hb1⟩
        have HB1 := hide hb1
        replace R1 := hide ((unhide R1).later hb1)
        clear hb1 CC
        go_wp2_with fail
        refine (unhide LY _ ((unhide HS).later (unhide HB1))).mono ?_
        rintro e w3 ⟨rfl, hb3⟩
        replace HB1 := hide (below_on (unhide HB1) hb3)
        replace R1 := hide ((unhide R1).later hb3)
        clear hb3 LY
        go_wp2_with fail
        refine (noughtI y.1 y.2 _ (unhide R1)).mono ?_
        rintro e w2 ⟨rfl, hb2⟩
        have HB2 := hide (below_on (unhide HB1) hb2)
        clear hb2
        go_wp2
        go_ret
        exact ⟨rfl, unhide HB2⟩
  · have b7 : ((7 : Int) < (n : Int)) := by omega
    rw [decide_eq_false c7, Bool.false_and, Bool.false_and]
    go_enter Try.func116, Try.ntmps116
    go_wp2
    go_ret
    exact ⟨rfl, Below.refl _ _⟩

theorem gP_parts (l : List QD) : gP l = (((decide (l.length ≤ 7) && l.all sm) && lastOk l) && l.all gQ) := by
  unfold gP
  rw [all_gC]
  cases decide (l.length ≤ 7) <;> cases l.all sm <;> cases l.all gQ <;> cases lastOk l <;> rfl
theorem GoodPI (a : Option Addr) (n c : Nat) (l : List (QV × QD)) (w : World) (h : PArQ w a n c l) :
    Calls Try.prog 54 #[.slice a n c] w fun e w' => e = .returned (.bool (gP (l.map Prod.snd))) ∧ Below w.heap.size w w' := by
  rw [gP_parts, List.length_map]
  have HS := hide h
  clear h
  have CC := hide (fun w1 (k : PArQ w1 a n c l) => containsBad a n c l w1 k)
  rw [any_not_all] at CC
  have PP := hide (fun w1 (k : PArQ w1 a n c l) => polyFits_v a n c l w1 k)
  cases hA : ((decide (l.length ≤ 7) && (l.map Prod.snd).all sm) && lastOk (l.map Prod.snd))
  · rw [hA] at PP
    rw [Bool.false_and]
    go_enter Try.func54, Try.ntmps54
    go_wp2_with fail
    refine (unhide PP _ (unhide HS)).mono ?_
    rintro e w1 ⟨rfl, hb1⟩
    have HB1 := hide hb1
    clear hb1 PP CC
    go_wp2
    go_ret
    exact ⟨rfl, unhide HB1⟩
  · rw [hA] at PP
    rw [Bool.true_and]
    go_enter Try.func54, Try.ntmps54
    go_wp2_with fail
    refine (unhide PP _ (unhide HS)).mono ?_
    rintro e w1 ⟨rfl, hb1⟩
    have HB1 := hide hb1
    clear hb1 PP
    go_wp2_with fail
    refine (unhide CC _ ((unhide HS).later (unhide HB1))).mono ?_
    rintro e w2 ⟨rfl, hb2⟩
    have HB2 := hide (below_on (unhide HB1) hb2)
    clear hb2 CC
    go_wp2
    go_ret
    exact ⟨by simp, unhide HB2⟩

set_option maxHeartbeats 4000000 in
theorem GoodPS (a : Option Addr) (n c : Nat) (l : List (QV × QD)) (w : World) (h : PArQ w a n c l) :
    Calls Try.prog 52 #[.slice a n c] w fun e w' => e = .returned (.bool (gP (l.map Prod.snd))) ∧ Below w.heap.size w w' := by
  have HS := hide h
  have HN := hide h.len
  have hm : n ≤ maxLen := Nat.le_trans h.cap h.top
  clear h
  unfold maxLen at hm
  go_enter Try.func52, Try.ntmps52
  go_wp2
  go_loopw [7] (fun iv wr => ∃ (i : Nat), i ≤ n ∧ iv = .int .i64 i ∧ Hid (((l.take i).map Prod.snd).all gC = true) ∧ Hid (Below w.heap.size w wr)) (fun iv _ => n - (intOf iv).toNat)
  case atStart => exact ⟨0, Nat.zero_le _, rfl, hide (by simp), hide (Below.refl _ _)⟩
  case round =>
    obtain ⟨i, hi, rfl, EA, HB⟩ := hrel
    by_cases hlt : i < n
    · have hlt' : (i : Int) < (n : Int) := by omega
      rcases (unhide HS).at_ with e | ⟨b, off, rfl, hb, hc⟩
      · exact absurd (unhide HN) (by rw [e]; simp; omega)
      have e0 := hc i (by rw [unhide HN]; exact hlt)
      obtain ⟨y, hy⟩ : ∃ y, y = l[i]'(by rw [unhide HN]; exact hlt) := ⟨_, rfl⟩
      rw [← hy] at e0
      have MY : Hid (y ∈ l) := hide (by rw [hy]; exact List.getElem_mem _)
      have EY := hide hy
      clear hy
      have E0 : wr.cell? ⟨b, off + i * 4, none⟩ = some (.bool y.1.num.g) := ((unhide HB).cell (p := ⟨b, off + i * 4, none⟩) hb).trans (e0.1)
      have E1 : wr.cell? ⟨b, off + i * 4 + 1, none⟩ = some (.slice y.1.num.a y.1.num.n y.1.num.c) := ((unhide HB).cell (p := ⟨b, off + i * 4 + 1, none⟩) hb).trans (e0.2.1)
      have E2 : wr.cell? ⟨b, off + i * 4 + 2, none⟩ = some (.bool y.1.den.g) := ((unhide HB).cell (p := ⟨b, off + i * 4 + 2, none⟩) hb).trans (e0.2.2.1)
      have E3 : wr.cell? ⟨b, off + i * 4 + 3, none⟩ = some (.slice y.1.den.a y.1.den.n y.1.den.c) := ((unhide HB).cell (p := ⟨b, off + i * 4 + 3, none⟩) hb).trans (e0.2.2.2)
      clear e0 hc
      have TK : Hid (l.take (i + 1) = l.take i ++ [y]) := hide (by have h := take_succQ (l := l) (i := i) (by rw [unhide HN]; exact hlt); rw [← unhide EY] at h; exact h)
      have R1 := hide (((unhide HS).rd y (unhide MY)).later (unhide HB))
      have C1 := hide (fun w1 (k : AllAr w1 [(y.1.num, y.2.num), (y.1.den, y.2.den)]) => smallS y.1 y.2 w1 k)
      have C2 := hide (fun w1 (k : AllAr w1 [(y.1.num, y.2.num), (y.1.den, y.2.den)]) => goodQS y.1 y.2 w1 k)
      cases hp1 : sm y.2
      · have AN := hide (show gP (l.map Prod.snd) = false from by
          have ha : (l.map Prod.snd).all gC = false := by
            apply Bool.eq_false_iff.2
            intro h
            have h2 := List.all_eq_true.1 h y.2 (List.mem_map.2 ⟨y, unhide MY, rfl⟩)
            unfold gC at h2
            rw [hp1] at h2
            simp at h2
          unfold gP
          rw [ha, Bool.and_false, Bool.false_and])
        rw [hp1] at C1
        go_wp2_with fail
        refine (unhide C1 _ ((unhide R1).later ((Below.refl _ _).alloc (Nat.le_refl _) _))).mono ?_
        rintro e w1 ⟨rfl, hb1⟩
        have k0 : w1.cell? ⟨wr.heap.size, 0, none⟩ = some (.bool y.1.num.g) := cell_later hb1 (by simp [go_sem])
        have k1 : w1.cell? ⟨wr.heap.size, 1, none⟩ = some (.slice y.1.num.a y.1.num.n y.1.num.c) := cell_later hb1 (by simp [go_sem])
        have k2 : w1.cell? ⟨wr.heap.size, 2, none⟩ = some (.bool y.1.den.g) := cell_later hb1 (by simp [go_sem])
        have k3 : w1.cell? ⟨wr.heap.size, 3, none⟩ = some (.slice y.1.den.a y.1.den.n y.1.den.c) := cell_later hb1 (by simp [go_sem])
        have HB1 := hide (below_on (unhide HB) (ba hb1))
        have RR := hide ((unhide R1).later (ba hb1))
        clear hb1 E0 E1 E2 E3 C1
        clear k0 k1 k2 k3
        go_wp2
        go_ret
        exact ⟨by rw [unhide AN]; rfl, unhide HB1⟩
      · cases hp2 : gQ y.2
        · have AN := hide (show gP (l.map Prod.snd) = false from by
            have ha : (l.map Prod.snd).all gC = false := by
              apply Bool.eq_false_iff.2
              intro h
              have h2 := List.all_eq_true.1 h y.2 (List.mem_map.2 ⟨y, unhide MY, rfl⟩)
              unfold gC at h2
              rw [hp1, hp2] at h2
              simp at h2
            unfold gP
            rw [ha, Bool.and_false, Bool.false_and])
          rw [hp1] at C1
          rw [hp2] at C2
          go_wp2_with fail
          refine (unhide C1 _ ((unhide R1).later ((Below.refl _ _).alloc (Nat.le_refl _) _))).mono ?_
          rintro e w1 ⟨rfl, hb1⟩
          have k0 : w1.cell? ⟨wr.heap.size, 0, none⟩ = some (.bool y.1.num.g) := cell_later hb1 (by simp [go_sem])
          have k1 : w1.cell? ⟨wr.heap.size, 1, none⟩ = some (.slice y.1.num.a y.1.num.n y.1.num.c) := cell_later hb1 (by simp [go_sem])
          have k2 : w1.cell? ⟨wr.heap.size, 2, none⟩ = some (.bool y.1.den.g) := cell_later hb1 (by simp [go_sem])
          have k3 : w1.cell? ⟨wr.heap.size, 3, none⟩ = some (.slice y.1.den.a y.1.den.n y.1.den.c) := cell_later hb1 (by simp [go_sem])
          have HB1 := hide (below_on (unhide HB) (ba hb1))
          have RR := hide ((unhide R1).later (ba hb1))
          clear hb1 E0 E1 E2 E3 C1
          go_wp2_with fail
          refine (unhide C2 _ (unhide RR)).mono ?_
          rintro e w2 ⟨rfl, hb2⟩
          have HBz := hide (below_on (unhide HB1) hb2)
          clear hb2 k0 k1 k2 k3 C2
          go_wp2
          go_ret
          exact ⟨by rw [unhide AN]; rfl, unhide HBz⟩
        · rw [hp1] at C1
          rw [hp2] at C2
          go_wp2_with fail
          refine (unhide C1 _ ((unhide R1).later ((Below.refl _ _).alloc (Nat.le_refl _) _))).mono ?_
          rintro e w1 ⟨rfl, hb1⟩
          have k0 : w1.cell? ⟨wr.heap.size, 0, none⟩ = some (.bool y.1.num.g) := cell_later hb1 (by simp [go_sem])
          have k1 : w1.cell? ⟨wr.heap.size, 1, none⟩ = some (.slice y.1.num.a y.1.num.n y.1.num.c) := cell_later hb1 (by simp [go_sem])
          have k2 : w1.cell? ⟨wr.heap.size, 2, none⟩ = some (.bool y.1.den.g) := cell_later hb1 (by simp [go_sem])
          have k3 : w1.cell? ⟨wr.heap.size, 3, none⟩ = some (.slice y.1.den.a y.1.den.n y.1.den.c) := cell_later hb1 (by simp [go_sem])
          have HB1 := hide (below_on (unhide HB) (ba hb1))
          have RR := hide ((unhide R1).later (ba hb1))
          clear hb1 E0 E1 E2 E3 C1
          go_wp2_with fail
          refine (unhide C2 _ (unhide RR)).mono ?_
          rintro e w2 ⟨rfl, hb2⟩
          have HBz := hide (below_on (unhide HB1) hb2)
          clear hb2 k0 k1 k2 k3 C2
          go_wp2
          go_roundw
          case rel => exact ⟨i + 1, by omega, by go_num, hide (by rw [unhide TK, List.map_append, List.all_append, unhide EA]; simp only [List.map_cons, List.map_nil, List.all_cons, List.all_nil, gC]; rw [hp1, hp2]; rfl), HBz⟩
          case measure => simp [intOf]; omega
    · obtain rfl : i = n := by omega
      have EL := hide (show (l.map Prod.snd).all gC = true from by have := unhide EA; rw [← unhide HN, List.take_length] at this; exact this)
      have GP : Hid (gP (l.map Prod.snd) = (decide (i ≤ 7) && lastOk (l.map Prod.snd))) := hide (by unfold gP; rw [unhide EL, List.length_map, unhide HN, Bool.and_true])
      clear EA
      by_cases c7 : i ≤ 7
      · have b7 : (i : Int) ≤ 7 := by omega
        have D7 := hide (decide_eq_true c7)
        clear c7
        by_cases h0 : i = 0
        · have b0 : ((i : Int) == 0) = true := by simp [h0]
          have LO := hide (show lastOk (l.map Prod.snd) = true from by have := unhide HN; rw [h0] at this; rw [List.length_eq_zero_iff.1 this]; rfl)
          clear h0
          go_wp2
          go_ret
          exact ⟨by rw [unhide GP, unhide D7, unhide LO]; rfl, unhide HB⟩
        · have b0 : ((i : Int) == 0) = false := by simp; omega
          have hlt : i - 1 < i := by omega
          rcases (unhide HS).at_ with e | ⟨b, off, rfl, hb, hc⟩
          · exact absurd (unhide HN) (by rw [e]; simp; omega)
          have LO := hide (lastOk_of (unhide HN) (by omega : 0 < i))
          have e0 := hc (i - 1) (by rw [unhide HN]; exact hlt)
          obtain ⟨y, hy⟩ : ∃ y, y = l[(i - 1)]'(by rw [unhide HN]; exact hlt) := ⟨_, rfl⟩
          rw [← hy] at e0
          have MY : Hid (y ∈ l) := hide (by rw [hy]; exact List.getElem_mem _)
          have EY := hide hy
          clear hy
          have E0 : wr.cell? ⟨b, off + (i - 1) * 4, none⟩ = some (.bool y.1.num.g) := ((unhide HB).cell (p := ⟨b, off + (i - 1) * 4, none⟩) hb).trans (e0.1)
          have E1 : wr.cell? ⟨b, off + (i - 1) * 4 + 1, none⟩ = some (.slice y.1.num.a y.1.num.n y.1.num.c) := ((unhide HB).cell (p := ⟨b, off + (i - 1) * 4 + 1, none⟩) hb).trans (e0.2.1)
          have E2 : wr.cell? ⟨b, off + (i - 1) * 4 + 2, none⟩ = some (.bool y.1.den.g) := ((unhide HB).cell (p := ⟨b, off + (i - 1) * 4 + 2, none⟩) hb).trans (e0.2.2.1)
          have E3 : wr.cell? ⟨b, off + (i - 1) * 4 + 3, none⟩ = some (.slice y.1.den.a y.1.den.n y.1.den.c) := ((unhide HB).cell (p := ⟨b, off + (i - 1) * 4 + 3, none⟩) hb).trans (e0.2.2.2)
          clear e0 hc
          rw [← unhide EY] at LO
          have R1 := hide (((unhide HS).rd y (unhide MY)).later (unhide HB))
          have i1 : (0 : Int) ≤ (i : Int) - 1 := by omega
          have i2 : (i : Int) - 1 < (i : Int) := by omega
          have i3 : ((i : Int) - 1).toNat = i - 1 := by omega
          go_wp2_with fail
          refine (zeroSq y.1 y.2 _ (unhide R1)).mono ?_
          rintro e w2 ⟨rfl, hb2⟩
          have HB2 := hide (below_on (unhide HB) hb2)
          clear hb2
          go_wp2
          go_ret
          exact ⟨by rw [unhide GP, unhide D7, unhide LO]; rfl, unhide HB2⟩
      · have b7 : ¬ ((i : Int) ≤ 7) := by omega
        have D7 := hide (decide_eq_false c7)
        go_wp2
        go_ret
        exact ⟨by rw [unhide GP, unhide D7]; rfl, unhide HB⟩
end Go.Proofs.Ytlmeokeanihhoaa
namespace Go.Proofs.Ytlmeokeanihhoaa
open Go.RowKit
set_option linter.unusedVariables false
set_option maxRecDepth 100000
set_option linter.unusedSimpArgs false

theorem POwQ.lens {lo hi : Nat} {w : World} {G n c : Nat} {l : List (QV × QD)} (h : POwQ lo hi w G n c l) : ∀ p ∈ l, p.1.num.n ≤ maxLen ∧ p.1.den.n ≤ maxLen := fun p hp =>
  ⟨Nat.le_trans (h.ar p hp).head.ar.cap (h.ar p hp).head.ar.top, Nat.le_trans (h.ar p hp).tail.head.ar.cap (h.ar p hp).tail.head.ar.top⟩
set_option maxHeartbeats 2000000 in
theorem lawGoodP_walk (a : Option Addr) (n c : Nat) (l : List (QV × QD)) (w : World) (h : PSlQ w a l) (hn : l.length = n) (hm : n ≤ maxLen) (ml : ∀ p ∈ l, p.1.num.n ≤ maxLen ∧ p.1.den.n ≤ maxLen) :
    Calls Try.prog 14 #[.slice a n c] w fun e w' => e = .returned (.bool true) ∧ Below w.heap.size w w' := by
  have SZ := hide (fun w1 (k : PSlQ w1 a l) => szPQ a n c l 1048576 w1 k hn hm ml (by omega) (by omega))
  have HS := hide h
  have HN := hide hn
  clear h hn hm ml
  go_enter Try.func14, Try.ntmps14
  go_wp2_with fail
  refine (unhide SZ _ (unhide HS)).mono ?_
  rintro e w1 ⟨r, rfl, hb, hr⟩
  clear SZ
  have HB := hide hb
  clear hb
  by_cases hneg : r < 0
  · clear hr
    go_wp2
    go_ret
    exact ⟨rfl, unhide HB⟩
  · have hr' : r = 1048576 - (n : Int) - (lenPQ l : Int) := by
      rcases hr with e | e
      · exact absurd (show r < 0 by omega) hneg
      · exact e.2
    have TT := hide (fun w1 (k : PSlQ w1 a l) => toPQ a n c l w1 k (unhide HN) (by omega) (fun p hp => by have h1 := lenPQ_mem hp; have h2 : lenQ p = p.1.num.n + p.1.den.n := rfl; omega))
    clear hr hr'
    go_wp2_with fail
    refine (unhide TT _ ((unhide HS).later (unhide HB))).mono ?_
    rintro e w2 ⟨l2, rfl, hb, z2, d2, o2⟩
    replace HB := hide (below_on (unhide HB) hb)
    have A2 := hide o2.arg
    have D2 := hide d2
    clear hb z2 d2 o2
    go_wp2_with fail
    refine (GoodPS _ n n l2 _ (unhide A2)).mono ?_
    rintro e w3 ⟨rfl, hb⟩
    rw [unhide D2]
    replace HB := hide (below_on (unhide HB) hb)
    clear hb A2 D2
    go_wp2_with fail
    refine (unhide TT _ ((unhide HS).later (unhide HB))).mono ?_
    rintro e w4 ⟨l4, rfl, hb, z4, d4, o4⟩
    replace HB := hide (below_on (unhide HB) hb)
    have O4 := hide o4
    have D4 := hide d4
    clear hb z4 d4 o4
    go_wp2_with fail
    refine (GoodPI _ n n l4 _ (unhide O4).arg).mono ?_
    rintro e w5 ⟨rfl, hb⟩
    rw [unhide D4]
    replace HB := hide (below_on (unhide HB) hb)
    replace O4 := hide ((unhide O4).later hb)
    clear hb
    generalize gP (l.map Prod.snd) = g
    have HG : (g == g) = true := by simp
    go_wp2_with fail
    refine (unhide TT _ ((unhide HS).later (unhide HB))).mono ?_
    rintro e w6 ⟨l6, rfl, hb, z6, d6, o6⟩
    replace HB := hide (below_on (unhide HB) hb)
    replace O4 := hide ((unhide O4).later hb)
    have O6 := hide o6
    have D6 := hide d6
    clear hb z6 d6 o6 TT
    go_wp2_with fail
    refine (eqPQ _ _ n n n l4 l6 _ (unhide O4).arg.sl (unhide O6).arg.sl (unhide O4).len ((unhide D4).trans (unhide D6).symm) (Nat.le_trans (unhide O4).arg.cap (unhide O4).arg.top) (unhide O4).lens).mono ?_
    rintro e w7 ⟨rfl, hb⟩
    replace HB := hide (below_on (unhide HB) hb)
    clear hb
    go_wp2
    go_ret
    exact ⟨rfl, unhide HB⟩
end Go.Proofs.Ytlmeokeanihhoaa
