/- The walk through the law FnExactAddPoly: it returns true. No condition beyond those typed. Written by mkplaw2.py. -/
import Derived.Test.YtlmeokeanihhoaaFlatQ
import Derived.Test.YtlmeokeanihhoaaLow
import Derived.Test.YtlmeokeanihhoaaRatF
import Derived.Deep.AppendLies
import Derived.Laws.AppendOwnNone
namespace Go.Proofs.Ytlmeokeanihhoaa
open Go.RowKit
set_option linter.unusedVariables false
set_option maxRecDepth 100000
set_option linter.unusedSimpArgs false

/-- The cells of some values in a row. -/
def PAtQ (w : World) (a : Option Addr) (l : List (QV × QD)) : Prop := l = [] ∨ ∃ b off, a = some ⟨b, off, none⟩ ∧ b < w.heap.size ∧ ∀ i (h : i < l.length), w.cell? ⟨b, off + i * 4, none⟩ = some (.bool l[i].1.num.g) ∧ w.cell? ⟨b, off + i * 4 + 1, none⟩ = some (.slice l[i].1.num.a l[i].1.num.n l[i].1.num.c) ∧ w.cell? ⟨b, off + i * 4 + 2, none⟩ = some (.bool l[i].1.den.g) ∧ w.cell? ⟨b, off + i * 4 + 3, none⟩ = some (.slice l[i].1.den.a l[i].1.den.n l[i].1.den.c)
theorem PAtQ.later {w w' : World} {a : Option Addr} {l : List (QV × QD)} (h : PAtQ w a l) (hb : Below w.heap.size w w') : PAtQ w' a l := by
  rcases h with h | ⟨b, off, rfl, h1, h2⟩
  · exact .inl h
  · exact .inr ⟨b, off, rfl, Nat.lt_of_lt_of_le h1 hb.size, fun i hi => ⟨cell_later hb ((h2 i hi).1), cell_later hb ((h2 i hi).2.1), cell_later hb ((h2 i hi).2.2.1), cell_later hb ((h2 i hi).2.2.2)⟩⟩
structure PSlQ (w : World) (a : Option Addr) (l : List (QV × QD)) : Prop where
  at_ : PAtQ w a l
  rd : ∀ p ∈ l, AllSl w [(p.1.num, p.2.num), (p.1.den, p.2.den)]
theorem PSlQ.later {w w' : World} {a : Option Addr} {l : List (QV × QD)} (h : PSlQ w a l) (hb : Below w.heap.size w w') : PSlQ w' a l := ⟨h.at_.later hb, fun p hp => (h.rd p hp).later hb⟩
/-- .. as an argument. -/
structure PArQ (w : World) (a : Option Addr) (n c : Nat) (l : List (QV × QD)) : Prop where
  at_ : PAtQ w a l
  rd : ∀ p ∈ l, AllAr w [(p.1.num, p.2.num), (p.1.den, p.2.den)]
  len : l.length = n
  cap : n ≤ c
  top : c ≤ maxLen
theorem PArQ.later {w w' : World} {a : Option Addr} {n c : Nat} {l : List (QV × QD)} (h : PArQ w a n c l) (hb : Below w.heap.size w w') : PArQ w' a n c l := ⟨h.at_.later hb, fun p hp => (h.rd p hp).later hb, h.len, h.cap, h.top⟩
theorem PArQ.sl {w : World} {a : Option Addr} {n c : Nat} {l : List (QV × QD)} (h : PArQ w a n c l) : PSlQ w a l := ⟨h.at_, fun p hp => (h.rd p hp).sl⟩
def lenQ (p : QV × QD) : Nat := p.1.num.n + p.1.den.n
def lenPQ : List (QV × QD) → Nat
  | [] => 0
  | p :: l => lenQ p + lenPQ l
theorem lenPQ_append (l l' : List (QV × QD)) : lenPQ (l ++ l') = lenPQ l + lenPQ l' := by
  induction l with
  | nil => simp [lenPQ]
  | cons p l ih => simp only [List.cons_append, lenPQ, ih]; omega
theorem lenPQ_mem {l : List (QV × QD)} {p : QV × QD} (h : p ∈ l) : lenQ p ≤ lenPQ l := by
  induction l with
  | nil => cases h
  | cons q l ih =>
    unfold lenPQ
    rcases List.mem_cons.1 h with rfl | h
    · omega
    · have := ih h; omega
/-- The numbers in some values. -/
def zipPQ (l : List (QV × QD)) : List (BV × BD) := l.flatMap (fun p => [(p.1.num, p.2.num), (p.1.den, p.2.den)])
theorem zipPQ_append (l l' : List (QV × QD)) : zipPQ (l ++ l') = zipPQ l ++ zipPQ l' := by simp [zipPQ]
theorem zipPQ_one (p : QV × QD) : zipPQ [p] = [(p.1.num, p.2.num), (p.1.den, p.2.den)] := by simp [zipPQ]
theorem zipPQ_mem {l : List (QV × QD)} {p : QV × QD} (h : p ∈ l) {x : BV × BD} (hx : x ∈ [(p.1.num, p.2.num), (p.1.den, p.2.den)]) : x ∈ zipPQ l := List.mem_flatMap.2 ⟨p, h, hx⟩
theorem take_succQ {l : List (QV × QD)} {i : Nat} (h : i < l.length) : l.take (i + 1) = l.take i ++ [l[i]] := (List.take_append_getElem h).symm

set_option maxHeartbeats 2000000 in
theorem szPQ (a : Option Addr) (n c : Nat) (l : List (QV × QD)) (left : Int) (w : World) (h : PSlQ w a l) (hn : l.length = n) (hm : n ≤ maxLen) (ml : ∀ p ∈ l, p.1.num.n ≤ maxLen ∧ p.1.den.n ≤ maxLen) (h0 : 0 ≤ left) (h1 : left ≤ 1048576) :
    Calls Try.prog 51 #[.slice a n c, .int .i64 left] w fun e w' => ∃ r : Int, e = .returned (.int .i64 r) ∧ Below w.heap.size w w' ∧ (r = -1 ∨ (0 ≤ r ∧ r = left - (n : Int) - (lenPQ l : Int))) := by
  have HS := hide h
  have HN := hide hn
  have ML := hide ml
  clear h hn ml
  unfold maxLen at hm
  by_cases c0 : left - (n : Int) < 0
  · go_enter Try.func51, Try.ntmps51
    go_wp2
    go_ret
    exact ⟨_, rfl, Below.refl _ _, .inl rfl⟩
  · go_enter Try.func51, Try.ntmps51
    go_wp2
    go_loopw [1, 5] (fun lv iv wr => ∃ (i : Nat) (r : Int), i ≤ n ∧ iv = .int .i64 i ∧ lv = .int .i64 r ∧ 0 ≤ r ∧ r ≤ 1048576 ∧ Hid (r = left - (n : Int) - (lenPQ (l.take i) : Int)) ∧ Hid (Below w.heap.size w wr)) (fun _ iv _ => n - (intOf iv).toNat)
    case atStart => exact ⟨0, _, Nat.zero_le _, rfl, rfl, by omega, by omega, hide (by simp [lenPQ]), hide (Below.refl _ _)⟩
    case round =>
      obtain ⟨i, r, hi, rfl, rfl, r0, r1, ER, HB⟩ := hrel
      by_cases hlt : i < n
      · have hlt' : (i : Int) < (n : Int) := by omega
        rcases (unhide HS).at_ with e | ⟨b, off, rfl, hb, hc⟩
        · exact absurd (unhide HN) (by rw [e]; simp; omega)
        have e0 := hc i (by rw [unhide HN]; exact hlt)
        obtain ⟨y, hy⟩ : ∃ y, y = l[i]'(by rw [unhide HN]; exact hlt) := ⟨_, rfl⟩
        rw [← hy] at e0
        have MY : Hid (y ∈ l) := hide (by rw [hy]; exact List.getElem_mem _)
        have EY := hide hy
        clear hy
        have E0 : wr.cell? ⟨b, off + i * 4, none⟩ = some (.bool y.1.num.g) := ((unhide HB).cell (p := ⟨b, off + i * 4, none⟩) hb).trans (e0.1)
        have E1 : wr.cell? ⟨b, off + i * 4 + 1, none⟩ = some (.slice y.1.num.a y.1.num.n y.1.num.c) := ((unhide HB).cell (p := ⟨b, off + i * 4 + 1, none⟩) hb).trans (e0.2.1)
        have E2 : wr.cell? ⟨b, off + i * 4 + 2, none⟩ = some (.bool y.1.den.g) := ((unhide HB).cell (p := ⟨b, off + i * 4 + 2, none⟩) hb).trans (e0.2.2.1)
        have E3 : wr.cell? ⟨b, off + i * 4 + 3, none⟩ = some (.slice y.1.den.a y.1.den.n y.1.den.c) := ((unhide HB).cell (p := ⟨b, off + i * 4 + 3, none⟩) hb).trans (e0.2.2.2)
        clear e0
        have TK : Hid (l.take (i + 1) = l.take i ++ [y]) := hide (by have h := take_succQ (l := l) (i := i) (by rw [unhide HN]; exact hlt); rw [← unhide EY] at h; exact h)
        have j0 := (unhide ML) y (unhide MY)
        have lo : lenQ y = y.1.num.n + y.1.den.n := rfl
        have TL : Hid ((lenPQ (l.take (i + 1)) : Int) = (lenPQ (l.take i) : Int) + ((y.1.num.n : Int) + (y.1.den.n : Int))) := hide (by rw [unhide TK, lenPQ_append]; show ((_ + (lenQ y + 0) : Nat) : Int) = _; omega)
        clear hc lo
        by_cases c1 : (y.1.num.n : Int) + (y.1.den.n : Int) ≤ r
        · have c2 : ¬ (r - (y.1.num.n : Int) - (y.1.den.n : Int) < 0) := by omega
          go_wp2_with fail
          refine (szQ_in y.1 r _ r0 r1 c1).mono ?_
          rintro e w1 ⟨rfl, hb1⟩
          have HB1 := hide (below_on (unhide HB) hb1)
          clear hb1 E0 E1 E2 E3
          go_wp2
          go_roundw
          case rel => exact ⟨i + 1, _, by omega, by go_num, rfl, by omega, by omega, hide (by rw [unhide TL]; have := unhide ER; omega), HB1⟩
          case measure => simp [intOf]; omega
        · go_wp2_with fail
          refine (szQ_out y.1 r _ r0 r1 j0.1 j0.2 (by omega)).mono ?_
          rintro e w1 ⟨rfl, hb1⟩
          have HB1 := hide (below_on (unhide HB) hb1)
          clear hb1 E0 E1 E2 E3
          go_wp2
          go_ret
          exact ⟨_, rfl, unhide HB1, .inl rfl⟩
      · obtain rfl : i = n := by omega
        have EL := hide (show r = left - (i : Int) - (lenPQ l : Int) from by have := unhide ER; rw [← unhide HN, List.take_length, unhide HN] at this; exact this)
        go_wp2
        go_ret
        exact ⟨_, rfl, unhide HB, .inr ⟨r0, unhide EL⟩⟩

theorem get_sndQ {l l' : List (QV × QD)} (h : l.map Prod.snd = l'.map Prod.snd) {i : Nat} (hi : i < l.length) (hi' : i < l'.length) : l[i].2 = l'[i].2 := by
  have := congrArg (fun x => x[i]?) h
  simpa [hi, hi'] using this
set_option maxHeartbeats 4000000 in
theorem eqPQ (a a' : Option Addr) (n c c' : Nat) (l l' : List (QV × QD)) (w : World) (h : PSlQ w a l) (h' : PSlQ w a' l') (hn : l.length = n) (he : l.map Prod.snd = l'.map Prod.snd) (hm : n ≤ maxLen) (ml : ∀ p ∈ l, p.1.num.n ≤ maxLen ∧ p.1.den.n ≤ maxLen) :
    Calls Try.prog 55 #[.slice a n c, .slice a' n c'] w fun e w' => e = .returned (.bool true) ∧ Below w.heap.size w w' := by
  have hn' : l'.length = n := by have := congrArg List.length he; simp at this; omega
  have HS := hide h
  have HS' := hide h'
  have HN := hide hn
  have HN' := hide hn'
  have HE := hide he
  have ML := hide ml
  clear h hn ml he hn' h'
  unfold maxLen at hm
  go_enter Try.func55, Try.ntmps55
  go_wp2
  go_loopw [5] (fun iv wr => ∃ (i : Nat), i ≤ n ∧ iv = .int .i64 i ∧ Hid (Below w.heap.size w wr)) (fun iv _ => n - (intOf iv).toNat)
  case atStart => exact ⟨0, Nat.zero_le _, rfl, hide (Below.refl _ _)⟩
  case round =>
    obtain ⟨i, hi, rfl, HB⟩ := hrel
    by_cases hlt : i < n
    · have hlt' : (i : Int) < (n : Int) := by omega
      rcases (unhide HS).at_ with e | ⟨b, off, rfl, hb, hc⟩
      · exact absurd (unhide HN) (by rw [e]; simp; omega)
      have e0 := hc i (by rw [unhide HN]; exact hlt)
      obtain ⟨y, hy⟩ : ∃ y, y = l[i]'(by rw [unhide HN]; exact hlt) := ⟨_, rfl⟩
      rw [← hy] at e0
      have MY : Hid (y ∈ l) := hide (by rw [hy]; exact List.getElem_mem _)
      have EY := hide hy
      clear hy
      have E0 : wr.cell? ⟨b, off + i * 4, none⟩ = some (.bool y.1.num.g) := ((unhide HB).cell (p := ⟨b, off + i * 4, none⟩) hb).trans (e0.1)
      have E1 : wr.cell? ⟨b, off + i * 4 + 1, none⟩ = some (.slice y.1.num.a y.1.num.n y.1.num.c) := ((unhide HB).cell (p := ⟨b, off + i * 4 + 1, none⟩) hb).trans (e0.2.1)
      have E2 : wr.cell? ⟨b, off + i * 4 + 2, none⟩ = some (.bool y.1.den.g) := ((unhide HB).cell (p := ⟨b, off + i * 4 + 2, none⟩) hb).trans (e0.2.2.1)
      have E3 : wr.cell? ⟨b, off + i * 4 + 3, none⟩ = some (.slice y.1.den.a y.1.den.n y.1.den.c) := ((unhide HB).cell (p := ⟨b, off + i * 4 + 3, none⟩) hb).trans (e0.2.2.2)
      clear e0
      clear hc
      rcases (unhide HS').at_ with e | ⟨b', off', rfl, hb', hc'⟩
      · exact absurd (unhide HN') (by rw [e]; simp; omega)
      have e0 := hc' i (by rw [unhide HN']; exact hlt)
      obtain ⟨y', hy'⟩ : ∃ y, y = l'[i]'(by rw [unhide HN']; exact hlt) := ⟨_, rfl⟩
      rw [← hy'] at e0
      have MY' : Hid (y' ∈ l') := hide (by rw [hy']; exact List.getElem_mem _)
      have ED : Hid (y.2 = y'.2) := hide (by rw [unhide EY, hy']; exact get_sndQ (unhide HE) _ _)
      clear hy'
      have F0 : wr.cell? ⟨b', off' + i * 4, none⟩ = some (.bool y'.1.num.g) := ((unhide HB).cell (p := ⟨b', off' + i * 4, none⟩) hb').trans (e0.1)
      have F1 : wr.cell? ⟨b', off' + i * 4 + 1, none⟩ = some (.slice y'.1.num.a y'.1.num.n y'.1.num.c) := ((unhide HB).cell (p := ⟨b', off' + i * 4 + 1, none⟩) hb').trans (e0.2.1)
      have F2 : wr.cell? ⟨b', off' + i * 4 + 2, none⟩ = some (.bool y'.1.den.g) := ((unhide HB).cell (p := ⟨b', off' + i * 4 + 2, none⟩) hb').trans (e0.2.2.1)
      have F3 : wr.cell? ⟨b', off' + i * 4 + 3, none⟩ = some (.slice y'.1.den.a y'.1.den.n y'.1.den.c) := ((unhide HB).cell (p := ⟨b', off' + i * 4 + 3, none⟩) hb').trans (e0.2.2.2)
      clear e0 hc'
      have j0 := (unhide ML) y (unhide MY)
      have R1 := hide (((unhide HS).rd y (unhide MY)).later (unhide HB))
      have R2 := hide (((unhide HS').rd y' (unhide MY')).later (unhide HB))
      go_upto_region 6 with fail
      go_region_held3 (fun w' => w'.cell? ⟨b, off + i * 4, none⟩ = some (.bool y.1.num.g) ∧ w'.cell? ⟨b, off + i * 4 + 1, none⟩ = some (.slice y.1.num.a y.1.num.n y.1.num.c) ∧ w'.cell? ⟨b, off + i * 4 + 2, none⟩ = some (.bool y.1.den.g) ∧ w'.cell? ⟨b, off + i * 4 + 3, none⟩ = some (.slice y.1.den.a y.1.den.n y.1.den.c) ∧ w'.cell? ⟨b', off' + i * 4, none⟩ = some (.bool y'.1.num.g) ∧ w'.cell? ⟨b', off' + i * 4 + 1, none⟩ = some (.slice y'.1.num.a y'.1.num.n y'.1.num.c) ∧ w'.cell? ⟨b', off' + i * 4 + 2, none⟩ = some (.bool y'.1.den.g) ∧ w'.cell? ⟨b', off' + i * 4 + 3, none⟩ = some (.slice y'.1.den.a y'.1.den.n y'.1.den.c))
        (with_reducible (first | exact ⟨E0, E1, E2, E3, F0, F1, F2, F3⟩ | exact ⟨cd_other E0, cd_other E1, cd_other E2, cd_other E3, cd_other F0, cd_other F1, cd_other F2, cd_other F3⟩ | fail))
        (first
        | (go_at_call 23; refine (eqQ_at y.1 y'.1 y.2 _ ?_ ?_ j0.1 j0.2).mono ?_; exact (unhide R1).drew; (rw [unhide ED]; exact (unhide R2).drew); rintro e w1 ⟨rfl, hb1⟩; have HB1 := hide (below_on (unhide HB) (below_of_drew hb1)); have hbx := below_of_drew hb1; replace E0 := cell_later hbx E0; replace E1 := cell_later hbx E1; replace E2 := cell_later hbx E2; replace E3 := cell_later hbx E3; replace F0 := cell_later hbx F0; replace F1 := cell_later hbx F1; replace F2 := cell_later hbx F2; replace F3 := cell_later hbx F3; clear hb1 hbx))
      clear E0 F0 E1 F1 E2 F2 E3 F3
      go_wp2
      go_roundw
      case rel => exact ⟨i + 1, by omega, by go_num, HB1⟩
      case measure => simp [intOf]; omega
    · obtain rfl : i = n := by omega
      go_wp2
      go_ret
      exact ⟨rfl, unhide HB⟩

theorem but_rowQ {w : World} {G k : Nat} {u : QV} : But G (G + 1) w ((((w.setCell ⟨G, k * 4, none⟩ (.bool u.num.g)).setCell ⟨G, k * 4 + 1, none⟩ (.slice u.num.a u.num.n u.num.c)).setCell ⟨G, k * 4 + 2, none⟩ (.bool u.den.g)).setCell ⟨G, k * 4 + 3, none⟩ (.slice u.den.a u.den.n u.den.c)) := (((((But.refl _ _ _).set (p := ⟨G, k * 4, none⟩) (Nat.le_refl G) (Nat.lt_succ_self G) (.bool u.num.g)).set (p := ⟨G, k * 4 + 1, none⟩) (Nat.le_refl G) (Nat.lt_succ_self G) (.slice u.num.a u.num.n u.num.c)).set (p := ⟨G, k * 4 + 2, none⟩) (Nat.le_refl G) (Nat.lt_succ_self G) (.bool u.den.g)).set (p := ⟨G, k * 4 + 3, none⟩) (Nat.le_refl G) (Nat.lt_succ_self G) (.slice u.den.a u.den.n u.den.c))

/-- Some values in a row that is the law's own, at block G; their numbers in blocks from lo to below hi. -/
structure POwQ (lo hi : Nat) (w : World) (G n c : Nat) (l : List (QV × QD)) : Prop where
  row : ∃ M, w.ownsRow G 30 4 (.slice (some ⟨G, 0, none⟩) n c) n M ∧ ∀ i (h : i < l.length), M[i * 4]? = some (.bool l[i].1.num.g) ∧ M[i * 4 + 1]? = some (.slice l[i].1.num.a l[i].1.num.n l[i].1.num.c) ∧ M[i * 4 + 2]? = some (.bool l[i].1.den.g) ∧ M[i * 4 + 3]? = some (.slice l[i].1.den.a l[i].1.den.n l[i].1.den.c)
  own : AllOwn lo hi w (zipPQ l)
  ar : ∀ p ∈ l, AllAr w [(p.1.num, p.2.num), (p.1.den, p.2.den)]
  len : l.length = n
theorem ownsRow_later {w w' : World} {G g n c size : Nat} {e : TypeId} {M : List Value} (h : w.ownsRow G e size (.slice (some ⟨g, 0, none⟩) n c) n M) (hb : Below w.heap.size w w') : w'.ownsRow G e size (.slice (some ⟨g, 0, none⟩) n c) n M := by
  refine ⟨h.1, ?_⟩
  rcases h.2 with ⟨h', _⟩ | ⟨g', cap, cur, hv, h1, hg, r⟩
  · simp at h'
  · refine .inr ⟨g', cap, cur, hv, h1, ?_, r⟩
    rw [hb.block g' (Array.getElem?_eq_some_iff.1 hg).1]
    exact hg
theorem POwQ.later {lo hi : Nat} {w w' : World} {G n c : Nat} {l : List (QV × QD)} (h : POwQ lo hi w G n c l) (hb : Below w.heap.size w w') : POwQ lo hi w' G n c l := by
  obtain ⟨M, hr, hM⟩ := h.row
  exact ⟨⟨M, ownsRow_later hr hb, hM⟩, h.own.later hb, fun p hp => (h.ar p hp).later hb, h.len⟩
theorem POwQ.arg {lo hi : Nat} {w : World} {G n c : Nat} {l : List (QV × QD)} (h : POwQ lo hi w G n c l) : PArQ w (some ⟨G, 0, none⟩) n c l := by
  obtain ⟨M, hr, hM⟩ := h.row
  have hl := h.len
  have h2 := hr.2
  rcases h2 with ⟨h', _⟩ | ⟨g', cap, cur, hv, h1, hg, r1, r2, r3⟩
  · simp at h'
  simp only [Value.slice.injEq, Option.some.injEq, Addr.mk.injEq, and_true, true_and] at hv
  obtain ⟨rfl, rfl⟩ := hv
  refine ⟨.inr ⟨G, 0, rfl, (Array.getElem?_eq_some_iff.1 hg).1, fun i hi => ?_⟩, h.ar, hl, r1, r2⟩
  have hc := hM i hi
  refine ⟨?_, ?_, ?_, ?_⟩ <;> rw [Nat.zero_add, hr.cellAt _ (by omega)]
  · exact hc.1
  · exact hc.2.1
  · exact hc.2.2.1
  · exact hc.2.2.2
theorem Try.info30 : (Try.prog.info? 30).map (fun i => (i.zero, i.size, i.bytes)) = some (some (.agg #[.bool false, .slice none 0 0, .bool false, .slice none 0 0]), 4, 64) := by kernel_rfl
theorem set_rowQ {M : List Value} {us : List (QV × QD)} {n k : Nat} {u : QV} {d : QD} (hM : M.length = n * 4) (hk : k < n) (hu : us.length = k) (h : ∀ i (h : i < us.length), M[i * 4]? = some (.bool us[i].1.num.g) ∧ M[i * 4 + 1]? = some (.slice us[i].1.num.a us[i].1.num.n us[i].1.num.c) ∧ M[i * 4 + 2]? = some (.bool us[i].1.den.g) ∧ M[i * 4 + 3]? = some (.slice us[i].1.den.a us[i].1.den.n us[i].1.den.c)) :
    ∀ i (h : i < (us ++ [(u, d)]).length), ((((M.set (k * 4) (.bool u.num.g)).set (k * 4 + 1) (.slice u.num.a u.num.n u.num.c)).set (k * 4 + 2) (.bool u.den.g)).set (k * 4 + 3) (.slice u.den.a u.den.n u.den.c))[i * 4]? = some (.bool (us ++ [(u, d)])[i].1.num.g) ∧ ((((M.set (k * 4) (.bool u.num.g)).set (k * 4 + 1) (.slice u.num.a u.num.n u.num.c)).set (k * 4 + 2) (.bool u.den.g)).set (k * 4 + 3) (.slice u.den.a u.den.n u.den.c))[i * 4 + 1]? = some (.slice (us ++ [(u, d)])[i].1.num.a (us ++ [(u, d)])[i].1.num.n (us ++ [(u, d)])[i].1.num.c) ∧ ((((M.set (k * 4) (.bool u.num.g)).set (k * 4 + 1) (.slice u.num.a u.num.n u.num.c)).set (k * 4 + 2) (.bool u.den.g)).set (k * 4 + 3) (.slice u.den.a u.den.n u.den.c))[i * 4 + 2]? = some (.bool (us ++ [(u, d)])[i].1.den.g) ∧ ((((M.set (k * 4) (.bool u.num.g)).set (k * 4 + 1) (.slice u.num.a u.num.n u.num.c)).set (k * 4 + 2) (.bool u.den.g)).set (k * 4 + 3) (.slice u.den.a u.den.n u.den.c))[i * 4 + 3]? = some (.slice (us ++ [(u, d)])[i].1.den.a (us ++ [(u, d)])[i].1.den.n (us ++ [(u, d)])[i].1.den.c) := by
  intro i hi
  by_cases e : i < k
  · have hi' : i < us.length := by omega
    have h1 := h i hi'
    rw [List.getElem_append_left hi']
    simp only [List.getElem?_set]
    refine ⟨?_, ?_, ?_, ?_⟩
    · rw [if_neg (by omega), if_neg (by omega), if_neg (by omega), if_neg (by omega)]; exact h1.1
    · rw [if_neg (by omega), if_neg (by omega), if_neg (by omega), if_neg (by omega)]; exact h1.2.1
    · rw [if_neg (by omega), if_neg (by omega), if_neg (by omega), if_neg (by omega)]; exact h1.2.2.1
    · rw [if_neg (by omega), if_neg (by omega), if_neg (by omega), if_neg (by omega)]; exact h1.2.2.2
  · obtain rfl : i = k := by simp at hi; omega
    subst hu
    rw [List.getElem_append_right (Nat.le_refl _)]
    simp only [Nat.sub_self, List.getElem_cons_zero]
    refine ⟨?_, ?_, ?_, ?_⟩
    · simp only [List.getElem?_set, List.length_set]; rw [if_neg (by omega), if_neg (by omega), if_neg (by omega)]; rw [if_pos trivial, if_pos (by omega)]
    · simp only [List.getElem?_set, List.length_set]; rw [if_neg (by omega), if_neg (by omega)]; rw [if_pos trivial, if_pos (by omega)]
    · simp only [List.getElem?_set, List.length_set]; rw [if_neg (by omega)]; rw [if_pos trivial, if_pos (by omega)]
    · simp only [List.getElem?_set, List.length_set]; rw [if_pos trivial, if_pos (by omega)]

set_option maxHeartbeats 4000000 in
theorem toPQ (a : Option Addr) (n c : Nat) (l : List (QV × QD)) (w : World) (h : PSlQ w a l) (hn : l.length = n) (h1 : n ≤ 1048576) (ml : ∀ p ∈ l, p.1.num.n ≤ 1048576 ∧ p.1.den.n ≤ 1048576) :
    Calls Try.prog 53 #[.slice a n c] w fun e w' => ∃ l' : List (QV × QD), e = .returned (.slice (some ⟨w.heap.size, 0, none⟩) n n) ∧ Below w.heap.size w w' ∧ w.heap.size < w'.heap.size ∧ l'.map Prod.snd = l.map Prod.snd ∧ POwQ (w.heap.size + 1) w'.heap.size w' w.heap.size n n l' := by
  obtain ⟨i0, hi, hz0, hz1, hz2⟩ := info_parts Try.info30
  have HS := hide h
  have HN := hide hn
  have ML := hide ml
  clear h hn ml
  go_enter Try.func53, Try.ntmps53
  go_wp2_with (at_make; refine wpList_make_full _ rfl _ _ 54 rfl w.heap.size 30 i0 (.agg #[.bool false, .slice none 0 0, .bool false, .slice none 0 0]) 4 Try.underlying54 hi hz0 hz1 .i64 .i64 _ _ n rfl rfl rfl rfl ?c1 ?c2 ?c3 ?_)
  case c1 => rw [hz2]; omega
  case c2 => unfold maxLen; omega
  case c3 => exact Nat.le_refl _
  intro w1 hown hgrow
  have hb0 : Below w.heap.size w w1 := (Below.refl _ _).grown hgrow (Nat.le_refl _) (fun k e => by cases e)
  have P0 : Hid (∃ M, w1.ownsRow w.heap.size 30 4 (.slice (some ⟨w.heap.size, 0, none⟩) n n) n M) := hide ⟨_, hown⟩
  have z0 : w.heap.size < w1.heap.size := by
    rcases hown.2 with ⟨h', _⟩ | ⟨g', cap, cur, hv, _, hg, _⟩
    · simp at h'
    · simp only [Value.slice.injEq, Option.some.injEq, Addr.mk.injEq, and_true, true_and] at hv
      have := (Array.getElem?_eq_some_iff.1 hg).1
      omega
  clear hown hgrow hi hz0 hz1 hz2
  have HB0 := hide hb0
  clear hb0
  go_wp2
  go_loopw [4] (fun iv wr => ∃ (k : Nat) (us : List (QV × QD)), k ≤ n ∧ iv = .int .i64 k ∧ us.length = k ∧ w.heap.size < wr.heap.size ∧ Hid (us.map Prod.snd = (l.take k).map Prod.snd) ∧ Hid (∃ M, wr.ownsRow w.heap.size 30 4 (.slice (some ⟨w.heap.size, 0, none⟩) n n) n M ∧ ∀ i (h : i < us.length), M[i * 4]? = some (.bool us[i].1.num.g) ∧ M[i * 4 + 1]? = some (.slice us[i].1.num.a us[i].1.num.n us[i].1.num.c) ∧ M[i * 4 + 2]? = some (.bool us[i].1.den.g) ∧ M[i * 4 + 3]? = some (.slice us[i].1.den.a us[i].1.den.n us[i].1.den.c)) ∧ Hid (AllOwn (w.heap.size + 1) wr.heap.size wr (zipPQ us)) ∧ Hid (∀ p ∈ us, AllAr wr [(p.1.num, p.2.num), (p.1.den, p.2.den)]) ∧ Hid (Below w.heap.size w wr)) (fun iv _ => n - (intOf iv).toNat)
  case atStart =>
    obtain ⟨M, hM⟩ := unhide P0
    exact ⟨0, [], Nat.zero_le _, rfl, rfl, z0, hide (by simp), hide ⟨M, hM, fun i hi => absurd hi (by simp)⟩, hide (AllOwn.nil _ _ _), hide (fun p hp => by cases hp), HB0⟩
  case round =>
    clear P0 HB0 z0
    obtain ⟨k, us, hk, rfl, hu, z1, ED, EM, OO, AA, HB⟩ := hrel
    by_cases hlt : k < n
    · have hlt' : (k : Int) < (n : Int) := by omega
      rcases (unhide HS).at_ with e | ⟨b, off, rfl, hb, hc⟩
      · exact absurd (unhide HN) (by rw [e]; simp; omega)
      have e0 := hc k (by rw [unhide HN]; exact hlt)
      obtain ⟨y, hy⟩ : ∃ y, y = l[k]'(by rw [unhide HN]; exact hlt) := ⟨_, rfl⟩
      rw [← hy] at e0
      have MY : Hid (y ∈ l) := hide (by rw [hy]; exact List.getElem_mem _)
      have EY := hide hy
      clear hy
      have E0 : wr.cell? ⟨b, off + k * 4, none⟩ = some (.bool y.1.num.g) := ((unhide HB).cell (p := ⟨b, off + k * 4, none⟩) hb).trans (e0.1)
      have E1 : wr.cell? ⟨b, off + k * 4 + 1, none⟩ = some (.slice y.1.num.a y.1.num.n y.1.num.c) := ((unhide HB).cell (p := ⟨b, off + k * 4 + 1, none⟩) hb).trans (e0.2.1)
      have E2 : wr.cell? ⟨b, off + k * 4 + 2, none⟩ = some (.bool y.1.den.g) := ((unhide HB).cell (p := ⟨b, off + k * 4 + 2, none⟩) hb).trans (e0.2.2.1)
      have E3 : wr.cell? ⟨b, off + k * 4 + 3, none⟩ = some (.slice y.1.den.a y.1.den.n y.1.den.c) := ((unhide HB).cell (p := ⟨b, off + k * 4 + 3, none⟩) hb).trans (e0.2.2.2)
      clear e0
      have TK : Hid ((l.take (k + 1)).map Prod.snd = us.map Prod.snd ++ [y.2]) := hide (by have h := take_succQ (l := l) (i := k) (by rw [unhide HN]; exact hlt); rw [← unhide EY] at h; rw [h, List.map_append, ← unhide ED]; rfl)
      have j0 := (unhide ML) y (unhide MY)
      have R1 := hide (((unhide HS).rd y (unhide MY)).later (unhide HB))
      clear hc
      go_wp2_with fail
      refine (toQ_at y.1 y.2 _ (unhide R1) j0.1 j0.2).mono ?_
      rintro e w2 ⟨u, rfl, hb2, hlens, ho, ha⟩
      clear hlens
      have z2 := hb2.size
      have HB1 := hide (below_on (unhide HB) hb2)
      obtain ⟨M, hM, hL⟩ := unhide EM
      replace hM := ownsRow_later hM hb2
      have OO2 := hide ((unhide OO).later hb2)
      have AA2 := hide (fun p hp => ((unhide AA) p hp).later hb2)
      have AU := hide ho
      have AV := hide ha
      have old0 : ∃ x, w2.cell? ⟨w.heap.size, k * 4, none⟩ = some x := by
        have hl := hM.1
        rw [hM.cellAt _ (by omega)]
        exact ⟨_, List.getElem?_eq_getElem (by omega)⟩
      obtain ⟨x0, o0⟩ := old0
      have old1 : ∃ x, w2.cell? ⟨w.heap.size, k * 4 + 1, none⟩ = some x := by
        have hl := hM.1
        rw [hM.cellAt _ (by omega)]
        exact ⟨_, List.getElem?_eq_getElem (by omega)⟩
      obtain ⟨x1, o1⟩ := old1
      have old2 : ∃ x, w2.cell? ⟨w.heap.size, k * 4 + 2, none⟩ = some x := by
        have hl := hM.1
        rw [hM.cellAt _ (by omega)]
        exact ⟨_, List.getElem?_eq_getElem (by omega)⟩
      obtain ⟨x2, o2⟩ := old2
      have old3 : ∃ x, w2.cell? ⟨w.heap.size, k * 4 + 3, none⟩ = some x := by
        have hl := hM.1
        rw [hM.cellAt _ (by omega)]
        exact ⟨_, List.getElem?_eq_getElem (by omega)⟩
      obtain ⟨x3, o3⟩ := old3
      have fr : ∀ o, w2.frozen? ⟨w.heap.size, o, none⟩ = false := fun o => hM.frozenAt o
      have HM := hide hM
      have HL := hide hL
      clear hM hL hb2 ho ha EM OO AA E0 E1 E2 E3
      go_wp2
      go_roundw
      case rel =>
        have hM := unhide HM
        have bt : But w.heap.size (w.heap.size + 1) w2 ((((w2.setCell ⟨w.heap.size, k * 4, none⟩ (.bool u.num.g)).setCell ⟨w.heap.size, k * 4 + 1, none⟩ (.slice u.num.a u.num.n u.num.c)).setCell ⟨w.heap.size, k * 4 + 2, none⟩ (.bool u.den.g)).setCell ⟨w.heap.size, k * 4 + 3, none⟩ (.slice u.den.a u.den.n u.den.c)) := but_rowQ
        refine ⟨k + 1, us ++ [(u, y.2)], by omega, by go_num, by simp [hu], Nat.lt_of_lt_of_le (by omega) bt.size, hide (by rw [unhide TK, List.map_append]; rfl), hide ⟨_, (World.ownsRow.stored (World.ownsRow.stored (World.ownsRow.stored (World.ownsRow.stored hM (k * 4) (.bool u.num.g)).1 (k * 4 + 1) (.slice u.num.a u.num.n u.num.c)).1 (k * 4 + 2) (.bool u.den.g)).1 (k * 4 + 3) (.slice u.den.a u.den.n u.den.c)).1, set_rowQ hM.1 hlt hu (unhide HL)⟩, hide ?_, hide ?_, hide ?_⟩
        · rw [zipPQ_append, zipPQ_one]
          exact (((unhide OO2).join (unhide AU) (by omega) (by omega)).but bt (.inr (Nat.le_refl _))).wide (Nat.le_refl _) bt.size
        · intro p hp x hx
          have own := (((unhide OO2).join (unhide AU) (by omega) (by omega)))
          have hAr : AllAr w2 (zipPQ us ++ [(u.num, y.2.num), (u.den, y.2.den)]) := fun x hx => by
            rcases List.mem_append.1 hx with hx | hx
            · obtain ⟨p, hp, hx⟩ := List.mem_flatMap.1 hx
              exact (unhide AA2) p hp x hx
            · exact (unhide AV) x hx
          refine ar_fin bt own hAr (Nat.le_refl _) x ?_
          rcases List.mem_append.1 hp with hp | hp
          · exact List.mem_append_left _ (zipPQ_mem hp hx)
          · obtain rfl := List.mem_singleton.1 hp
            exact List.mem_append_right _ hx
        · exact bt.below (unhide HB1) (Nat.le_refl _) (by have := (unhide HB1).size; omega)
      case measure => simp [intOf]; omega
    · obtain rfl : k = n := by omega
      have EL := hide (show us.map Prod.snd = l.map Prod.snd from by have := unhide ED; rw [← unhide HN, List.take_length] at this; exact this)
      go_wp2
      go_ret
      exact ⟨us, rfl, unhide HB, z1, unhide EL, ⟨unhide EM, unhide OO, unhide AA, hu⟩⟩
end Go.Proofs.Ytlmeokeanihhoaa
namespace Go.Proofs.Ytlmeokeanihhoaa
open Go.RowKit
set_option linter.unusedVariables false
set_option maxRecDepth 100000
set_option linter.unusedSimpArgs false

/-- At most 6 limbs each. -/
def sm (d : QD) : Bool := decide (d.num.xs.length ≤ 6) && decide (d.den.xs.length ≤ 6)
def nz (d : QD) : Bool := decide (d.num.xs.length = 0)
def gC (d : QD) : Bool := sm d && gQ d
def lastOk (l : List QD) : Bool := match l.getLast? with | none => true | some d => !nz d
def gP (l : List QD) : Bool := (decide (l.length ≤ 7) && l.all gC) && lastOk l
theorem any_not_all (l : List QD) (P : QD → Bool) : l.any (fun d => !P d) = !l.all P := by
  induction l with
  | nil => rfl
  | cons d l ih => simp only [List.any_cons, List.all_cons, ih, Bool.not_and]
theorem all_gC (l : List QD) : l.all gC = (l.all sm && l.all gQ) := by
  induction l with
  | nil => rfl
  | cons d l ih =>
    simp only [List.all_cons, ih, gC]
    cases sm d <;> cases gQ d <;> cases l.all sm <;> cases l.all gQ <;> rfl
set_option maxHeartbeats 1000000 in
theorem smallS (q : QV) (d : QD) (w : World) (h : AllAr w [(q.num, d.num), (q.den, d.den)]) : Calls Try.prog 113 #[.agg #[.bool q.num.g, .slice q.num.a q.num.n q.num.c, .bool q.den.g, .slice q.den.a q.den.n q.den.c]] w fun e w' => e = .returned (.bool (sm d)) ∧ Below w.heap.size w w' := by
  have e1 := h.head.ar.len
  have e2 := h.tail.head.ar.len
  have m1 := Nat.le_trans h.head.ar.cap h.head.ar.top
  have m2 := Nat.le_trans h.tail.head.ar.cap h.tail.head.ar.top
  clear h
  unfold maxLen at m1 m2
  unfold sm
  rw [e1, e2]
  have HB := hide (show ∀ o, Below w.heap.size w (w.alloc o) from fun o => (Below.refl _ _).alloc (Nat.le_refl _) _)
  by_cases c1 : q.num.n ≤ 6
  · by_cases c2 : q.den.n ≤ 6
    · rw [decide_eq_true c1, decide_eq_true c2]
      have b1 : (q.num.n : Int) ≤ 6 := by omega
      have b1x : ¬ (6 < (q.num.n : Int)) := by omega
      have b2 : (q.den.n : Int) ≤ 6 := by omega
      have b2x : ¬ (6 < (q.den.n : Int)) := by omega
      go_enter Try.func113, Try.ntmps113
      go_wp2
      go_ret
      exact ⟨rfl, unhide HB _⟩
    · rw [decide_eq_true c1, decide_eq_false c2]
      have b1 : (q.num.n : Int) ≤ 6 := by omega
      have b1x : ¬ (6 < (q.num.n : Int)) := by omega
      have b2 : ¬ ((q.den.n : Int) ≤ 6) := by omega
      have b2x : 6 < (q.den.n : Int) := by omega
      go_enter Try.func113, Try.ntmps113
      go_wp2
      go_ret
      exact ⟨rfl, unhide HB _⟩
  · rw [decide_eq_false c1]
    have b1 : ¬ ((q.num.n : Int) ≤ 6) := by omega
    have b1x : 6 < (q.num.n : Int) := by omega
    go_enter Try.func113, Try.ntmps113
    go_wp2
    go_ret
    exact ⟨by simp, unhide HB _⟩
theorem longI (q : QV) (d : QD) (w : World) (h : AllAr w [(q.num, d.num), (q.den, d.den)]) : Calls Try.prog 168 #[.agg #[.bool q.num.g, .slice q.num.a q.num.n q.num.c, .bool q.den.g, .slice q.den.a q.den.n q.den.c]] w fun e w' => e = .returned (.bool (!sm d)) ∧ Below w.heap.size w w' := by
  have CC := hide (fun w1 => inL q 6 w1)
  rw [show (decide (q.num.n ≤ 6) && decide (q.den.n ≤ 6)) = sm d from by unfold sm; rw [h.head.ar.len, h.tail.head.ar.len]] at CC
  clear h
  have B0 := hide (show Below w.heap.size w (w.alloc (.cells #[.bool q.num.g, .slice q.num.a q.num.n q.num.c, .bool q.den.g, .slice q.den.a q.den.n q.den.c] 30)) from ((Below.refl _ _).alloc (by simp) _))
  go_enter Try.func168, Try.ntmps168
  go_wp2_with fail
  refine (unhide CC _).mono ?_
  rintro e w1 ⟨rfl, hb⟩
  have HB := hide (below_on (unhide B0) hb)
  clear hb
  go_wp2
  go_ret
  exact ⟨rfl, unhide HB⟩
theorem zeroSq (q : QV) (d : QD) (w : World) (h : AllAr w [(q.num, d.num), (q.den, d.den)]) : Calls Try.prog 115 #[.agg #[.bool q.num.g, .slice q.num.a q.num.n q.num.c, .bool q.den.g, .slice q.den.a q.den.n q.den.c]] w fun e w' => e = .returned (.bool (nz d)) ∧ Below w.heap.size w w' := by
  have e1 := h.head.ar.len
  have m1 := Nat.le_trans h.head.ar.cap h.head.ar.top
  clear h
  unfold maxLen at m1
  unfold nz
  rw [e1]
  have HB := hide (show ∀ o, Below w.heap.size w (w.alloc o) from fun o => (Below.refl _ _).alloc (Nat.le_refl _) _)
  by_cases c1 : q.num.n = 0
  · have b1 : ((q.num.n : Int) == 0) = true := by simp [c1]
    rw [decide_eq_true c1]
    clear c1
    go_enter Try.func115, Try.ntmps115
    go_wp2
    go_ret
    exact ⟨rfl, unhide HB _⟩
  · have b1 : ((q.num.n : Int) == 0) = false := by simp; omega
    rw [decide_eq_false c1]
    go_enter Try.func115, Try.ntmps115
    go_wp2
    go_ret
    exact ⟨rfl, unhide HB _⟩
theorem badI (q : QV) (d : QD) (w : World) (h : AllAr w [(q.num, d.num), (q.den, d.den)]) : Calls Try.prog 118 #[.agg #[.bool q.num.g, .slice q.num.a q.num.n q.num.c, .bool q.den.g, .slice q.den.a q.den.n q.den.c]] w fun e w' => e = .returned (.bool (!gQ d)) ∧ Below w.heap.size w w' := by
  have H1 := hide h
  clear h
  have B0 := hide (show Below w.heap.size w (w.alloc (.cells #[.bool q.num.g, .slice q.num.a q.num.n q.num.c, .bool q.den.g, .slice q.den.a q.den.n q.den.c] 30)) from ((Below.refl _ _).alloc (by simp) _))
  go_enter Try.func118, Try.ntmps118
  go_wp2_with fail
  refine (goodQI q d _ ((unhide H1).later (unhide B0))).mono ?_
  rintro e w1 ⟨rfl, hb⟩
  have HB := hide (below_on (unhide B0) hb)
  clear hb
  go_wp2
  go_ret
  exact ⟨rfl, unhide HB⟩
theorem noughtI (q : QV) (d : QD) (w : World) (h : AllAr w [(q.num, d.num), (q.den, d.den)]) : Calls Try.prog 169 #[.agg #[.bool q.num.g, .slice q.num.a q.num.n q.num.c, .bool q.den.g, .slice q.den.a q.den.n q.den.c]] w fun e w' => e = .returned (.bool (nz d)) ∧ Below w.heap.size w w' := by
  have e1 := h.head.ar.len
  have m1 := Nat.le_trans h.head.ar.cap h.head.ar.top
  clear h
  unfold nz
  rw [e1]
  clear e1
  have B0 := hide (show Below w.heap.size w (w.alloc (.cells #[.bool q.num.g, .slice q.num.a q.num.n q.num.c, .bool q.den.g, .slice q.den.a q.den.n q.den.c] 30)) from ((Below.refl _ _).alloc (by simp) _))
  go_enter Try.func169, Try.ntmps169
  go_wp2_with fail
  refine (nought_any q.num.g q.num.a q.num.n q.num.c _ m1).mono ?_
  rintro e w1 ⟨rfl, hb⟩
  have HB := hide (below_on (unhide B0) hb)
  clear hb
  go_wp2
  go_ret
  exact ⟨rfl, unhide HB⟩

set_option maxHeartbeats 2000000 in
theorem indexBad (a : Option Addr) (n c : Nat) (l : List (QV × QD)) (w : World) (h : PArQ w a n c l) :
    Calls Try.prog 171 #[.slice a n c, .func (Fn.func 118) #[] #[]] w fun e w' => ∃ r : Int, e = .returned (.int .i64 r) ∧ Below w.heap.size w w' ∧ decide (0 ≤ r) = (l.map Prod.snd).any (fun d => !gQ d) ∧ -1 ≤ r ∧ r ≤ 9223372036854775807 := by
  have HS := hide h
  have HN := hide h.len
  have hm : n ≤ maxLen := Nat.le_trans h.cap h.top
  clear h
  unfold maxLen at hm
  go_enter Try.func171, Try.ntmps171
  go_wp2
  go_loopw [8] (fun iv wr => ∃ (i : Nat), i ≤ n ∧ iv = .int .i64 i ∧ Hid (((l.take i).map Prod.snd).any (fun d => !gQ d) = false) ∧ Hid (Below w.heap.size w wr)) (fun iv _ => n - (intOf iv).toNat)
  case atStart => exact ⟨0, Nat.zero_le _, rfl, hide (by simp), hide (Below.refl _ _)⟩
  case round =>
    obtain ⟨i, hi, rfl, EA, HB⟩ := hrel
    by_cases hlt : i < n
    · have hlt' : (i : Int) < (n : Int) := by omega
      rcases (unhide HS).at_ with e | ⟨b, off, rfl, hb, hc⟩
      · exact absurd (unhide HN) (by rw [e]; simp; omega)
      have e0 := hc i (by rw [unhide HN]; exact hlt)
      obtain ⟨y, hy⟩ : ∃ y, y = l[i]'(by rw [unhide HN]; exact hlt) := ⟨_, rfl⟩
      rw [← hy] at e0
      have MY : Hid (y ∈ l) := hide (by rw [hy]; exact List.getElem_mem _)
      have EY := hide hy
      clear hy
      have E0 : wr.cell? ⟨b, off + i * 4, none⟩ = some (.bool y.1.num.g) := ((unhide HB).cell (p := ⟨b, off + i * 4, none⟩) hb).trans (e0.1)
      have E1 : wr.cell? ⟨b, off + i * 4 + 1, none⟩ = some (.slice y.1.num.a y.1.num.n y.1.num.c) := ((unhide HB).cell (p := ⟨b, off + i * 4 + 1, none⟩) hb).trans (e0.2.1)
      have E2 : wr.cell? ⟨b, off + i * 4 + 2, none⟩ = some (.bool y.1.den.g) := ((unhide HB).cell (p := ⟨b, off + i * 4 + 2, none⟩) hb).trans (e0.2.2.1)
      have E3 : wr.cell? ⟨b, off + i * 4 + 3, none⟩ = some (.slice y.1.den.a y.1.den.n y.1.den.c) := ((unhide HB).cell (p := ⟨b, off + i * 4 + 3, none⟩) hb).trans (e0.2.2.2)
      clear e0 hc
      have TK : Hid (l.take (i + 1) = l.take i ++ [y]) := hide (by have h := take_succQ (l := l) (i := i) (by rw [unhide HN]; exact hlt); rw [← unhide EY] at h; exact h)
      have R1 := hide (((unhide HS).rd y (unhide MY)).later (unhide HB))
      have CC := hide (fun w1 (k : AllAr w1 [(y.1.num, y.2.num), (y.1.den, y.2.den)]) => badI y.1 y.2 w1 k)
      cases hp : (fun d => !gQ d) y.2
      · have hp' : (!gQ y.2) = false := hp
        rw [hp'] at CC
        go_wp2_with fail
        refine (unhide CC _ (unhide R1)).mono ?_
        rintro e w1 ⟨rfl, hb1⟩
        have HB1 := hide (below_on (unhide HB) hb1)
        clear hb1 E0 E1 E2 E3 CC
        go_wp2
        go_roundw
        case rel => exact ⟨i + 1, by omega, by go_num, hide (by rw [unhide TK, List.map_append, List.any_append, unhide EA]; simp only [List.map_cons, List.map_nil, List.any_cons, List.any_nil]; rw [hp']; rfl), HB1⟩
        case measure => simp [intOf]; omega
      · have hp' : (!gQ y.2) = true := hp
        rw [hp'] at CC
        have AN := hide (show (l.map Prod.snd).any (fun d => !gQ d) = true from List.any_eq_true.2 ⟨y.2, List.mem_map.2 ⟨y, unhide MY, rfl⟩, hp'⟩)
        go_wp2_with fail
        refine (unhide CC _ (unhide R1)).mono ?_
        rintro e w1 ⟨rfl, hb1⟩
        have HB1 := hide (below_on (unhide HB) hb1)
        clear hb1 E0 E1 E2 E3 CC
        go_wp2
        go_ret
        exact ⟨_, rfl, unhide HB1, by rw [unhide AN]; exact decide_eq_true (by omega), by omega, by omega⟩
    · obtain rfl : i = n := by omega
      have EL := hide (show (l.map Prod.snd).any (fun d => !gQ d) = false from by have := unhide EA; rw [← unhide HN, List.take_length] at this; exact this)
      go_wp2
      go_ret
      exact ⟨_, rfl, unhide HB, by rw [unhide EL]; rfl, by omega, by omega⟩
theorem containsBad (a : Option Addr) (n c : Nat) (l : List (QV × QD)) (w : World) (h : PArQ w a n c l) :
    Calls Try.prog 117 #[.slice a n c, .func (Fn.func 118) #[] #[]] w fun e w' => e = .returned (.bool ((l.map Prod.snd).any (fun d => !gQ d))) ∧ Below w.heap.size w w' := by
  have HS := hide h
  clear h
  go_enter Try.func117, Try.ntmps117
  go_wp2_with fail
  refine (indexBad a n c l _ (unhide HS)).mono ?_
  rintro e w1 ⟨r, rfl, hb1, hr, r0, r1⟩
  have HB1 := hide hb1
  have HR := hide hr
  clear hb1 hr
  go_wp2
  go_ret
  exact ⟨by rw [← unhide HR]; rfl, unhide HB1⟩

set_option maxHeartbeats 2000000 in
theorem indexLong (a : Option Addr) (n c : Nat) (l : List (QV × QD)) (w : World) (h : PArQ w a n c l) :
    Calls Try.prog 171 #[.slice a n c, .func (Fn.func 168) #[] #[]] w fun e w' => ∃ r : Int, e = .returned (.int .i64 r) ∧ Below w.heap.size w w' ∧ decide (0 ≤ r) = (l.map Prod.snd).any (fun d => !sm d) ∧ -1 ≤ r ∧ r ≤ 9223372036854775807 := by
  have HS := hide h
  have HN := hide h.len
  have hm : n ≤ maxLen := Nat.le_trans h.cap h.top
  clear h
  unfold maxLen at hm
  go_enter Try.func171, Try.ntmps171
  go_wp2
  go_loopw [8] (fun iv wr => ∃ (i : Nat), i ≤ n ∧ iv = .int .i64 i ∧ Hid (((l.take i).map Prod.snd).any (fun d => !sm d) = false) ∧ Hid (Below w.heap.size w wr)) (fun iv _ => n - (intOf iv).toNat)
  case atStart => exact ⟨0, Nat.zero_le _, rfl, hide (by simp), hide (Below.refl _ _)⟩
  case round =>
    obtain ⟨i, hi, rfl, EA, HB⟩ := hrel
    by_cases hlt : i < n
    · have hlt' : (i : Int) < (n : Int) := by omega
      rcases (unhide HS).at_ with e | ⟨b, off, rfl, hb, hc⟩
      · exact absurd (unhide HN) (by rw [e]; simp; omega)
      have e0 := hc i (by rw [unhide HN]; exact hlt)
      obtain ⟨y, hy⟩ : ∃ y, y = l[i]'(by rw [unhide HN]; exact hlt) := ⟨_, rfl⟩
      rw [← hy] at e0
      have MY : Hid (y ∈ l) := hide (by rw [hy]; exact List.getElem_mem _)
      have EY := hide hy
      clear hy
      have E0 : wr.cell? ⟨b, off + i * 4, none⟩ = some (.bool y.1.num.g) := ((unhide HB).cell (p := ⟨b, off + i * 4, none⟩) hb).trans (e0.1)
      have E1 : wr.cell? ⟨b, off + i * 4 + 1, none⟩ = some (.slice y.1.num.a y.1.num.n y.1.num.c) := ((unhide HB).cell (p := ⟨b, off + i * 4 + 1, none⟩) hb).trans (e0.2.1)
      have E2 : wr.cell? ⟨b, off + i * 4 + 2, none⟩ = some (.bool y.1.den.g) := ((unhide HB).cell (p := ⟨b, off + i * 4 + 2, none⟩) hb).trans (e0.2.2.1)
      have E3 : wr.cell? ⟨b, off + i * 4 + 3, none⟩ = some (.slice y.1.den.a y.1.den.n y.1.den.c) := ((unhide HB).cell (p := ⟨b, off + i * 4 + 3, none⟩) hb).trans (e0.2.2.2)
      clear e0 hc
      have TK : Hid (l.take (i + 1) = l.take i ++ [y]) := hide (by have h := take_succQ (l := l) (i := i) (by rw [unhide HN]; exact hlt); rw [← unhide EY] at h; exact h)
      have R1 := hide (((unhide HS).rd y (unhide MY)).later (unhide HB))
      have CC := hide (fun w1 (k : AllAr w1 [(y.1.num, y.2.num), (y.1.den, y.2.den)]) => longI y.1 y.2 w1 k)
      cases hp : (fun d => !sm d) y.2
      · have hp' : (!sm y.2) = false := hp
        rw [hp'] at CC
        go_wp2_with fail
        refine (unhide CC _ (unhide R1)).mono ?_
        rintro e w1 ⟨rfl, hb1⟩
        have HB1 := hide (below_on (unhide HB) hb1)
        clear hb1 E0 E1 E2 E3 CC
        go_wp2
        go_roundw
        case rel => exact ⟨i + 1, by omega, by go_num, hide (by rw [unhide TK, List.map_append, List.any_append, unhide EA]; simp only [List.map_cons, List.map_nil, List.any_cons, List.any_nil]; rw [hp']; rfl), HB1⟩
        case measure => simp [intOf]; omega
      · have hp' : (!sm y.2) = true := hp
        rw [hp'] at CC
        have AN := hide (show (l.map Prod.snd).any (fun d => !sm d) = true from List.any_eq_true.2 ⟨y.2, List.mem_map.2 ⟨y, unhide MY, rfl⟩, hp'⟩)
        go_wp2_with fail
        refine (unhide CC _ (unhide R1)).mono ?_
        rintro e w1 ⟨rfl, hb1⟩
        have HB1 := hide (below_on (unhide HB) hb1)
        clear hb1 E0 E1 E2 E3 CC
        go_wp2
        go_ret
        exact ⟨_, rfl, unhide HB1, by rw [unhide AN]; exact decide_eq_true (by omega), by omega, by omega⟩
    · obtain rfl : i = n := by omega
      have EL := hide (show (l.map Prod.snd).any (fun d => !sm d) = false from by have := unhide EA; rw [← unhide HN, List.take_length] at this; exact this)
      go_wp2
      go_ret
      exact ⟨_, rfl, unhide HB, by rw [unhide EL]; rfl, by omega, by omega⟩
theorem containsLong (a : Option Addr) (n c : Nat) (l : List (QV × QD)) (w : World) (h : PArQ w a n c l) :
    Calls Try.prog 117 #[.slice a n c, .func (Fn.func 168) #[] #[]] w fun e w' => e = .returned (.bool ((l.map Prod.snd).any (fun d => !sm d))) ∧ Below w.heap.size w w' := by
  have HS := hide h
  clear h
  go_enter Try.func117, Try.ntmps117
  go_wp2_with fail
  refine (indexLong a n c l _ (unhide HS)).mono ?_
  rintro e w1 ⟨r, rfl, hb1, hr, r0, r1⟩
  have HB1 := hide hb1
  have HR := hide hr
  clear hb1 hr
  go_wp2
  go_ret
  exact ⟨by rw [← unhide HR]; rfl, unhide HB1⟩

theorem lastOk_of {l : List (QV × QD)} {n : Nat} (hn : l.length = n) (h0 : 0 < n) : lastOk (l.map Prod.snd) = !nz (l[n - 1]'(by omega)).2 := by
  subst hn
  have : (l.map Prod.snd).getLast? = some (l[l.length - 1]'(by omega)).2 := by
    rw [List.getLast?_eq_getElem?, List.getElem?_map, List.length_map, List.getElem?_eq_getElem (by omega)]
    rfl
  unfold lastOk
  rw [this]

set_option maxHeartbeats 2000000 in
theorem lastQ_v (a : Option Addr) (n c : Nat) (l : List (QV × QD)) (y : QV × QD) (w : World) (h : PArQ w a n c l) (h0 : 0 < n) (hy : l[n - 1]? = some y) :
    Calls Try.prog 170 #[.slice a n c] w fun e w' => e = .returned (.agg #[.bool y.1.num.g, .slice y.1.num.a y.1.num.n y.1.num.c, .bool y.1.den.g, .slice y.1.den.a y.1.den.n y.1.den.c]) ∧ Below w.heap.size w w' := by
  have hl := h.len
  have hm : n ≤ maxLen := Nat.le_trans h.cap h.top
  unfold maxLen at hm
  have HB0 := hide (show ∀ o, Below w.heap.size w (w.alloc o) from fun o => (Below.refl _ _).alloc (Nat.le_refl _) _)
  rcases h.at_ with e | ⟨b, off, rfl, hb, hc⟩
  · exact absurd hl (by rw [e]; simp; omega)
  have e0 := hc (n - 1) (by omega)
  rw [show l[n - 1]'(by omega) = y from (List.getElem?_eq_some_iff.1 hy).2] at e0
  have E0 : w.cell? ⟨b, off + (n - 1) * 4, none⟩ = some (.bool y.1.num.g) := e0.1
  have E1 : w.cell? ⟨b, off + (n - 1) * 4 + 1, none⟩ = some (.slice y.1.num.a y.1.num.n y.1.num.c) := e0.2.1
  have E2 : w.cell? ⟨b, off + (n - 1) * 4 + 2, none⟩ = some (.bool y.1.den.g) := e0.2.2.1
  have E3 : w.cell? ⟨b, off + (n - 1) * 4 + 3, none⟩ = some (.slice y.1.den.a y.1.den.n y.1.den.c) := e0.2.2.2
  have i1 : (0 : Int) ≤ (n : Int) - 1 := by omega
  have i2 : (n : Int) - 1 < (n : Int) := by omega
  have i3 : ((n : Int) - 1).toNat = n - 1 := by omega
  clear e0 hc hy h hl
  go_enter Try.func170, Try.ntmps170
  go_wp2
  refine bodyPost_ret (v := .agg #[.bool y.1.num.g, .slice y.1.num.a y.1.num.n y.1.num.c, .bool y.1.den.g, .slice y.1.den.a y.1.den.n y.1.den.c]) (by simp [results, Try.results170, go_sem]) rfl ?_
  refine ⟨rfl, ?_⟩
  first | exact unhide HB0 _ | (refine (Below.setCell ?_ (Nat.le_refl _) _); exact unhide HB0 _) | (refine (Below.setCell (Below.setCell (Below.setCell (Below.setCell ?_ (Nat.le_refl _) _) (Nat.le_refl _) _) (Nat.le_refl _) _) (Nat.le_refl _) _); exact unhide HB0 _)

set_option maxHeartbeats 4000000 in
theorem polyFits_v (a : Option Addr) (n c : Nat) (l : List (QV × QD)) (w : World) (h : PArQ w a n c l) :
    Calls Try.prog 116 #[.slice a n c] w fun e w' => e = .returned (.bool ((decide (l.length ≤ 7) && (l.map Prod.snd).all sm) && lastOk (l.map Prod.snd))) ∧ Below w.heap.size w w' := by
  have HS := hide h
  have HN := hide h.len
  have hm : n ≤ maxLen := Nat.le_trans h.cap h.top
  have hl := h.len
  clear h
  unfold maxLen at hm
  rw [hl]
  clear hl
  by_cases c7 : n ≤ 7
  · have b7 : ¬ ((7 : Int) < (n : Int)) := by omega
    rw [decide_eq_true c7, Bool.true_and]
    have CC := hide (fun w1 (k : PArQ w1 a n c l) => containsLong a n c l w1 k)
    rw [any_not_all] at CC
    cases hA : (l.map Prod.snd).all sm
    · rw [hA] at CC
      rw [Bool.false_and]
      go_enter Try.func116, Try.ntmps116
      go_wp2_with fail
      refine (unhide CC _ (unhide HS)).mono ?_
      rintro e w1 ⟨rfl, hb1⟩
      have HB1 := hide hb1
      clear hb1 CC
      go_wp2
      go_ret
      exact ⟨rfl, unhide HB1⟩
    · rw [hA] at CC
      rw [Bool.true_and]
      by_cases h0 : n = 0
      · have b0 : ((n : Int) == 0) = true := by simp [h0]
        have LO := hide (show lastOk (l.map Prod.snd) = true from by have := unhide HN; rw [h0] at this; rw [List.length_eq_zero_iff.1 this]; rfl)
        rw [unhide LO]
        clear h0
        go_enter Try.func116, Try.ntmps116
        go_wp2_with fail
        refine (unhide CC _ (unhide HS)).mono ?_
        rintro e w1 ⟨rfl, hb1⟩
        have HB1 := hide hb1
        clear hb1 CC
        go_wp2
        go_ret
        exact ⟨rfl, unhide HB1⟩
      · have b0 : ((n : Int) == 0) = false := by simp; omega
        obtain ⟨y, hy⟩ : ∃ y, y = l[n - 1]'(by have := unhide HN; omega) := ⟨_, rfl⟩
        have LO := hide (lastOk_of (unhide HN) (by omega : 0 < n))
        rw [← hy] at LO
        have R1 := hide ((unhide HS).rd y (by rw [hy]; exact List.getElem_mem _))
        have LY := hide (fun w1 (k : PArQ w1 a n c l) => lastQ_v a n c l y w1 k (by omega) (by rw [hy]; exact List.getElem?_eq_getElem _))
        clear hy
        rw [unhide LO]
        go_enter Try.func116, Try.ntmps116
        go_wp2_with fail
        refine (unhide CC _ (unhide HS)).mono ?_
        rintro e w1 ⟨rfl, hb1⟩
        have HB1 := hide hb1
        replace R1 := hide ((unhide R1).later hb1)
        clear hb1 CC
        go_wp2_with fail
        refine (unhide LY _ ((unhide HS).later (unhide HB1))).mono ?_
        rintro e w3 ⟨rfl, hb3⟩
        replace HB1 := hide (below_on (unhide HB1) hb3)
        replace R1 := hide ((unhide R1).later hb3)
        clear hb3 LY
        go_wp2_with fail
        refine (noughtI y.1 y.2 _ (unhide R1)).mono ?_
        rintro e w2 ⟨rfl, hb2⟩
        have HB2 := hide (below_on (unhide HB1) hb2)
        clear hb2
        go_wp2
        go_ret
        exact ⟨rfl, unhide HB2⟩
  · have b7 : ((7 : Int) < (n : Int)) := by omega
    rw [decide_eq_false c7, Bool.false_and, Bool.false_and]
    go_enter Try.func116, Try.ntmps116
    go_wp2
    go_ret
    exact ⟨rfl, Below.refl _ _⟩

theorem gP_parts (l : List QD) : gP l = (((decide (l.length ≤ 7) && l.all sm) && lastOk l) && l.all gQ) := by
  unfold gP
  rw [all_gC]
  cases decide (l.length ≤ 7) <;> cases l.all sm <;> cases l.all gQ <;> cases lastOk l <;> rfl
theorem GoodPI (a : Option Addr) (n c : Nat) (l : List (QV × QD)) (w : World) (h : PArQ w a n c l) :
    Calls Try.prog 54 #[.slice a n c] w fun e w' => e = .returned (.bool (gP (l.map Prod.snd))) ∧ Below w.heap.size w w' := by
  rw [gP_parts, List.length_map]
  have HS := hide h
  clear h
  have CC := hide (fun w1 (k : PArQ w1 a n c l) => containsBad a n c l w1 k)
  rw [any_not_all] at CC
  have PP := hide (fun w1 (k : PArQ w1 a n c l) => polyFits_v a n c l w1 k)
  cases hA : ((decide (l.length ≤ 7) && (l.map Prod.snd).all sm) && lastOk (l.map Prod.snd))
  · rw [hA] at PP
    rw [Bool.false_and]
    go_enter Try.func54, Try.ntmps54
    go_wp2_with fail
    refine (unhide PP _ (unhide HS)).mono ?_
    rintro e w1 ⟨rfl, hb1⟩
    have HB1 := hide hb1
    clear hb1 PP CC
    go_wp2
    go_ret
    exact ⟨rfl, unhide HB1⟩
  · rw [hA] at PP
    rw [Bool.true_and]
    go_enter Try.func54, Try.ntmps54
    go_wp2_with fail
    refine (unhide PP _ (unhide HS)).mono ?_
    rintro e w1 ⟨rfl, hb1⟩
    have HB1 := hide hb1
    clear hb1 PP
    go_wp2_with fail
    refine (unhide CC _ ((unhide HS).later (unhide HB1))).mono ?_
    rintro e w2 ⟨rfl, hb2⟩
    have HB2 := hide (below_on (unhide HB1) hb2)
    clear hb2 CC
    go_wp2
    go_ret
    exact ⟨by simp, unhide HB2⟩

set_option maxHeartbeats 4000000 in
theorem GoodPS (a : Option Addr) (n c : Nat) (l : List (QV × QD)) (w : World) (h : PArQ w a n c l) :
    Calls Try.prog 52 #[.slice a n c] w fun e w' => e = .returned (.bool (gP (l.map Prod.snd))) ∧ Below w.heap.size w w' := by
  have HS := hide h
  have HN := hide h.len
  have hm : n ≤ maxLen := Nat.le_trans h.cap h.top
  clear h
  unfold maxLen at hm
  go_enter Try.func52, Try.ntmps52
  go_wp2
  go_loopw [7] (fun iv wr => ∃ (i : Nat), i ≤ n ∧ iv = .int .i64 i ∧ Hid (((l.take i).map Prod.snd).all gC = true) ∧ Hid (Below w.heap.size w wr)) (fun iv _ => n - (intOf iv).toNat)
  case atStart => exact ⟨0, Nat.zero_le _, rfl, hide (by simp), hide (Below.refl _ _)⟩
  case round =>
    obtain ⟨i, hi, rfl, EA, HB⟩ := hrel
    by_cases hlt : i < n
    · have hlt' : (i : Int) < (n : Int) := by omega
      rcases (unhide HS).at_ with e | ⟨b, off, rfl, hb, hc⟩
      · exact absurd (unhide HN) (by rw [e]; simp; omega)
      have e0 := hc i (by rw [unhide HN]; exact hlt)
      obtain ⟨y, hy⟩ : ∃ y, y = l[i]'(by rw [unhide HN]; exact hlt) := ⟨_, rfl⟩
      rw [← hy] at e0
      have MY : Hid (y ∈ l) := hide (by rw [hy]; exact List.getElem_mem _)
      have EY := hide hy
      clear hy
      have E0 : wr.cell? ⟨b, off + i * 4, none⟩ = some (.bool y.1.num.g) := ((unhide HB).cell (p := ⟨b, off + i * 4, none⟩) hb).trans (e0.1)
      have E1 : wr.cell? ⟨b, off + i * 4 + 1, none⟩ = some (.slice y.1.num.a y.1.num.n y.1.num.c) := ((unhide HB).cell (p := ⟨b, off + i * 4 + 1, none⟩) hb).trans (e0.2.1)
      have E2 : wr.cell? ⟨b, off + i * 4 + 2, none⟩ = some (.bool y.1.den.g) := ((unhide HB).cell (p := ⟨b, off + i * 4 + 2, none⟩) hb).trans (e0.2.2.1)
      have E3 : wr.cell? ⟨b, off + i * 4 + 3, none⟩ = some (.slice y.1.den.a y.1.den.n y.1.den.c) := ((unhide HB).cell (p := ⟨b, off + i * 4 + 3, none⟩) hb).trans (e0.2.2.2)
      clear e0 hc
      have TK : Hid (l.take (i + 1) = l.take i ++ [y]) := hide (by have h := take_succQ (l := l) (i := i) (by rw [unhide HN]; exact hlt); rw [← unhide EY] at h; exact h)
      have R1 := hide (((unhide HS).rd y (unhide MY)).later (unhide HB))
      have C1 := hide (fun w1 (k : AllAr w1 [(y.1.num, y.2.num), (y.1.den, y.2.den)]) => smallS y.1 y.2 w1 k)
      have C2 := hide (fun w1 (k : AllAr w1 [(y.1.num, y.2.num), (y.1.den, y.2.den)]) => goodQS y.1 y.2 w1 k)
      cases hp1 : sm y.2
      · have AN := hide (show gP (l.map Prod.snd) = false from by
          have ha : (l.map Prod.snd).all gC = false := by
            apply Bool.eq_false_iff.2
            intro h
            have h2 := List.all_eq_true.1 h y.2 (List.mem_map.2 ⟨y, unhide MY, rfl⟩)
            unfold gC at h2
            rw [hp1] at h2
            simp at h2
          unfold gP
          rw [ha, Bool.and_false, Bool.false_and])
        rw [hp1] at C1
        go_wp2_with fail
        refine (unhide C1 _ ((unhide R1).later ((Below.refl _ _).alloc (Nat.le_refl _) _))).mono ?_
        rintro e w1 ⟨rfl, hb1⟩
        have k0 : w1.cell? ⟨wr.heap.size, 0, none⟩ = some (.bool y.1.num.g) := cell_later hb1 (by simp [go_sem])
        have k1 : w1.cell? ⟨wr.heap.size, 1, none⟩ = some (.slice y.1.num.a y.1.num.n y.1.num.c) := cell_later hb1 (by simp [go_sem])
        have k2 : w1.cell? ⟨wr.heap.size, 2, none⟩ = some (.bool y.1.den.g) := cell_later hb1 (by simp [go_sem])
        have k3 : w1.cell? ⟨wr.heap.size, 3, none⟩ = some (.slice y.1.den.a y.1.den.n y.1.den.c) := cell_later hb1 (by simp [go_sem])
        have HB1 := hide (below_on (unhide HB) (ba hb1))
        have RR := hide ((unhide R1).later (ba hb1))
        clear hb1 E0 E1 E2 E3 C1
        clear k0 k1 k2 k3
        go_wp2
        go_ret
        exact ⟨by rw [unhide AN]; rfl, unhide HB1⟩
      · cases hp2 : gQ y.2
        · have AN := hide (show gP (l.map Prod.snd) = false from by
            have ha : (l.map Prod.snd).all gC = false := by
              apply Bool.eq_false_iff.2
              intro h
              have h2 := List.all_eq_true.1 h y.2 (List.mem_map.2 ⟨y, unhide MY, rfl⟩)
              unfold gC at h2
              rw [hp1, hp2] at h2
              simp at h2
            unfold gP
            rw [ha, Bool.and_false, Bool.false_and])
          rw [hp1] at C1
          rw [hp2] at C2
          go_wp2_with fail
          refine (unhide C1 _ ((unhide R1).later ((Below.refl _ _).alloc (Nat.le_refl _) _))).mono ?_
          rintro e w1 ⟨rfl, hb1⟩
          have k0 : w1.cell? ⟨wr.heap.size, 0, none⟩ = some (.bool y.1.num.g) := cell_later hb1 (by simp [go_sem])
          have k1 : w1.cell? ⟨wr.heap.size, 1, none⟩ = some (.slice y.1.num.a y.1.num.n y.1.num.c) := cell_later hb1 (by simp [go_sem])
          have k2 : w1.cell? ⟨wr.heap.size, 2, none⟩ = some (.bool y.1.den.g) := cell_later hb1 (by simp [go_sem])
          have k3 : w1.cell? ⟨wr.heap.size, 3, none⟩ = some (.slice y.1.den.a y.1.den.n y.1.den.c) := cell_later hb1 (by simp [go_sem])
          have HB1 := hide (below_on (unhide HB) (ba hb1))
          have RR := hide ((unhide R1).later (ba hb1))
          clear hb1 E0 E1 E2 E3 C1
          go_wp2_with fail
          refine (unhide C2 _ (unhide RR)).mono ?_
          rintro e w2 ⟨rfl, hb2⟩
          have HBz := hide (below_on (unhide HB1) hb2)
          clear hb2 k0 k1 k2 k3 C2
          go_wp2
          go_ret
          exact ⟨by rw [unhide AN]; rfl, unhide HBz⟩
        · rw [hp1] at C1
          rw [hp2] at C2
          go_wp2_with fail
          refine (unhide C1 _ ((unhide R1).later ((Below.refl _ _).alloc (Nat.le_refl _) _))).mono ?_
          rintro e w1 ⟨rfl, hb1⟩
          have k0 : w1.cell? ⟨wr.heap.size, 0, none⟩ = some (.bool y.1.num.g) := cell_later hb1 (by simp [go_sem])
          have k1 : w1.cell? ⟨wr.heap.size, 1, none⟩ = some (.slice y.1.num.a y.1.num.n y.1.num.c) := cell_later hb1 (by simp [go_sem])
          have k2 : w1.cell? ⟨wr.heap.size, 2, none⟩ = some (.bool y.1.den.g) := cell_later hb1 (by simp [go_sem])
          have k3 : w1.cell? ⟨wr.heap.size, 3, none⟩ = some (.slice y.1.den.a y.1.den.n y.1.den.c) := cell_later hb1 (by simp [go_sem])
          have HB1 := hide (below_on (unhide HB) (ba hb1))
          have RR := hide ((unhide R1).later (ba hb1))
          clear hb1 E0 E1 E2 E3 C1
          go_wp2_with fail
          refine (unhide C2 _ (unhide RR)).mono ?_
          rintro e w2 ⟨rfl, hb2⟩
          have HBz := hide (below_on (unhide HB1) hb2)
          clear hb2 k0 k1 k2 k3 C2
          go_wp2
          go_roundw
          case rel => exact ⟨i + 1, by omega, by go_num, hide (by rw [unhide TK, List.map_append, List.all_append, unhide EA]; simp only [List.map_cons, List.map_nil, List.all_cons, List.all_nil, gC]; rw [hp1, hp2]; rfl), HBz⟩
          case measure => simp [intOf]; omega
    · obtain rfl : i = n := by omega
      have EL := hide (show (l.map Prod.snd).all gC = true from by have := unhide EA; rw [← unhide HN, List.take_length] at this; exact this)
      have GP : Hid (gP (l.map Prod.snd) = (decide (i ≤ 7) && lastOk (l.map Prod.snd))) := hide (by unfold gP; rw [unhide EL, List.length_map, unhide HN, Bool.and_true])
      clear EA
      by_cases c7 : i ≤ 7
      · have b7 : (i : Int) ≤ 7 := by omega
        have D7 := hide (decide_eq_true c7)
        clear c7
        by_cases h0 : i = 0
        · have b0 : ((i : Int) == 0) = true := by simp [h0]
          have LO := hide (show lastOk (l.map Prod.snd) = true from by have := unhide HN; rw [h0] at this; rw [List.length_eq_zero_iff.1 this]; rfl)
          clear h0
          go_wp2
          go_ret
          exact ⟨by rw [unhide GP, unhide D7, unhide LO]; rfl, unhide HB⟩
        · have b0 : ((i : Int) == 0) = false := by simp; omega
          have hlt : i - 1 < i := by omega
          rcases (unhide HS).at_ with e | ⟨b, off, rfl, hb, hc⟩
          · exact absurd (unhide HN) (by rw [e]; simp; omega)
          have LO := hide (lastOk_of (unhide HN) (by omega : 0 < i))
          have e0 := hc (i - 1) (by rw [unhide HN]; exact hlt)
          obtain ⟨y, hy⟩ : ∃ y, y = l[(i - 1)]'(by rw [unhide HN]; exact hlt) := ⟨_, rfl⟩
          rw [← hy] at e0
          have MY : Hid (y ∈ l) := hide (by rw [hy]; exact List.getElem_mem _)
          have EY := hide hy
          clear hy
          have E0 : wr.cell? ⟨b, off + (i - 1) * 4, none⟩ = some (.bool y.1.num.g) := ((unhide HB).cell (p := ⟨b, off + (i - 1) * 4, none⟩) hb).trans (e0.1)
          have E1 : wr.cell? ⟨b, off + (i - 1) * 4 + 1, none⟩ = some (.slice y.1.num.a y.1.num.n y.1.num.c) := ((unhide HB).cell (p := ⟨b, off + (i - 1) * 4 + 1, none⟩) hb).trans (e0.2.1)
          have E2 : wr.cell? ⟨b, off + (i - 1) * 4 + 2, none⟩ = some (.bool y.1.den.g) := ((unhide HB).cell (p := ⟨b, off + (i - 1) * 4 + 2, none⟩) hb).trans (e0.2.2.1)
          have E3 : wr.cell? ⟨b, off + (i - 1) * 4 + 3, none⟩ = some (.slice y.1.den.a y.1.den.n y.1.den.c) := ((unhide HB).cell (p := ⟨b, off + (i - 1) * 4 + 3, none⟩) hb).trans (e0.2.2.2)
          clear e0 hc
          rw [← unhide EY] at LO
          have R1 := hide (((unhide HS).rd y (unhide MY)).later (unhide HB))
          have i1 : (0 : Int) ≤ (i : Int) - 1 := by omega
          have i2 : (i : Int) - 1 < (i : Int) := by omega
          have i3 : ((i : Int) - 1).toNat = i - 1 := by omega
          go_wp2_with fail
          refine (zeroSq y.1 y.2 _ (unhide R1)).mono ?_
          rintro e w2 ⟨rfl, hb2⟩
          have HB2 := hide (below_on (unhide HB) hb2)
          clear hb2
          go_wp2
          go_ret
          exact ⟨by rw [unhide GP, unhide D7, unhide LO]; rfl, unhide HB2⟩
      · have b7 : ¬ ((i : Int) ≤ 7) := by omega
        have D7 := hide (decide_eq_false c7)
        go_wp2
        go_ret
        exact ⟨by rw [unhide GP, unhide D7]; rfl, unhide HB⟩
end Go.Proofs.Ytlmeokeanihhoaa
namespace Go.Proofs.Ytlmeokeanihhoaa
open Go.RowKit
set_option linter.unusedVariables false
set_option maxRecDepth 100000
set_option linter.unusedSimpArgs false

/-- The mark that stands for a sign. -/
def sg (k : Int) : Bool := (k % 3 == 0)
/-- The cells of some fractions from block G's start on. -/
def RowQ (w : World) (G : Nat) (l : List (QV × QD)) : Prop := ∃ cur, w.heap[G]? = some (.cells cur 30 (0, 0)) ∧ ∀ j p, l[j]? = some p → cur[j * 4]? = some (.bool p.1.num.g) ∧ cur[j * 4 + 1]? = some (.slice p.1.num.a p.1.num.n p.1.num.c) ∧ cur[j * 4 + 2]? = some (.bool p.1.den.g) ∧ cur[j * 4 + 3]? = some (.slice p.1.den.a p.1.den.n p.1.den.c)
theorem mid_ne {α : Type} {pre post : List α} {y y' : α} {j : Nat} (h : j ≠ pre.length) : (pre ++ y :: post)[j]? = (pre ++ y' :: post)[j]? := by
  by_cases c : j < pre.length
  · rw [List.getElem?_append_left c, List.getElem?_append_left c]
  · rw [List.getElem?_append_right (by omega), List.getElem?_append_right (by omega)]
    obtain ⟨m, hm⟩ : ∃ m, j - pre.length = m + 1 := ⟨j - pre.length - 1, by omega⟩
    rw [hm, List.getElem?_cons_succ, List.getElem?_cons_succ]
theorem mid_eq {α : Type} {pre post : List α} {y : α} : (pre ++ y :: post)[pre.length]? = some y := by
  rw [List.getElem?_append_right (Nat.le_refl _), Nat.sub_self]; rfl
theorem RowQ.lt {w : World} {G : Nat} {l : List (QV × QD)} (h : RowQ w G l) : G < w.heap.size := by
  obtain ⟨cur, hg, _⟩ := h
  exact (Array.getElem?_eq_some_iff.1 hg).1
theorem RowQ.cellsAt {w : World} {G : Nat} {l : List (QV × QD)} (h : RowQ w G l) {i : Nat} {y : QV × QD} (hy : l[i]? = some y) : w.cell? ⟨G, i * 4, none⟩ = some (.bool y.1.num.g) ∧ w.cell? ⟨G, i * 4 + 1, none⟩ = some (.slice y.1.num.a y.1.num.n y.1.num.c) ∧ w.cell? ⟨G, i * 4 + 2, none⟩ = some (.bool y.1.den.g) ∧ w.cell? ⟨G, i * 4 + 3, none⟩ = some (.slice y.1.den.a y.1.den.n y.1.den.c) := by
  obtain ⟨cur, hg, hc⟩ := h
  have h1 := hc i y hy
  refine ⟨?_, ?_, ?_, ?_⟩ <;> rw [cell_of_row w G _ cur 30 (0, 0) hg]
  · exact h1.1
  · exact h1.2.1
  · exact h1.2.2.1
  · exact h1.2.2.2
theorem RowQ.frozen {w : World} {G : Nat} {l : List (QV × QD)} (h : RowQ w G l) (o : Nat) : w.frozen? ⟨G, o, none⟩ = false := by
  obtain ⟨cur, hg, hc⟩ := h
  exact frozen_of_row w G o cur 30 hg
theorem RowQ.but {w w' : World} {G lo hi : Nat} {l : List (QV × QD)} (h : RowQ w G l) (hb : But lo hi w w') (hG : G < lo ∨ hi ≤ G) : RowQ w' G l := by
  obtain ⟨cur, hg, hc⟩ := h
  exact ⟨cur, by rw [hb.block G (Array.getElem?_eq_some_iff.1 hg).1 hG]; exact hg, hc⟩
theorem RowQ.later {w w' : World} {G : Nat} {l : List (QV × QD)} (h : RowQ w G l) (hb : Below w.heap.size w w') : RowQ w' G l := by
  obtain ⟨cur, hg, hc⟩ := h
  exact ⟨cur, by rw [hb.block G (Array.getElem?_eq_some_iff.1 hg).1]; exact hg, hc⟩
theorem RowQ.g0 {w : World} {G i : Nat} {pre post : List (QV × QD)} {y : QV × QD} (g : Bool) (h : RowQ w G (pre ++ y :: post)) (hi : pre.length = i) : RowQ (w.setCell ⟨G, i * 4, none⟩ (.bool g)) G (pre ++ ((⟨⟨g, y.1.num.a, y.1.num.n, y.1.num.c⟩, y.1.den⟩ : QV), (⟨⟨g, y.2.num.xs⟩, y.2.den⟩ : QD)) :: post) := by
  obtain ⟨cur, hg, hc⟩ := h
  subst hi
  refine ⟨cur.setIfInBounds (pre.length * 4) (.bool g), heap_setCell_same w G (pre.length * 4) cur 30 (.bool g) hg, fun j p hp => ?_⟩
  by_cases e : j = pre.length
  · subst e
    rw [mid_eq] at hp
    obtain rfl := Option.some.inj hp
    have h1 := hc pre.length y mid_eq
    have hs : pre.length * 4 < cur.size := (Array.getElem?_eq_some_iff.1 (h1.1)).1
    refine ⟨?_, ?_, ?_, ?_⟩
    · simp [hs]
    · rw [Array.getElem?_setIfInBounds_ne (by omega)]; exact h1.2.1
    · rw [Array.getElem?_setIfInBounds_ne (by omega)]; exact h1.2.2.1
    · rw [Array.getElem?_setIfInBounds_ne (by omega)]; exact h1.2.2.2
  · rw [mid_ne e (y' := y)] at hp
    have h1 := hc j p hp
    refine ⟨?_, ?_, ?_, ?_⟩
    · rw [Array.getElem?_setIfInBounds_ne (by omega)]; exact h1.1
    · rw [Array.getElem?_setIfInBounds_ne (by omega)]; exact h1.2.1
    · rw [Array.getElem?_setIfInBounds_ne (by omega)]; exact h1.2.2.1
    · rw [Array.getElem?_setIfInBounds_ne (by omega)]; exact h1.2.2.2
theorem RowQ.g2 {w : World} {G i : Nat} {pre post : List (QV × QD)} {y : QV × QD} (g : Bool) (h : RowQ w G (pre ++ y :: post)) (hi : pre.length = i) : RowQ (w.setCell ⟨G, i * 4 + 2, none⟩ (.bool g)) G (pre ++ ((⟨y.1.num, ⟨g, y.1.den.a, y.1.den.n, y.1.den.c⟩⟩ : QV), (⟨y.2.num, ⟨g, y.2.den.xs⟩⟩ : QD)) :: post) := by
  obtain ⟨cur, hg, hc⟩ := h
  subst hi
  refine ⟨cur.setIfInBounds (pre.length * 4 + 2) (.bool g), heap_setCell_same w G (pre.length * 4 + 2) cur 30 (.bool g) hg, fun j p hp => ?_⟩
  by_cases e : j = pre.length
  · subst e
    rw [mid_eq] at hp
    obtain rfl := Option.some.inj hp
    have h1 := hc pre.length y mid_eq
    have hs : pre.length * 4 + 2 < cur.size := (Array.getElem?_eq_some_iff.1 (h1.2.2.1)).1
    refine ⟨?_, ?_, ?_, ?_⟩
    · rw [Array.getElem?_setIfInBounds_ne (by omega)]; exact h1.1
    · rw [Array.getElem?_setIfInBounds_ne (by omega)]; exact h1.2.1
    · simp [hs]
    · rw [Array.getElem?_setIfInBounds_ne (by omega)]; exact h1.2.2.2
  · rw [mid_ne e (y' := y)] at hp
    have h1 := hc j p hp
    refine ⟨?_, ?_, ?_, ?_⟩
    · rw [Array.getElem?_setIfInBounds_ne (by omega)]; exact h1.1
    · rw [Array.getElem?_setIfInBounds_ne (by omega)]; exact h1.2.1
    · rw [Array.getElem?_setIfInBounds_ne (by omega)]; exact h1.2.2.1
    · rw [Array.getElem?_setIfInBounds_ne (by omega)]; exact h1.2.2.2
theorem AllOwn.resign {lo hi : Nat} {w w' : World} {pre post : List (BV × BD)} {b : BV} {d : BD} (g : Bool) (h : AllOwn lo hi w (pre ++ (b, d) :: post)) (hb : ∀ k, lo ≤ k → k < w.heap.size → w'.heap[k]? = w.heap[k]?) : AllOwn lo hi w' (pre ++ (⟨g, b.a, b.n, b.c⟩, ⟨g, d.xs⟩) :: post) := by
  have mv : ∀ (a : Option Addr) (zs : List Int), Own2 lo hi w a zs → Own2 lo hi w' a zs := fun a zs ho => by
    rcases ho with e | ⟨b', cur, e, h1, h2, hg, hc⟩
    · exact .inl e
    · exact .inr ⟨b', cur, e, h1, h2, by rw [hb b' h1 (Array.getElem?_eq_some_iff.1 hg).1]; exact hg, hc⟩
  refine ⟨fun p hp => ?_, ?_⟩
  · rcases List.mem_append.1 hp with hp | hp
    · have ho := h.own p (List.mem_append_left _ hp)
      exact ⟨ho.sg, mv _ _ ho.own, ho.len⟩
    · rcases List.mem_cons.1 hp with rfl | hp
      · have ho := h.own (b, d) (List.mem_append_right _ List.mem_cons_self)
        exact ⟨rfl, mv _ _ ho.own, ho.len⟩
      · have ho := h.own p (List.mem_append_right _ (List.mem_cons_of_mem _ hp))
        exact ⟨ho.sg, mv _ _ ho.own, ho.len⟩
  · obtain ⟨p1, p2, p3⟩ := List.pairwise_append.1 h.ap
    obtain ⟨p4, p5⟩ := List.pairwise_cons.1 p2
    refine List.pairwise_append.2 ⟨p1, List.pairwise_cons.2 ⟨fun q hq => p4 q hq, p5⟩, fun p hp q hq => ?_⟩
    rcases List.mem_cons.1 hq with rfl | hq
    · exact p3 p hp (b, d) List.mem_cons_self
    · exact p3 p hp q (List.mem_cons_of_mem _ hq)
theorem RowQ.data {w : World} {G : Nat} {pre post : List (QV × QD)} {v : QV} {d d' : QD} (h : RowQ w G (pre ++ (v, d) :: post)) : RowQ w G (pre ++ (v, d') :: post) := by
  obtain ⟨cur, hg, hc⟩ := h
  refine ⟨cur, hg, fun j p hp => ?_⟩
  by_cases e : j = pre.length
  · subst e
    rw [mid_eq] at hp
    obtain rfl := Option.some.inj hp
    exact hc pre.length (v, d) mid_eq
  · rw [mid_ne e (y' := (v, d))] at hp
    exact hc j p hp
theorem But.wide {lo hi lo' hi' : Nat} {w w' : World} (h : But lo hi w w') (h1 : lo' ≤ lo) (h2 : hi ≤ hi') : But lo' hi' w w' := ⟨h.os, h.tape, h.output, h.size, fun k hk hd => h.block k hk (by omega)⟩
theorem setCell_other {w : World} {G o k : Nat} {v : Value} (h : k ≠ G) : (w.setCell ⟨G, o, none⟩ v).heap[k]? = w.heap[k]? := heap_setCell_other w ⟨G, o, none⟩ k v h
theorem zip_mid (pre post : List (QV × QD)) (y : QV × QD) : zipPQ (pre ++ y :: post) = zipPQ pre ++ (y.1.num, y.2.num) :: ((y.1.den, y.2.den) :: zipPQ post) := by simp [zipPQ]
theorem zip_mid2 (pre post : List (QV × QD)) (y : QV × QD) : zipPQ (pre ++ y :: post) = (zipPQ pre ++ [(y.1.num, y.2.num)]) ++ (y.1.den, y.2.den) :: zipPQ post := by simp [zipPQ]
/-- A marked fraction, from k on. -/
def mkQ (k : Int) (y : QV × QD) : QV × QD := (⟨⟨sg k, y.1.num.a, y.1.num.n, y.1.num.c⟩, ⟨sg (k + 1 + (y.1.num.n : Int)), y.1.den.a, y.1.den.n, y.1.den.c⟩⟩, ⟨⟨sg k, marks (k + 1) y.1.num.n⟩, ⟨sg (k + 1 + (y.1.num.n : Int)), marks (k + 1 + (y.1.num.n : Int) + 1) y.1.den.n⟩⟩)
def nxK (k : Int) (y : QV × QD) : Int := k + 1 + (y.1.num.n : Int) + 1 + (y.1.den.n : Int)
def mkP : Int → List (QV × QD) → List (QV × QD)
  | _, [] => []
  | k, y :: l => mkQ k y :: mkP (nxK k y) l
def enK : Int → List (QV × QD) → Int
  | k, [] => k
  | k, y :: l => enK (nxK k y) l
theorem mkP_snoc (l : List (QV × QD)) (y : QV × QD) : ∀ k, mkP k (l ++ [y]) = mkP k l ++ [mkQ (enK k l) y] := by
  induction l with
  | nil => intro k; rfl
  | cons z l ih => intro k; show mkQ k z :: mkP (nxK k z) (l ++ [y]) = _; rw [ih]; rfl
theorem enK_snoc (l : List (QV × QD)) (y : QV × QD) : ∀ k, enK k (l ++ [y]) = nxK (enK k l) y := by
  induction l with
  | nil => intro k; rfl
  | cons z l ih => intro k; show enK (nxK k z) (l ++ [y]) = _; rw [ih]; rfl
theorem mkP_len (l : List (QV × QD)) : ∀ k, (mkP k l).length = l.length := by
  induction l with
  | nil => intro k; rfl
  | cons z l ih => intro k; show (mkP (nxK k z) l).length + 1 = _; rw [ih]; rfl
theorem enK_eq (l : List (QV × QD)) : ∀ k, enK k l = k + 2 * (l.length : Int) + (lenPQ l : Int) := by
  induction l with
  | nil => intro k; simp [enK, lenPQ]
  | cons z l ih =>
    intro k
    show enK (nxK k z) l = _
    rw [ih]
    have h2 : lenPQ (z :: l) = lenQ z + lenPQ l := rfl
    have h3 : lenQ z = z.1.num.n + z.1.den.n := rfl
    rw [h2, h3]
    unfold nxK
    simp only [List.length_cons]
    omega
theorem mkP_get (l : List (QV × QD)) : ∀ (k : Int) (i : Nat) (h : i < l.length), (mkP k l)[i]? = some (mkQ (enK k (l.take i)) l[i]) := by
  induction l with
  | nil => intro k i h; simp at h
  | cons z l ih =>
    intro k i h
    match i with
    | 0 => rfl
    | i + 1 => exact ih (nxK k z) i (by simpa using h)

set_option maxHeartbeats 4000000 in
theorem markP (G n c : Nat) (l : List (QV × QD)) (k : Int) (lo hi : Nat) (w : World) (hr : RowQ w G l) (ho : AllOwn lo hi w (zipPQ l)) (hn : l.length = n) (ml : ∀ p ∈ l, p.1.num.n ≤ 1048576 ∧ p.1.den.n ≤ 1048576) (hG : G < lo) (hH : lo ≤ hi) (k0 : 0 ≤ k) (k1 : k + 2 * (n : Int) + (lenPQ l : Int) ≤ 3900000) :
    Calls Try.prog 58 #[.slice (some ⟨G, 0, none⟩) n c, .int .i64 k] w fun e w' => e = .returned (.int .i64 (enK k l)) ∧ But G hi w w' ∧ RowQ w' G (mkP k l) ∧ AllOwn lo hi w' (zipPQ (mkP k l)) := by
  have HR := hide hr
  have HO := hide ho
  have HN := hide hn
  have ML := hide ml
  clear hr ho hn ml
  have hn1 : n ≤ 3900000 := by omega
  go_enter Try.func58, Try.ntmps58
  go_wp2
  go_loopw [1, 5] (fun kv iv wr => ∃ (i : Nat) (a b : List (QV × QD)) (q : Int), i ≤ n ∧ iv = .int .i64 i ∧ kv = .int .i64 q ∧ 0 ≤ q ∧ a.length = i ∧ Hid (l = a ++ b) ∧ Hid (q = enK k a) ∧ Hid (RowQ wr G (mkP k a ++ b)) ∧ Hid (AllOwn lo hi wr (zipPQ (mkP k a ++ b))) ∧ Hid (But G hi w wr)) (fun _ iv _ => n - (intOf iv).toNat)
  case atStart => exact ⟨0, [], l, k, Nat.zero_le _, rfl, rfl, k0, rfl, hide rfl, hide rfl, HR, HO, hide (But.refl _ _ _)⟩
  case round =>
    clear HR HO
    obtain ⟨i, a, b, q, hi', rfl, rfl, q0, ha, EL, EQ, HR, HO, HB⟩ := hrel
    by_cases hlt : i < n
    · have hlt' : (i : Int) < (n : Int) := by omega
      obtain ⟨y, b', rfl⟩ : ∃ y b', b = y :: b' := by
        cases b with
        | nil => have h1 := unhide HN; rw [unhide EL, List.append_nil] at h1; omega
        | cons y b' => exact ⟨y, b', rfl⟩
      have LB : Hid ((y.1.num.n : Int) + (y.1.den.n : Int) + (q + 2) ≤ 3900000) := hide (by
        have h1 := unhide EQ
        rw [enK_eq, ha] at h1
        have h2 : lenPQ l = lenPQ a + (lenQ y + lenPQ b') := by rw [unhide EL, lenPQ_append]; rfl
        have h3 : lenQ y = y.1.num.n + y.1.den.n := rfl
        have h4 := unhide HN
        rw [unhide EL] at h4
        simp at h4
        omega)
      have l1 : (y.1.num.n : Int) + (y.1.den.n : Int) + (q + 2) ≤ 3900000 := unhide LB
      have m1 : y.1.num.n ≤ 1048576 := ((unhide ML) y (by rw [unhide EL]; simp)).1
      have m2 : y.1.den.n ≤ 1048576 := ((unhide ML) y (by rw [unhide EL]; simp)).2
      have pl : (mkP k a).length = i := by rw [mkP_len]; exact ha
      obtain ⟨c0, c1, c2, c3⟩ := (unhide HR).cellsAt (i := i) (y := y) (by rw [← pl]; exact mid_eq)
      have fz := (unhide HR).frozen
      have gG : G < wr.heap.size := (unhide HR).lt
      -- the first sign
      have HR1 := hide ((unhide HR).g0 (sg q) pl)
      have HO1 := hide (AllOwn.resign (sg q) (by have h := unhide HO; rw [zip_mid] at h; exact h) (w' := wr.setCell ⟨G, i * 4, none⟩ (.bool (sg q))) (fun k h1 _ => setCell_other (by omega)))
      have HB1 := hide ((unhide HB).set (p := ⟨G, i * 4, none⟩) (Nat.le_refl _) (by show G < hi; omega) (.bool (sg q)))
      go_wp2_with fail
      refine (mark_at ⟨sg q, y.1.num.a, y.1.num.n, y.1.num.c⟩ ⟨sg q, y.2.num.xs⟩ (zipPQ (mkP k a)) ((y.1.den, y.2.den) :: zipPQ b') (q + 1) lo hi _ (unhide HO1) m1 (by omega) (by omega)).mono ?_
      rintro e w2 ⟨rfl, hbt, ho2⟩
      have HR2 : Hid (RowQ w2 G (mkP k a ++ ((⟨⟨sg q, y.1.num.a, y.1.num.n, y.1.num.c⟩, y.1.den⟩ : QV), (⟨⟨sg q, marks (q + 1) y.1.num.n⟩, y.2.den⟩ : QD)) :: b')) := hide ((unhide HR1).but hbt (.inl hG)).data
      have HO2 : Hid (AllOwn lo hi w2 (zipPQ (mkP k a ++ ((⟨⟨sg q, y.1.num.a, y.1.num.n, y.1.num.c⟩, y.1.den⟩ : QV), (⟨⟨sg q, marks (q + 1) y.1.num.n⟩, y.2.den⟩ : QD)) :: b'))) := hide (by rw [zip_mid]; exact ho2)
      have HB2 := hide ((unhide HB1).trans (hbt.wide (by omega) (Nat.le_refl _)))
      clear hbt ho2 c0 c1 c2 c3 fz HR HO HB HR1 HO1 HB1
      obtain ⟨c0, c1, c2, c3⟩ := (unhide HR2).cellsAt (i := i) (by rw [← pl]; exact mid_eq)
      simp only at c0 c1 c2 c3
      have fz := (unhide HR2).frozen
      have HR3 := hide ((unhide HR2).g2 (sg (q + 1 + (y.1.num.n : Int))) pl)
      have HO3 := hide (AllOwn.resign (sg (q + 1 + (y.1.num.n : Int))) (by have h := unhide HO2; rw [zip_mid2] at h; exact h) (w' := w2.setCell ⟨G, i * 4 + 2, none⟩ (.bool (sg (q + 1 + (y.1.num.n : Int))))) (fun k h1 _ => setCell_other (by omega)))
      have HB3 := hide ((unhide HB2).set (p := ⟨G, i * 4 + 2, none⟩) (Nat.le_refl _) (by show G < hi; omega) (.bool (sg (q + 1 + (y.1.num.n : Int)))))
      go_wp2_with fail
      refine (mark_at ⟨sg (q + 1 + (y.1.num.n : Int)), y.1.den.a, y.1.den.n, y.1.den.c⟩ ⟨sg (q + 1 + (y.1.num.n : Int)), y.2.den.xs⟩ _ (zipPQ b') (q + 1 + (y.1.num.n : Int) + 1) lo hi _ (unhide HO3) m2 (by omega) (by omega)).mono ?_
      rintro e w4 ⟨rfl, hbt, ho4⟩
      have EK : Hid (mkP k (a ++ [y]) ++ b' = mkP k a ++ mkQ q y :: b') := hide (by rw [mkP_snoc, ← unhide EQ, List.append_assoc]; rfl)
      have HR4 : Hid (RowQ w4 G (mkP k (a ++ [y]) ++ b')) := hide (by rw [unhide EK]; exact ((unhide HR3).but hbt (.inl hG)).data)
      have HO4 : Hid (AllOwn lo hi w4 (zipPQ (mkP k (a ++ [y]) ++ b'))) := hide (by rw [unhide EK, zip_mid2]; exact ho4)
      have HB4 := hide ((unhide HB3).trans (hbt.wide (by omega) (Nat.le_refl _)))
      have EQ4 : Hid (nxK q y = enK k (a ++ [y])) := hide (by rw [enK_snoc, ← unhide EQ])
      clear hbt ho4 c0 c1 c2 c3 fz HR2 HO2 HB2 HR3 HO3 HB3
      go_wp2
      go_roundw
      case rel => exact ⟨i + 1, a ++ [y], b', nxK q y, by omega, by go_num, rfl, by unfold nxK; omega, by simp [ha], hide (by rw [unhide EL, List.append_assoc]; rfl), EQ4, HR4, HO4, HB4⟩
      case measure => simp [intOf]; omega
    · obtain rfl : i = n := by omega
      have hb0 : b = [] := by
        have h1 := unhide HN
        rw [unhide EL, List.length_append] at h1
        exact List.length_eq_zero_iff.1 (by omega)
      subst hb0
      have EA : Hid (l = a) := hide (by rw [unhide EL, List.append_nil])
      go_wp2
      go_ret
      refine ⟨by rw [unhide EA, ← unhide EQ]; rfl, unhide HB, ?_, ?_⟩
      · have h := unhide HR
        rw [List.append_nil, ← unhide EA] at h
        exact h
      · have h := unhide HO
        rw [List.append_nil, ← unhide EA] at h
        exact h

theorem mkP_mem {l : List (QV × QD)} {k : Int} {P : QV × QD → Prop} (h : ∀ q y, y ∈ l → P (mkQ q y)) : ∀ p ∈ mkP k l, P p := by
  induction l generalizing k with
  | nil => intro p hp; cases hp
  | cons z l ih =>
    intro p hp
    rcases List.mem_cons.1 hp with rfl | hp
    · exact h k z List.mem_cons_self
    · exact ih (fun q y hy => h q y (List.mem_cons_of_mem _ hy)) p hp
theorem mkP_lenP (l : List (QV × QD)) : ∀ k, lenPQ (mkP k l) = lenPQ l := by
  induction l with
  | nil => intro k; rfl
  | cons z l ih => intro k; show lenQ (mkQ k z) + lenPQ (mkP (nxK k z) l) = lenQ z + lenPQ l; rw [ih]; rfl
set_option maxHeartbeats 4000000 in
theorem heldP (G n c : Nat) (l : List (QV × QD)) (k : Int) (w : World) (hr : RowQ w G (mkP k l)) (hs : AllSl w (zipPQ (mkP k l))) (hn : l.length = n) (ml : ∀ p ∈ l, p.1.num.n ≤ 1048576 ∧ p.1.den.n ≤ 1048576) (k0 : 0 ≤ k) (k1 : k + 2 * (n : Int) + (lenPQ l : Int) ≤ 3900000) :
    Calls Try.prog 59 #[.slice (some ⟨G, 0, none⟩) n c, .int .i64 k] w fun e w' => e = .returned (.int .i64 (enK k l)) ∧ w' = w := by
  have HR := hide hr
  have HS := hide hs
  have HN := hide hn
  have ML := hide ml
  clear hr hs hn ml
  have hn1 : n ≤ 3900000 := by omega
  go_enter Try.func59, Try.ntmps59
  go_wp2
  go_loopw [1, 5] (fun kv iv wr => ∃ (i : Nat) (q : Int), i ≤ n ∧ iv = .int .i64 i ∧ kv = .int .i64 q ∧ 0 ≤ q ∧ Hid (q = enK k (l.take i)) ∧ wr = w) (fun _ iv _ => n - (intOf iv).toNat)
  case atStart => exact ⟨0, k, Nat.zero_le _, rfl, rfl, k0, hide (by simp [enK]), rfl⟩
  case round =>
    obtain ⟨i, q, hi', rfl, rfl, q0, EQ, rfl⟩ := hrel
    by_cases hlt : i < n
    · have hlt' : (i : Int) < (n : Int) := by omega
      have hil : i < l.length := by rw [unhide HN]; exact hlt
      have hget := mkP_get l k i hil
      rw [← unhide EQ] at hget
      have TK : Hid (l.take (i + 1) = l.take i ++ [l[i]]) := hide (take_succQ hil)
      have MY : Hid (l[i] ∈ l) := hide (List.getElem_mem _)
      have EQ2 : Hid (nxK q l[i] = enK k (l.take (i + 1))) := hide (by rw [unhide TK, enK_snoc, ← unhide EQ])
      have LE : Hid (nxK q l[i] ≤ 3900000) := hide (by
        rw [unhide EQ2, enK_eq]
        have h1 : (l.take (i + 1)).length = i + 1 := by rw [List.length_take]; omega
        have h2 : lenPQ l = lenPQ (l.take (i + 1)) + lenPQ (l.drop (i + 1)) := by rw [← lenPQ_append, List.take_append_drop]
        rw [h1]
        omega)
      have hm := List.mem_of_getElem? hget
      have S1 := (unhide HS) ((mkQ q l[i]).1.num, (mkQ q l[i]).2.num) (zipPQ_mem hm (by simp))
      have S2 := (unhide HS) ((mkQ q l[i]).1.den, (mkQ q l[i]).2.den) (zipPQ_mem hm (by simp))
      have m0 := (unhide ML) l[i] (unhide MY)
      obtain ⟨b0, b1, b2, b3⟩ := (unhide HR).cellsAt hget
      obtain ⟨y, hy⟩ : ∃ y, y = l[i] := ⟨_, rfl⟩
      rw [← hy] at b0 b1 b2 b3 S1 S2 m0 EQ2 LE
      clear hy hget hm TK MY hil
      have c0 : wr.cell? ⟨G, i * 4, none⟩ = some (.bool (q % 3 == 0)) := b0
      have c1 : wr.cell? ⟨G, i * 4 + 1, none⟩ = some (.slice y.1.num.a y.1.num.n y.1.num.c) := b1
      have c2 : wr.cell? ⟨G, i * 4 + 2, none⟩ = some (.bool ((q + 1 + (y.1.num.n : Int)) % 3 == 0)) := b2
      have c3 : wr.cell? ⟨G, i * 4 + 3, none⟩ = some (.slice y.1.den.a y.1.den.n y.1.den.c) := b3
      have X1 := hide (show Sl wr y.1.num.a (marks (q + 1) y.1.num.n) from S1.sl)
      have X2 := hide (show Sl wr y.1.den.a (marks (q + 1 + (y.1.num.n : Int) + 1) y.1.den.n) from S2.sl)
      have le : q + 1 + (y.1.num.n : Int) + 1 + (y.1.den.n : Int) ≤ 3900000 := unhide LE
      clear b0 b1 b2 b3 S1 S2 LE
      go_wp2_with fail
      refine (heldI_any _ _ _ (q + 1) _ (unhide X1) m0.1 (by omega) (by omega)).mono ?_
      rintro e w1 ⟨rfl, rfl⟩
      have d1 : ¬ (q + 1 + (y.1.num.n : Int) < 0) := by omega
      go_wp2_with fail
      refine (heldI_any _ _ _ (q + 1 + (y.1.num.n : Int) + 1) _ (unhide X2) m0.2 (by omega) (by omega)).mono ?_
      rintro e w2 ⟨rfl, rfl⟩
      have d2 : ¬ (q + 1 + (y.1.num.n : Int) + 1 + (y.1.den.n : Int) < 0) := by omega
      go_wp2
      go_roundw
      case rel => exact ⟨i + 1, nxK q y, by omega, by go_num, rfl, by unfold nxK; omega, EQ2, trivial⟩
      case measure => simp [intOf]; omega
    · obtain rfl : i = n := by omega
      have EL : Hid (q = enK k l) := hide (by have h := unhide EQ; rw [← unhide HN, List.take_length] at h; exact h)
      go_wp2
      go_ret
      exact ⟨by rw [← unhide EL]; rfl, rfl⟩
theorem markP0 (a : Option Addr) (c : Nat) (k : Int) (w : World) : Calls Try.prog 58 #[.slice a 0 c, .int .i64 k] w fun e w' => e = .returned (.int .i64 k) ∧ w' = w := by
  go_enter Try.func58, Try.ntmps58
  go_wp2
  refine wp_loop_rounds 1 ?_
  rw [rounds_succ]
  go_wp2
  go_ret
  exact ⟨rfl, rfl⟩
theorem heldP0 (a : Option Addr) (c : Nat) (k : Int) (w : World) : Calls Try.prog 59 #[.slice a 0 c, .int .i64 k] w fun e w' => e = .returned (.int .i64 k) ∧ w' = w := by
  go_enter Try.func59, Try.ntmps59
  go_wp2
  refine wp_loop_rounds 1 ?_
  rw [rounds_succ]
  go_wp2
  go_ret
  exact ⟨rfl, rfl⟩

/-- A slice of fractions that is the call's own: its row and its numbers in blocks from B to below E. -/
structure PRo (B E : Nat) (w : World) (a : Option Addr) (n c : Nat) (l : List (QV × QD)) : Prop where
  len : l.length = n
  sz : 2 * n + lenPQ l ≤ 3200000
  ml : ∀ p ∈ l, p.1.num.n ≤ 1048576 ∧ p.1.den.n ≤ 1048576
  row : n = 0 ∨ ∃ G lo hi, a = some ⟨G, 0, none⟩ ∧ B ≤ G ∧ G < lo ∧ lo ≤ hi ∧ hi ≤ E ∧ RowQ w G l ∧ AllOwn lo hi w (zipPQ l)
theorem PRo.later {B E : Nat} {w w' : World} {a : Option Addr} {n c : Nat} {l : List (QV × QD)} (h : PRo B E w a n c l) (hb : Below w.heap.size w w') : PRo B E w' a n c l := by
  refine ⟨h.len, h.sz, h.ml, ?_⟩
  rcases h.row with e | ⟨G, lo, hi, e, h1, h2, h3, h4, h5, h6⟩
  · exact .inl e
  · exact .inr ⟨G, lo, hi, e, h1, h2, h3, h4, h5.later hb, h6.later hb⟩
theorem PRo.but {B E lo' hi' : Nat} {w w' : World} {a : Option Addr} {n c : Nat} {l : List (QV × QD)} (h : PRo B E w a n c l) (hb : But lo' hi' w w') (hd : E ≤ lo' ∨ hi' ≤ B) : PRo B E w' a n c l := by
  refine ⟨h.len, h.sz, h.ml, ?_⟩
  rcases h.row with e | ⟨G, lo, hi, e, h1, h2, h3, h4, h5, h6⟩
  · exact .inl e
  · exact .inr ⟨G, lo, hi, e, h1, h2, h3, h4, h5.but hb (by omega), h6.but hb (by omega)⟩
theorem PRo.wide {B E B' E' : Nat} {w : World} {a : Option Addr} {n c : Nat} {l : List (QV × QD)} (h : PRo B E w a n c l) (h1 : B' ≤ B) (h2 : E ≤ E') : PRo B' E' w a n c l := by
  refine ⟨h.len, h.sz, h.ml, ?_⟩
  rcases h.row with e | ⟨G, lo, hi, e, k1, k2, k3, k4, k5, k6⟩
  · exact .inl e
  · exact .inr ⟨G, lo, hi, e, by omega, k2, k3, by omega, k5, k6⟩
theorem PRo.sl {B E : Nat} {w : World} {a : Option Addr} {n c : Nat} {l : List (QV × QD)} (h : PRo B E w a n c l) : PSlQ w a l := by
  rcases h.row with e | ⟨G, lo, hi, e, h1, h2, h3, h4, h5, h6⟩
  · have hl : l = [] := List.length_eq_zero_iff.1 (by rw [h.len]; exact e)
    subst hl
    exact ⟨.inl rfl, fun p hp => by cases hp⟩
  · subst e
    refine ⟨.inr ⟨G, 0, rfl, h5.lt, fun i hi => ?_⟩, fun p hp x hx => h6.sl x (zipPQ_mem hp hx)⟩
    have hc := h5.cellsAt (List.getElem?_eq_getElem hi)
    simpa using hc
theorem PRo.lens {B E : Nat} {w : World} {a : Option Addr} {n c : Nat} {l : List (QV × QD)} (h : PRo B E w a n c l) : ∀ p ∈ l, p.1.num.n ≤ maxLen ∧ p.1.den.n ≤ maxLen := fun p hp => by
  have := h.ml p hp
  unfold maxLen
  omega
theorem PRo.max {B E : Nat} {w : World} {a : Option Addr} {n c : Nat} {l : List (QV × QD)} (h : PRo B E w a n c l) : n ≤ maxLen := by
  have := h.sz
  unfold maxLen
  omega
theorem mkP_ml {l : List (QV × QD)} (k : Int) (h : ∀ p ∈ l, p.1.num.n ≤ 1048576 ∧ p.1.den.n ≤ 1048576) : ∀ p ∈ mkP k l, p.1.num.n ≤ 1048576 ∧ p.1.den.n ≤ 1048576 := mkP_mem (fun q y hy => h y hy)
theorem markR (B E : Nat) (a : Option Addr) (n c : Nat) (l : List (QV × QD)) (w : World) (h : PRo B E w a n c l) (hE : E ≤ w.heap.size) :
    Calls Try.prog 58 #[.slice a n c, .int .i64 1] w fun e w' => e = .returned (.int .i64 (enK 1 l)) ∧ But B E w w' ∧ PRo B E w' a n c (mkP 1 l) := by
  have hs := h.sz
  rcases h.row with e | ⟨G, lo, hi, e, h1, h2, h3, h4, h5, h6⟩
  · have hl : l = [] := List.length_eq_zero_iff.1 (by rw [h.len]; exact e)
    subst hl e
    refine (markP0 a c 1 w).mono ?_
    rintro e w' ⟨rfl, rfl⟩
    exact ⟨rfl, But.refl _ _ _, ⟨rfl, by simp [mkP, lenPQ], fun p hp => (by cases hp), .inl rfl⟩⟩
  · subst e
    refine (markP G n c l 1 lo hi w h5 h6 h.len h.ml h2 h3 (by omega) (by omega)).mono ?_
    rintro e w' ⟨rfl, hb, hr, ho⟩
    exact ⟨rfl, hb.wide h1 h4, ⟨by rw [mkP_len]; exact h.len, by rw [mkP_lenP]; exact h.sz, mkP_ml 1 h.ml, .inr ⟨G, lo, hi, rfl, h1, h2, h3, h4, hr, ho⟩⟩⟩
theorem heldR (B E : Nat) (a : Option Addr) (n c : Nat) (l : List (QV × QD)) (w : World) (h : PRo B E w a n c (mkP 1 l)) (h0 : 2 * n + lenPQ l ≤ 3200000) (ml : ∀ p ∈ l, p.1.num.n ≤ 1048576 ∧ p.1.den.n ≤ 1048576) :
    Calls Try.prog 59 #[.slice a n c, .int .i64 1] w fun e w' => e = .returned (.int .i64 (enK 1 l)) ∧ w' = w := by
  have hl' : l.length = n := by have := h.len; rw [mkP_len] at this; exact this
  rcases h.row with e | ⟨G, lo, hi, e, h1, h2, h3, h4, h5, h6⟩
  · have hl : l = [] := List.length_eq_zero_iff.1 (by omega)
    subst hl e
    exact heldP0 a c 1 w
  · subst e
    exact heldP G n c l 1 w h5 h6.sl hl' ml (by omega) (by omega)
theorem POwQ.ro {lo hi : Nat} {w : World} {G n c : Nat} {l : List (QV × QD)} (h : POwQ lo hi w G n c l) (hG : G < lo) (hl : lo ≤ hi) (sz : 2 * n + lenPQ l ≤ 3200000) (ml : ∀ p ∈ l, p.1.num.n ≤ 1048576 ∧ p.1.den.n ≤ 1048576) : PRo G hi w (some ⟨G, 0, none⟩) n c l := by
  refine ⟨h.len, sz, ml, .inr ⟨G, lo, hi, rfl, Nat.le_refl _, hG, hl, Nat.le_refl _, ?_, h.own⟩⟩
  obtain ⟨M, hr, hM⟩ := h.row
  rcases hr.2 with ⟨h', _⟩ | ⟨g', cap, cur, hv, _, hg, _, _, _, htake⟩
  · simp at h'
  simp only [Value.slice.injEq, Option.some.injEq, Addr.mk.injEq, and_true, true_and] at hv
  obtain ⟨rfl, rfl⟩ := hv
  refine ⟨cur, hg, fun j p hp => ?_⟩
  have hj : j < l.length := (List.getElem?_eq_some_iff.1 hp).1
  have hc := hM j hj
  have e : l[j] = p := by rw [List.getElem?_eq_getElem hj] at hp; exact Option.some.inj hp
  rw [e] at hc
  have hlen := h.len
  have up : ∀ t v, t < n * 4 → M[t]? = some v → cur[t]? = some v := fun t v ht hv => by
    rw [← htake, List.getElem?_take, if_pos ht] at hv
    simpa using hv
  exact ⟨up _ _ (by omega) hc.1, up _ _ (by omega) hc.2.1, up _ _ (by omega) hc.2.2.1, up _ _ (by omega) hc.2.2.2⟩
/-- The lengths of what is read. -/
def lenD : List QD → Nat
  | [] => 0
  | d :: l => d.num.xs.length + d.den.xs.length + lenD l
theorem lenPQ_data {l : List (QV × QD)} (h : ∀ p ∈ l, p.2.num.xs.length = p.1.num.n ∧ p.2.den.xs.length = p.1.den.n) : lenPQ l = lenD (l.map Prod.snd) := by
  induction l with
  | nil => rfl
  | cons p l ih =>
    have h1 := h p List.mem_cons_self
    have h2 := ih (fun q hq => h q (List.mem_cons_of_mem _ hq))
    show p.1.num.n + p.1.den.n + lenPQ l = p.2.num.xs.length + p.2.den.xs.length + lenD (l.map Prod.snd)
    omega
theorem PSlQ.data {w : World} {a : Option Addr} {l : List (QV × QD)} (h : PSlQ w a l) : ∀ p ∈ l, p.2.num.xs.length = p.1.num.n ∧ p.2.den.xs.length = p.1.den.n := fun p hp => ⟨(h.rd p hp).head.len, (h.rd p hp).tail.head.len⟩
theorem lenPQ_snd {w w' : World} {a a' : Option Addr} {l l' : List (QV × QD)} (h : PSlQ w a l) (h' : PSlQ w' a' l') (e : l.map Prod.snd = l'.map Prod.snd) : lenPQ l = lenPQ l' := by
  rw [lenPQ_data h.data, lenPQ_data h'.data, e]
theorem ml_snd {w w' : World} {a a' : Option Addr} {l l' : List (QV × QD)} (h : PSlQ w a l) (h' : PSlQ w' a' l') (e : l.map Prod.snd = l'.map Prod.snd) (ml : ∀ p ∈ l', p.1.num.n ≤ 1048576 ∧ p.1.den.n ≤ 1048576) : ∀ p ∈ l, p.1.num.n ≤ 1048576 ∧ p.1.den.n ≤ 1048576 := fun p hp => by
  have h1 : p.2 ∈ l'.map Prod.snd := by rw [← e]; exact List.mem_map.2 ⟨p, hp, rfl⟩
  obtain ⟨q, hq, e2⟩ := List.mem_map.1 h1
  have h2 := h.data p hp
  have h3 := h'.data q hq
  have h4 := ml q hq
  rw [e2] at h3
  omega
def RetPr (w : World) (U : List QD → Bool → Prop) (e : Ending) (w' : World) : Prop := ∃ (a : Option Addr) (n c : Nat) (l : List (QV × QD)) (ok : Bool), e = .returned (.tuple #[.slice a n c, .bool ok]) ∧ Below w.heap.size w w' ∧ PSlQ w' a l ∧ l.length = n ∧ U (l.map Prod.snd) ok
def RetPo (w : World) (U : List QD → Bool → Prop) (e : Ending) (w' : World) : Prop := ∃ (a : Option Addr) (n c : Nat) (l : List (QV × QD)) (ok : Bool), e = .returned (.tuple #[.slice a n c, .bool ok]) ∧ Below w.heap.size w w' ∧ PRo w.heap.size w'.heap.size w' a n c l ∧ U (l.map Prod.snd) ok
end Go.Proofs.Ytlmeokeanihhoaa
namespace Go.Proofs.Ytlmeokeanihhoaa
open Go.RowKit
set_option linter.unusedVariables false
set_option maxRecDepth 100000
set_option linter.unusedSimpArgs false

theorem AllSl.Sl {w : World} {v : SV} {d : SD} (h : AllSl w [(v.lo.num, d.lo.num), (v.lo.den, d.lo.den), (v.hi.num, d.hi.num), (v.hi.den, d.hi.den)]) : AllSl w [(v.lo.num, d.lo.num), (v.lo.den, d.lo.den)] := fun p hp => h p (show p ∈ [(v.lo.num, d.lo.num), (v.lo.den, d.lo.den), (v.hi.num, d.hi.num), (v.hi.den, d.hi.den)] from (List.mem_append_left [(v.hi.num, d.hi.num), (v.hi.den, d.hi.den)] hp : p ∈ [(v.lo.num, d.lo.num), (v.lo.den, d.lo.den)] ++ [(v.hi.num, d.hi.num), (v.hi.den, d.hi.den)]))
theorem AllSl.Sr {w : World} {v : SV} {d : SD} (h : AllSl w [(v.lo.num, d.lo.num), (v.lo.den, d.lo.den), (v.hi.num, d.hi.num), (v.hi.den, d.hi.den)]) : AllSl w [(v.hi.num, d.hi.num), (v.hi.den, d.hi.den)] := fun p hp => h p (show p ∈ [(v.lo.num, d.lo.num), (v.lo.den, d.lo.den), (v.hi.num, d.hi.num), (v.hi.den, d.hi.den)] from (List.mem_append_right [(v.lo.num, d.lo.num), (v.lo.den, d.lo.den)] hp : p ∈ [(v.lo.num, d.lo.num), (v.lo.den, d.lo.den)] ++ [(v.hi.num, d.hi.num), (v.hi.den, d.hi.den)]))
theorem AllAr.Sl {w : World} {v : SV} {d : SD} (h : AllAr w [(v.lo.num, d.lo.num), (v.lo.den, d.lo.den), (v.hi.num, d.hi.num), (v.hi.den, d.hi.den)]) : AllAr w [(v.lo.num, d.lo.num), (v.lo.den, d.lo.den)] := fun p hp => h p (show p ∈ [(v.lo.num, d.lo.num), (v.lo.den, d.lo.den), (v.hi.num, d.hi.num), (v.hi.den, d.hi.den)] from (List.mem_append_left [(v.hi.num, d.hi.num), (v.hi.den, d.hi.den)] hp : p ∈ [(v.lo.num, d.lo.num), (v.lo.den, d.lo.den)] ++ [(v.hi.num, d.hi.num), (v.hi.den, d.hi.den)]))
theorem AllAr.Sr {w : World} {v : SV} {d : SD} (h : AllAr w [(v.lo.num, d.lo.num), (v.lo.den, d.lo.den), (v.hi.num, d.hi.num), (v.hi.den, d.hi.den)]) : AllAr w [(v.hi.num, d.hi.num), (v.hi.den, d.hi.den)] := fun p hp => h p (show p ∈ [(v.lo.num, d.lo.num), (v.lo.den, d.lo.den), (v.hi.num, d.hi.num), (v.hi.den, d.hi.den)] from (List.mem_append_right [(v.lo.num, d.lo.num), (v.lo.den, d.lo.den)] hp : p ∈ [(v.lo.num, d.lo.num), (v.lo.den, d.lo.den)] ++ [(v.hi.num, d.hi.num), (v.hi.den, d.hi.den)]))

end Go.Proofs.Ytlmeokeanihhoaa
namespace Go.Proofs.Ytlmeokeanihhoaa
open Go.RowKit
set_option linter.unusedVariables false
set_option maxRecDepth 100000
set_option linter.unusedSimpArgs false

theorem AllAr.lo {w : World} {v : SV} {d : SD} (h : AllAr w [(v.lo.num, d.lo.num), (v.lo.den, d.lo.den), (v.hi.num, d.hi.num), (v.hi.den, d.hi.den)]) : AllAr w [(v.lo.num, d.lo.num), (v.lo.den, d.lo.den)] := h.Sl
theorem AllAr.hi {w : World} {v : SV} {d : SD} (h : AllAr w [(v.lo.num, d.lo.num), (v.lo.den, d.lo.den), (v.hi.num, d.hi.num), (v.hi.den, d.hi.den)]) : AllAr w [(v.hi.num, d.hi.num), (v.hi.den, d.hi.den)] := h.Sr

structure IsGoodS (w : World) (v : SV) (d : SD) : Prop where
  lo : IsGood w v.lo d.lo
  hi : IsGood w v.hi d.hi
  le : nQ d.lo * dQ d.hi ≤ nQ d.hi * dQ d.lo
theorem IsGoodS.later {w w' : World} {v : SV} {d : SD} (h : IsGoodS w v d) (hb : Below w.heap.size w w') : IsGoodS w' v d := ⟨h.lo.later hb, h.hi.later hb, h.le⟩

end Go.Proofs.Ytlmeokeanihhoaa
namespace Go.Proofs.Ytlmeokeanihhoaa
open Go.RowKit
set_option linter.unusedVariables false
set_option maxRecDepth 100000
set_option linter.unusedSimpArgs false

/-- A variable of the law's own: its box at block G, what it leads to at blocks from lo to below hi. -/
structure VarS (wx : World) (G lo hi : Nat) (v : SV) (d : SD) : Prop where
  c0 : wx.cell? ⟨G, 0, none⟩ = some (.bool v.lo.num.g)
  c1 : wx.cell? ⟨G, 1, none⟩ = some (.slice v.lo.num.a v.lo.num.n v.lo.num.c)
  c2 : wx.cell? ⟨G, 2, none⟩ = some (.bool v.lo.den.g)
  c3 : wx.cell? ⟨G, 3, none⟩ = some (.slice v.lo.den.a v.lo.den.n v.lo.den.c)
  c4 : wx.cell? ⟨G, 4, none⟩ = some (.bool v.hi.num.g)
  c5 : wx.cell? ⟨G, 5, none⟩ = some (.slice v.hi.num.a v.hi.num.n v.hi.num.c)
  c6 : wx.cell? ⟨G, 6, none⟩ = some (.bool v.hi.den.g)
  c7 : wx.cell? ⟨G, 7, none⟩ = some (.slice v.hi.den.a v.hi.den.n v.hi.den.c)
  own : AllOwn lo hi wx [(v.lo.num, d.lo.num), (v.lo.den, d.lo.den), (v.hi.num, d.hi.num), (v.hi.den, d.hi.den)]
theorem VarS.later {wx wy : World} {G lo hi : Nat} {v : SV} {d : SD} (h : VarS wx G lo hi v d) (hb : Below wx.heap.size wx wy) : VarS wy G lo hi v d :=
  ⟨cell_later hb h.c0, cell_later hb h.c1, cell_later hb h.c2, cell_later hb h.c3, cell_later hb h.c4, cell_later hb h.c5, cell_later hb h.c6, cell_later hb h.c7, h.own.later hb⟩
theorem VarS.but {wx wy : World} {G lo hi lo' hi' : Nat} {v : SV} {d : SD} (h : VarS wx G lo hi v d) (hb : But lo' hi' wx wy) (hG : G < lo' ∨ hi' ≤ G) (hd : hi ≤ lo' ∨ hi' ≤ lo) : VarS wy G lo hi v d :=
  ⟨hb.cell h.c0 hG, hb.cell h.c1 hG, hb.cell h.c2 hG, hb.cell h.c3 hG, hb.cell h.c4 hG, hb.cell h.c5 hG, hb.cell h.c6 hG, hb.cell h.c7 hG, h.own.but hb hd⟩
theorem VarS.mark {wx wy : World} {G lo hi : Nat} {v : SV} {d d' : SD} (h : VarS wx G lo hi v d) (hb : But lo hi wx wy) (hG : G < lo ∨ hi ≤ G) (ho : AllOwn lo hi wy [(v.lo.num, d'.lo.num), (v.lo.den, d'.lo.den), (v.hi.num, d'.hi.num), (v.hi.den, d'.hi.den)]) : VarS wy G lo hi v d' :=
  ⟨hb.cell h.c0 hG, hb.cell h.c1 hG, hb.cell h.c2 hG, hb.cell h.c3 hG, hb.cell h.c4 hG, hb.cell h.c5 hG, hb.cell h.c6 hG, hb.cell h.c7 hG, ho⟩
theorem VarS.low {wx : World} {G lo hi lo' : Nat} {v : SV} {d : SD} (h : VarS wx G lo hi v d) (hl : lo' ≤ lo) : VarS wx G lo' hi v d := ⟨h.c0, h.c1, h.c2, h.c3, h.c4, h.c5, h.c6, h.c7, h.own.wide hl (Nat.le_refl _)⟩
theorem VarS.start {wx : World} {lo : Nat} {v : SV} {d : SD} (t : TypeId) (h : AllOwn lo wx.heap.size wx [(v.lo.num, d.lo.num), (v.lo.den, d.lo.den), (v.hi.num, d.hi.num), (v.hi.den, d.hi.den)]) : VarS (wx.alloc (.cells #[.bool v.lo.num.g, .slice v.lo.num.a v.lo.num.n v.lo.num.c, .bool v.lo.den.g, .slice v.lo.den.a v.lo.den.n v.lo.den.c, .bool v.hi.num.g, .slice v.hi.num.a v.hi.num.n v.hi.num.c, .bool v.hi.den.g, .slice v.hi.den.a v.hi.den.n v.hi.den.c] t)) wx.heap.size lo wx.heap.size v d :=
  ⟨by simp [go_sem], by simp [go_sem], by simp [go_sem], by simp [go_sem], by simp [go_sem], by simp [go_sem], by simp [go_sem], by simp [go_sem], h.later ((Below.refl _ _).alloc (Nat.le_refl _) _)⟩
theorem VarS.gt {wx : World} {G lo hi : Nat} {v : SV} {d : SD} (h : VarS wx G lo hi v d) : G < wx.heap.size := World.block_lt_of_cell? _ _ h.c0
end Go.Proofs.Ytlmeokeanihhoaa
namespace Go.Proofs.Ytlmeokeanihhoaa
open Go.RowKit
set_option linter.unusedVariables false
set_option maxRecDepth 100000
set_option linter.unusedSimpArgs false

set_option maxHeartbeats 4000000 in
theorem copyB (b : BV) (V : Int) (w : World) (h : IsB w b V) (k : Bd V 400000) : Calls Try.prog 141 #[.agg #[.bool b.g, .slice b.a b.n b.c]] w (OutN w V) := by
  obtain ⟨xs, hx, _, hl, nx, sx⟩ := h.num k (by omega)
  have HX := hide hx.arg
  have NX := hide nx
  have SX : Hid (sU b.g (V.natAbs : Int) = V) := hide (by rw [sx]; unfold sU; by_cases e : V < 0 <;> simp [e] <;> omega)
  clear h hx nx sx
  go_enter Try.func141, Try.ntmps141
  go_upto_region 1 with fail
  have hb : Below w.heap.size w ((w.alloc (.cells #[.bool b.g, .slice b.a b.n b.c] 28)).alloc (.cells #[.bool false, .slice none 0 0] 28)) := (((Below.refl _ _).alloc (by simp) _).alloc (by simp) _)
  have k0_0 : ((w.alloc (.cells #[.bool b.g, .slice b.a b.n b.c] 28)).alloc (.cells #[.bool false, .slice none 0 0] 28)).cell? ⟨w.heap.size, 0, none⟩ = some (.bool b.g) := by simp [go_sem]
  have k0_1 : ((w.alloc (.cells #[.bool b.g, .slice b.a b.n b.c] 28)).alloc (.cells #[.bool false, .slice none 0 0] 28)).cell? ⟨w.heap.size, 1, none⟩ = some (.slice b.a b.n b.c) := by simp [go_sem]
  have k1_0 : ((w.alloc (.cells #[.bool b.g, .slice b.a b.n b.c] 28)).alloc (.cells #[.bool false, .slice none 0 0] 28)).cell? ⟨w.heap.size + 1, 0, none⟩ = some (.bool false) := by simp [go_sem]
  have k1_1 : ((w.alloc (.cells #[.bool b.g, .slice b.a b.n b.c] 28)).alloc (.cells #[.bool false, .slice none 0 0] 28)).cell? ⟨w.heap.size + 1, 1, none⟩ = some (.slice none 0 0) := by simp [go_sem]
  have z1 : ∀ o, ((w.alloc (.cells #[.bool b.g, .slice b.a b.n b.c] 28)).alloc (.cells #[.bool false, .slice none 0 0] 28)).frozen? ⟨w.heap.size + 1, o, none⟩ = false := fun o => by simp [go_sem]
  have A := hide ((unhide HX).later hb)
  have szw0 : w.heap.size + 2 ≤ ((w.alloc (.cells #[.bool b.g, .slice b.a b.n b.c] 28)).alloc (.cells #[.bool false, .slice none 0 0] 28)).heap.size := by simp
  have HB := hide hb
  clear hb
  generalize ((w.alloc (.cells #[.bool b.g, .slice b.a b.n b.c] 28)).alloc (.cells #[.bool false, .slice none 0 0] 28)) = w0 at *
  have ne0_1 : w.heap.size ≠ w.heap.size + 1 := by omega
  go_region_held3 (fun w' => w'.cell? ⟨w.heap.size, 0, none⟩ = some (.bool b.g) ∧ w'.cell? ⟨w.heap.size, 1, none⟩ = some (.slice b.a b.n b.c)) (with_reducible (first | exact ⟨k0_0, k0_1⟩ | exact ⟨cd_other k0_0, cd_other k0_1⟩ | exact ⟨cs_other (cs_other (k0_0) ne0_1) ne0_1, cs_other (cs_other (k0_1) ne0_1) ne0_1⟩ | fail))
    (first
    | (go_at_call 187; refine (clone_any b.a b.n b.c xs _ ?_ (by omega)).mono ?_; exact (unhide A).later (Below.refl _ _).drew; rintro e w1 ⟨a1, c1, rfl, hb, ho, ha⟩; have hbx : Below w0.heap.size w0 w1 := below_of_drew hb; have szw1 := hbx.size; replace z1 := fun o => frozen_later hbx (World.block_lt_of_cell? _ _ k1_0) (z1 o); replace k0_0 := cell_later hbx k0_0; replace k0_1 := cell_later hbx k0_1; replace k1_0 := cell_later hbx k1_0; replace k1_1 := cell_later hbx k1_1; replace A := hide ((unhide A).later hbx); have A1 := hide (ha); have O1 := hide (ho.two); have HBr := hide hbx; clear hbx hb ho ha)
    | (go_at_call 186; refine (signI_v _ a1 b.n c1 xs _ w0.heap.size w1.heap.size (V.natAbs : Int) ?_ ?_ (unhide NX)).mono ?_; exact (unhide A1).later (Below.refl _ _); exact (unhide O1).later (Below.refl _ _); rintro e w2 ⟨x1, rfl, hb, ow, ar⟩; have hbx : Below w1.heap.size w1 w2 := hb; have szw2 := hbx.size; replace z1 := fun o => frozen_later hbx (World.block_lt_of_cell? _ _ k1_0) (z1 o); replace k0_0 := cell_later hbx k0_0; replace k0_1 := cell_later hbx k0_1; replace k1_0 := cell_later hbx k1_0; replace k1_1 := cell_later hbx k1_1; replace A := hide ((unhide A).later hbx); replace A1 := hide ((unhide A1).later hbx); replace O1 := hide ((unhide O1).later hbx); rw [unhide SX] at ow ar; have OW := hide (ow); have AR := hide (ar); have HBr := hide (below_on (unhide HBr) hbx); clear hbx hb ow ar))
  replace HB := hide (below_on (unhide HB) (unhide HBr))
  clear HBr
  go_wp2
  refine bodyPost_ret (v := .agg #[.bool x1.g, .slice x1.a x1.n x1.c]) (by simp [results, Try.results141, go_sem, k1_0, k1_1]) rfl ?_
  exact outN_fin (b := x1) (R := w.heap.size + 1) (by omega) (unhide HB) (metB_but (w5 := w2) (v := x1) (G := w.heap.size + 1)) ((unhide OW).wide (by omega) (by omega)) (unhide AR) (unhide NX)

set_option maxHeartbeats 4000000 in
theorem copyQ (q : QV) (N D : Int) (w : World) (h : IsQ w q N D) (k1 : Bd N 400000) (k2 : Bd D 400000) : Calls Try.prog 202 #[.agg #[.bool q.num.g, .slice q.num.a q.num.n q.num.c, .bool q.den.g, .slice q.den.a q.den.n q.den.c]] w (OutQ w N D) := by
  have H1 := hide h
  have K1 := hide k1
  have K2 := hide k2
  clear h k1 k2
  go_enter Try.func202, Try.ntmps202
  go_upto_region 1 with fail
  have hb : Below w.heap.size w ((w.alloc (.cells #[.bool q.num.g, .slice q.num.a q.num.n q.num.c, .bool q.den.g, .slice q.den.a q.den.n q.den.c] 30)).alloc (.cells #[.bool false, .slice none 0 0, .bool false, .slice none 0 0] 30)) := (((Below.refl _ _).alloc (by simp) _).alloc (by simp) _)
  have k0_0 : ((w.alloc (.cells #[.bool q.num.g, .slice q.num.a q.num.n q.num.c, .bool q.den.g, .slice q.den.a q.den.n q.den.c] 30)).alloc (.cells #[.bool false, .slice none 0 0, .bool false, .slice none 0 0] 30)).cell? ⟨w.heap.size, 0, none⟩ = some (.bool q.num.g) := by simp [go_sem]
  have k0_1 : ((w.alloc (.cells #[.bool q.num.g, .slice q.num.a q.num.n q.num.c, .bool q.den.g, .slice q.den.a q.den.n q.den.c] 30)).alloc (.cells #[.bool false, .slice none 0 0, .bool false, .slice none 0 0] 30)).cell? ⟨w.heap.size, 1, none⟩ = some (.slice q.num.a q.num.n q.num.c) := by simp [go_sem]
  have k0_2 : ((w.alloc (.cells #[.bool q.num.g, .slice q.num.a q.num.n q.num.c, .bool q.den.g, .slice q.den.a q.den.n q.den.c] 30)).alloc (.cells #[.bool false, .slice none 0 0, .bool false, .slice none 0 0] 30)).cell? ⟨w.heap.size, 2, none⟩ = some (.bool q.den.g) := by simp [go_sem]
  have k0_3 : ((w.alloc (.cells #[.bool q.num.g, .slice q.num.a q.num.n q.num.c, .bool q.den.g, .slice q.den.a q.den.n q.den.c] 30)).alloc (.cells #[.bool false, .slice none 0 0, .bool false, .slice none 0 0] 30)).cell? ⟨w.heap.size, 3, none⟩ = some (.slice q.den.a q.den.n q.den.c) := by simp [go_sem]
  have k1_0 : ((w.alloc (.cells #[.bool q.num.g, .slice q.num.a q.num.n q.num.c, .bool q.den.g, .slice q.den.a q.den.n q.den.c] 30)).alloc (.cells #[.bool false, .slice none 0 0, .bool false, .slice none 0 0] 30)).cell? ⟨w.heap.size + 1, 0, none⟩ = some (.bool false) := by simp [go_sem]
  have k1_1 : ((w.alloc (.cells #[.bool q.num.g, .slice q.num.a q.num.n q.num.c, .bool q.den.g, .slice q.den.a q.den.n q.den.c] 30)).alloc (.cells #[.bool false, .slice none 0 0, .bool false, .slice none 0 0] 30)).cell? ⟨w.heap.size + 1, 1, none⟩ = some (.slice none 0 0) := by simp [go_sem]
  have k1_2 : ((w.alloc (.cells #[.bool q.num.g, .slice q.num.a q.num.n q.num.c, .bool q.den.g, .slice q.den.a q.den.n q.den.c] 30)).alloc (.cells #[.bool false, .slice none 0 0, .bool false, .slice none 0 0] 30)).cell? ⟨w.heap.size + 1, 2, none⟩ = some (.bool false) := by simp [go_sem]
  have k1_3 : ((w.alloc (.cells #[.bool q.num.g, .slice q.num.a q.num.n q.num.c, .bool q.den.g, .slice q.den.a q.den.n q.den.c] 30)).alloc (.cells #[.bool false, .slice none 0 0, .bool false, .slice none 0 0] 30)).cell? ⟨w.heap.size + 1, 3, none⟩ = some (.slice none 0 0) := by simp [go_sem]
  have z1 : ∀ o, ((w.alloc (.cells #[.bool q.num.g, .slice q.num.a q.num.n q.num.c, .bool q.den.g, .slice q.den.a q.den.n q.den.c] 30)).alloc (.cells #[.bool false, .slice none 0 0, .bool false, .slice none 0 0] 30)).frozen? ⟨w.heap.size + 1, o, none⟩ = false := fun o => by simp [go_sem]
  have Q1 := hide ((unhide H1).later hb)
  have szw0 : w.heap.size + 2 ≤ ((w.alloc (.cells #[.bool q.num.g, .slice q.num.a q.num.n q.num.c, .bool q.den.g, .slice q.den.a q.den.n q.den.c] 30)).alloc (.cells #[.bool false, .slice none 0 0, .bool false, .slice none 0 0] 30)).heap.size := by simp
  have HB := hide hb
  clear hb
  generalize ((w.alloc (.cells #[.bool q.num.g, .slice q.num.a q.num.n q.num.c, .bool q.den.g, .slice q.den.a q.den.n q.den.c] 30)).alloc (.cells #[.bool false, .slice none 0 0, .bool false, .slice none 0 0] 30)) = w0 at *
  have ne0_1 : w.heap.size ≠ w.heap.size + 1 := by omega
  go_region_held3 (fun w' => w'.cell? ⟨w.heap.size, 0, none⟩ = some (.bool q.num.g) ∧ w'.cell? ⟨w.heap.size, 1, none⟩ = some (.slice q.num.a q.num.n q.num.c) ∧ w'.cell? ⟨w.heap.size, 2, none⟩ = some (.bool q.den.g) ∧ w'.cell? ⟨w.heap.size, 3, none⟩ = some (.slice q.den.a q.den.n q.den.c)) (with_reducible (first | exact ⟨k0_0, k0_1, k0_2, k0_3⟩ | exact ⟨cd_other k0_0, cd_other k0_1, cd_other k0_2, cd_other k0_3⟩ | exact ⟨cs_other (cs_other (cs_other (cs_other (k0_0) ne0_1) ne0_1) ne0_1) ne0_1, cs_other (cs_other (cs_other (cs_other (k0_1) ne0_1) ne0_1) ne0_1) ne0_1, cs_other (cs_other (cs_other (cs_other (k0_2) ne0_1) ne0_1) ne0_1) ne0_1, cs_other (cs_other (cs_other (cs_other (k0_3) ne0_1) ne0_1) ne0_1) ne0_1⟩ | fail))
    (first
    | (go_at_call_of 141 (Value.agg #[Value.bool q.num.g, Value.slice q.num.a q.num.n q.num.c]); refine (copyB q.num N _ ?_ (unhide K1)).mono ?_; exact (unhide Q1).1.later (Below.refl _ _).drew; rintro e w1 ⟨x1, l1, rfl, hb, o1, a1, n1⟩; have hbx : Below w0.heap.size w0 w1 := below_of_drew hb; have szw1 := hbx.size; replace z1 := fun o => frozen_later hbx (World.block_lt_of_cell? _ _ k1_0) (z1 o); replace k0_0 := cell_later hbx k0_0; replace k0_1 := cell_later hbx k0_1; replace k0_2 := cell_later hbx k0_2; replace k0_3 := cell_later hbx k0_3; replace k1_0 := cell_later hbx k1_0; replace k1_1 := cell_later hbx k1_1; replace k1_2 := cell_later hbx k1_2; replace k1_3 := cell_later hbx k1_3; replace Q1 := hide ((unhide Q1).later hbx); have o1x : AllOwn w0.heap.size w1.heap.size w1 [(x1, ⟨decide (N < 0), l1⟩)] := o1; have P1 := hide (outN_ow o1x a1 n1); have HBr := hide hbx; clear hbx hb o1 a1 n1 o1x)
    | (go_at_call_of 141 (Value.agg #[Value.bool q.den.g, Value.slice q.den.a q.den.n q.den.c]); refine (copyB q.den D _ ?_ (unhide K2)).mono ?_; exact (unhide Q1).2.later (Below.refl _ _); rintro e w2 ⟨x2, l2, rfl, hb, o2, a2, n2⟩; have hbx : Below w1.heap.size w1 w2 := hb; have szw2 := hbx.size; replace z1 := fun o => frozen_later hbx (World.block_lt_of_cell? _ _ k1_0) (z1 o); replace k0_0 := cell_later hbx k0_0; replace k0_1 := cell_later hbx k0_1; replace k0_2 := cell_later hbx k0_2; replace k0_3 := cell_later hbx k0_3; replace k1_0 := cell_later hbx k1_0; replace k1_1 := cell_later hbx k1_1; replace k1_2 := cell_later hbx k1_2; replace k1_3 := cell_later hbx k1_3; replace Q1 := hide ((unhide Q1).later hbx); replace P1 := hide ((unhide P1).later hbx); have P2 := hide (outN_ow o2 a2 n2); have HBr := hide (below_on (unhide HBr) hbx); clear hbx hb o2 a2 n2))
  replace HB := hide (below_on (unhide HB) (unhide HBr))
  clear HBr
  go_wp2
  refine bodyPost_ret (v := .agg #[.bool x1.g, .slice x1.a x1.n x1.c, .bool x2.g, .slice x2.a x2.n x2.c]) (by simp [results, Try.results202, go_sem, k1_0, k1_1, k1_2, k1_3]) rfl ?_
  obtain ⟨zs, us, oo, aa, m1, m2⟩ := (unhide P1).two (unhide P2) (by omega) (by omega)
  exact outQ_fin (q := ⟨x1, x2⟩) (R := w.heap.size + 1) (by omega) (unhide HB) (metQ_but (w5 := w2) (v := ⟨x1, x2⟩) (G := w.heap.size + 1)) (oo.wide (by omega) (by omega)) aa m1 m2

end Go.Proofs.Ytlmeokeanihhoaa
namespace Go.Proofs.Ytlmeokeanihhoaa
open Go.RowKit
set_option linter.unusedVariables false
set_option maxRecDepth 100000
set_option linter.unusedSimpArgs false

end Go.Proofs.Ytlmeokeanihhoaa
namespace Go.Proofs.Ytlmeokeanihhoaa
open Go.RowKit
set_option linter.unusedVariables false
set_option maxRecDepth 100000
set_option linter.unusedSimpArgs false

def AnsS (P : Bool) (N D N' D' : Int) (d : SD) (ok : Bool) : Prop :=
  (P = true ∧ ∃ xs us ys vs, Nm xs N.natAbs ∧ Nm us D.natAbs ∧ Nm ys N'.natAbs ∧ Nm vs D'.natAbs ∧ (((xs.length ≤ 40 ∧ us.length ≤ 40) ∧ (ys.length ≤ 40 ∧ vs.length ≤ 40) ∧ ok = true ∧ d = (⟨⟨⟨decide (N < 0), xs⟩, ⟨decide (D < 0), us⟩⟩, ⟨⟨decide (N' < 0), ys⟩, ⟨decide (D' < 0), vs⟩⟩⟩ : SD)) ∨ (¬ ((xs.length ≤ 40 ∧ us.length ≤ 40) ∧ (ys.length ≤ 40 ∧ vs.length ≤ 40)) ∧ ok = false ∧ d = (⟨⟨⟨false, []⟩, ⟨false, []⟩⟩, ⟨⟨false, []⟩, ⟨false, []⟩⟩⟩ : SD)))) ∨ (P = false ∧ ok = false ∧ d = (⟨⟨⟨false, []⟩, ⟨false, []⟩⟩, ⟨⟨false, []⟩, ⟨false, []⟩⟩⟩ : SD))
theorem AnsS.same {P : Bool} {N D N' D' : Int} {d d' : SD} {ok ok' : Bool} (h : AnsS P N D N' D' d ok) (k : AnsS P N D N' D' d' ok') : d = d' ∧ ok = ok' := by
  rcases h with ⟨p, xs, us, ys, vs, h1, h2, h3, h4, h5⟩ | ⟨p, h1, h2⟩ <;> rcases k with ⟨p', xs', us', ys', vs', k1, k2, k3, k4, k5⟩ | ⟨p', k1, k2⟩
  · obtain rfl := h1.same k1
    obtain rfl := h2.same k2
    obtain rfl := h3.same k3
    obtain rfl := h4.same k4
    rcases h5 with ⟨a, b, c, e⟩ | ⟨a, c, e⟩ <;> rcases k5 with ⟨a', b', c', e'⟩ | ⟨a', c', e'⟩
    · exact ⟨e.trans e'.symm, c.trans c'.symm⟩
    · exact absurd ⟨a, b⟩ a'
    · exact absurd ⟨a', b'⟩ a
    · exact ⟨e.trans e'.symm, c.trans c'.symm⟩
  · rw [p] at p'; cases p'
  · rw [p] at p'; cases p'
  · exact ⟨h2.trans k2.symm, h1.trans k1.symm⟩
theorem AnsS.lens {P : Bool} {N D N' D' : Int} {d : SD} {ok : Bool} (h : AnsS P N D N' D' d ok) : d.lo.num.xs.length ≤ 40 ∧ d.lo.den.xs.length ≤ 40 ∧ d.hi.num.xs.length ≤ 40 ∧ d.hi.den.xs.length ≤ 40 := by
  rcases h with ⟨p, xs, us, ys, vs, h1, h2, h3, h4, ⟨a, b, c, rfl⟩ | ⟨a, c, rfl⟩⟩ | ⟨p, h1, rfl⟩
  · exact ⟨a.1, a.2, b.1, b.2⟩
  · simp
  · simp
end Go.Proofs.Ytlmeokeanihhoaa
namespace Go.Proofs.Ytlmeokeanihhoaa
open Go.RowKit
set_option linter.unusedVariables false
set_option maxRecDepth 100000
set_option linter.unusedSimpArgs false

end Go.Proofs.Ytlmeokeanihhoaa
namespace Go.Proofs.Ytlmeokeanihhoaa
open Go.RowKit
set_option linter.unusedVariables false
set_option maxRecDepth 100000
set_option linter.unusedSimpArgs false

/-- The boxes of the least and the greatest so far. -/
structure Lst (w wr : World) (G1 G2 : Nat) (q1 q2 : QV) : Prop where
  a0 : wr.cell? ⟨G1, 0, none⟩ = some (.bool q1.num.g)
  a1 : wr.cell? ⟨G1, 1, none⟩ = some (.slice q1.num.a q1.num.n q1.num.c)
  a2 : wr.cell? ⟨G1, 2, none⟩ = some (.bool q1.den.g)
  a3 : wr.cell? ⟨G1, 3, none⟩ = some (.slice q1.den.a q1.den.n q1.den.c)
  b0 : wr.cell? ⟨G2, 0, none⟩ = some (.bool q2.num.g)
  b1 : wr.cell? ⟨G2, 1, none⟩ = some (.slice q2.num.a q2.num.n q2.num.c)
  b2 : wr.cell? ⟨G2, 2, none⟩ = some (.bool q2.den.g)
  b3 : wr.cell? ⟨G2, 3, none⟩ = some (.slice q2.den.a q2.den.n q2.den.c)
  f1 : ∀ o, wr.frozen? ⟨G1, o, none⟩ = false
  f2 : ∀ o, wr.frozen? ⟨G2, o, none⟩ = false
  r0 : wr.cell? ⟨w.heap.size + 1, 0, none⟩ = some (.bool false)
  r1 : wr.cell? ⟨w.heap.size + 1, 1, none⟩ = some (.slice none 0 0)
  r2 : wr.cell? ⟨w.heap.size + 1, 2, none⟩ = some (.bool false)
  r3 : wr.cell? ⟨w.heap.size + 1, 3, none⟩ = some (.slice none 0 0)
  r4 : wr.cell? ⟨w.heap.size + 1, 4, none⟩ = some (.bool false)
  r5 : wr.cell? ⟨w.heap.size + 1, 5, none⟩ = some (.slice none 0 0)
  r6 : wr.cell? ⟨w.heap.size + 1, 6, none⟩ = some (.bool false)
  r7 : wr.cell? ⟨w.heap.size + 1, 7, none⟩ = some (.slice none 0 0)
  fr : ∀ o, wr.frozen? ⟨w.heap.size + 1, o, none⟩ = false
  bel : Below w.heap.size w wr
theorem Lst.later {w wr wy : World} {G1 G2 : Nat} {q1 q2 : QV} (h : Lst w wr G1 G2 q1 q2) (hb : Below wr.heap.size wr wy) : Lst w wy G1 G2 q1 q2 :=
  ⟨cell_later hb h.a0, cell_later hb h.a1, cell_later hb h.a2, cell_later hb h.a3, cell_later hb h.b0, cell_later hb h.b1, cell_later hb h.b2, cell_later hb h.b3, fun o => frozen_later hb (World.block_lt_of_cell? _ _ h.a0) (h.f1 o), fun o => frozen_later hb (World.block_lt_of_cell? _ _ h.b0) (h.f2 o), cell_later hb h.r0, cell_later hb h.r1, cell_later hb h.r2, cell_later hb h.r3, cell_later hb h.r4, cell_later hb h.r5, cell_later hb h.r6, cell_later hb h.r7, fun o => frozen_later hb (World.block_lt_of_cell? _ _ h.r0) (h.fr o), below_on h.bel hb⟩
end Go.Proofs.Ytlmeokeanihhoaa
namespace Go.Proofs.Ytlmeokeanihhoaa
open Go.RowKit
set_option linter.unusedVariables false
set_option maxRecDepth 100000
set_option linter.unusedSimpArgs false

/-- In lowest terms, the denominator above 0. -/
structure Low (N D : Int) : Prop where
  pos : 0 < D
  co : Nat.gcd N.natAbs D.natAbs = 1
theorem Low.same {N D N' D' : Int} (h : Low N D) (k : Low N' D') (e : N * D' = N' * D) : N = N' ∧ D = D' := by
  have h1 : D.natAbs ∣ D'.natAbs := by
    have : D.natAbs ∣ N.natAbs * D'.natAbs := by rw [← Int.natAbs_mul, e, Int.natAbs_mul]; exact Nat.dvd_mul_left _ _
    exact Nat.Coprime.dvd_of_dvd_mul_left (by rw [Nat.Coprime, Nat.gcd_comm]; exact h.co) this
  have h2 : D'.natAbs ∣ D.natAbs := by
    have : D'.natAbs ∣ N'.natAbs * D.natAbs := by rw [← Int.natAbs_mul, ← e, Int.natAbs_mul]; exact Nat.dvd_mul_left _ _
    exact Nat.Coprime.dvd_of_dvd_mul_left (by rw [Nat.Coprime, Nat.gcd_comm]; exact k.co) this
  have h3 : D.natAbs = D'.natAbs := Nat.dvd_antisymm h1 h2
  have hp := h.pos
  have kp := k.pos
  have h4 : D = D' := by omega
  subst h4
  exact ⟨Int.eq_of_mul_eq_mul_right (by omega) e, rfl⟩
theorem low_low {N D : Int} (h : D ≠ 0) : Low (lowN N D) (lowD N D) := by
  refine ⟨lowD_pos h, ?_⟩
  have hg := gcd_pos_right (N := N) h
  have e1 : (lowN N D).natAbs = N.natAbs / Nat.gcd N.natAbs D.natAbs := by
    have h1 := lowN_abs N D
    unfold lowU at h1
    rw [← Int.natCast_ediv] at h1
    exact_mod_cast h1
  have e2 : (lowD N D).natAbs = D.natAbs / Nat.gcd N.natAbs D.natAbs := by
    have h1 := lowD_abs N D
    unfold lowD at h1 ⊢
    rw [← Int.natCast_ediv, Int.natAbs_natCast]
  rw [e1, e2]
  exact Nat.gcd_div_gcd_div_gcd_of_pos_right (by omega)
theorem low_cross {N D : Int} (h : 0 < D) : lowN N D * D = N * lowD N D := by
  have hg := gcd_pos_right (N := N) (show D ≠ 0 by omega)
  have d1 : ((Nat.gcd N.natAbs D.natAbs : Nat) : Int) ∣ (N.natAbs : Int) := by exact_mod_cast Nat.gcd_dvd_left _ _
  have d2 : ((Nat.gcd N.natAbs D.natAbs : Nat) : Int) ∣ (D.natAbs : Int) := by exact_mod_cast Nat.gcd_dvd_right _ _
  have m1 := Int.ediv_mul_cancel d1
  have m2 := Int.ediv_mul_cancel d2
  unfold lowN lowD lowU sU
  generalize (N.natAbs : Int) / ((Nat.gcd N.natAbs D.natAbs : Nat) : Int) = a at *
  generalize (D.natAbs : Int) / ((Nat.gcd N.natAbs D.natAbs : Nat) : Int) = b at *
  generalize ((Nat.gcd N.natAbs D.natAbs : Nat) : Int) = g at *
  rw [decide_eq_false (show ¬ D < 0 by omega)]
  have hD : D = b * g := by omega
  by_cases c : N < 0
  · have hN : N = -(a * g) := by omega
    rw [decide_eq_true c, if_pos (by rfl), hN, hD]
    simp only [Int.neg_mul, Int.mul_neg, Int.mul_comm, Int.mul_left_comm]
  · have hN : N = a * g := by omega
    rw [decide_eq_false c, if_neg (by simp), hN, hD]
    simp only [Int.mul_comm, Int.mul_left_comm]
end Go.Proofs.Ytlmeokeanihhoaa
namespace Go.Proofs.Ytlmeokeanihhoaa
open Go.RowKit
set_option linter.unusedVariables false
set_option maxRecDepth 100000
set_option linter.unusedSimpArgs false

set_option maxHeartbeats 4000000 in
theorem wholeS (n : Int) (w : World) (h0 : -9223372036854775808 ≤ n) (h1 : n ≤ 9223372036854775807) : Calls Try.prog 95 #[.int .i64 n] w (OutQ w n 1) := by
  have B0 := hide (show Below w.heap.size w (w.alloc (.cells #[.bool false, .slice none 0 0, .bool false, .slice none 0 0] 30)) from ((Below.refl _ _).alloc (by simp) _))
  go_enter Try.func95, Try.ntmps95
  go_wp2_with fail
  refine (ofS_v n _ h0 h1).mono ?_
  rintro e w1 ⟨x1, l1, rfl, hb, o1, a1, n1⟩
  have s1 : w.heap.size + 1 ≤ w1.heap.size := by have := hb.size; simp at this; omega
  replace o1 := o1.wide (lo' := w.heap.size + 1) (by simp) (Nat.le_refl _)
  have k0_0 : w1.cell? ⟨w.heap.size, 0, none⟩ = some (.bool false) := cell_later hb (by simp [go_sem])
  have k0_1 : w1.cell? ⟨w.heap.size, 1, none⟩ = some (.slice none 0 0) := cell_later hb (by simp [go_sem])
  have k0_2 : w1.cell? ⟨w.heap.size, 2, none⟩ = some (.bool false) := cell_later hb (by simp [go_sem])
  have k0_3 : w1.cell? ⟨w.heap.size, 3, none⟩ = some (.slice none 0 0) := cell_later hb (by simp [go_sem])
  have z0 : ∀ o, w1.frozen? ⟨w.heap.size, o, none⟩ = false := fun o => frozen_later hb (by simp) (by simp [go_sem])
  have P1 := hide (outN_ow o1 a1 n1)
  have HB := hide (below_on (unhide B0) hb)
  clear hb
  clear o1 a1 n1
  go_wp2_with fail
  refine (ofS_v 1 _ (by omega) (by omega)).mono ?_
  rintro e w2 ⟨x2, l2, rfl, hb, o2, a2, n2⟩
  have s2 := hb.size
  replace z0 := fun o => frozen_later hb (World.block_lt_of_cell? _ _ k0_0) (z0 o)
  replace k0_0 := cell_later hb k0_0
  replace k0_1 := cell_later hb k0_1
  replace k0_2 := cell_later hb k0_2
  replace k0_3 := cell_later hb k0_3
  replace P1 := hide ((unhide P1).later hb)
  have P2 := hide (outN_ow o2 a2 n2)
  replace HB := hide (below_on (unhide HB) hb)
  clear hb
  clear o2 a2 n2
  go_wp2
  refine bodyPost_ret (v := .agg #[.bool x1.g, .slice x1.a x1.n x1.c, .bool x2.g, .slice x2.a x2.n x2.c]) (by simp [results, Try.results95, go_sem, k0_0, k0_1, k0_2, k0_3]) rfl ?_
  obtain ⟨zs, us, oo, aa, m1, m2⟩ := (unhide P1).two (unhide P2) s1 s2
  exact outQ_fin (q := ⟨x1, x2⟩) (R := w.heap.size) (Nat.le_refl _) (unhide HB) (metQ_but (w5 := w2) (v := ⟨x1, x2⟩) (G := w.heap.size)) oo aa m1 m2

/-- Whether a span has 0 within, as the program asks. -/
def hN (d : SD) : Bool := (d.lo.num.g || decide (d.lo.num.xs.length = 0)) && !d.hi.num.g
/-- A good number is below 0 where its sign says so, 0 without limbs. -/
theorem goodB_neg {g : Bool} {xs : List Int} (h : goodB g xs = true) : (sv g xs < 0 ↔ g = true) ∧ (sv g xs = 0 ↔ xs.length = 0) := by
  obtain ⟨h1, h2, h3, h4⟩ := good_parts h
  have hv := val_nonneg h1
  have hz := val_zero_iff h1 h2
  have hl : xs = [] ↔ xs.length = 0 := List.length_eq_zero_iff.symm
  unfold sv
  cases g
  · rw [if_neg (by simp)]
    exact ⟨⟨fun e => by omega, fun e => by cases e⟩, hz.trans hl⟩
  · rw [if_pos rfl]
    have h5 : xs ≠ [] := fun e => by cases h4 e
    have h6 : val xs ≠ 0 := fun e => h5 (hz.1 e)
    exact ⟨⟨fun _ => rfl, fun _ => by omega⟩, ⟨fun e => by omega, fun e => absurd (hl.2 e) h5⟩⟩
end Go.Proofs.Ytlmeokeanihhoaa
namespace Go.Proofs.Ytlmeokeanihhoaa
open Go.RowKit
set_option linter.unusedVariables false
set_option maxRecDepth 100000
set_option linter.unusedSimpArgs false

/-- What is read is this fraction. -/
structure IsD (c : Int × Int) (d : QD) : Prop where
  g1 : d.num.g = decide (c.1 < 0)
  n1 : Nm d.num.xs c.1.natAbs
  g2 : d.den.g = decide (c.2 < 0)
  n2 : Nm d.den.xs c.2.natAbs
theorem IsD.same {c : Int × Int} {d d' : QD} (h : IsD c d) (k : IsD c d') : d = d' := by
  obtain ⟨⟨g, xs⟩, ⟨g', us⟩⟩ := d
  obtain ⟨⟨q, ys⟩, ⟨q', vs⟩⟩ := d'
  have e1 : g = q := h.g1.trans k.g1.symm
  have e2 : xs = ys := h.n1.same k.n1
  have e3 : g' = q' := h.g2.trans k.g2.symm
  have e4 : us = vs := h.n2.same k.n2
  rw [e1, e2, e3, e4]
/-- .. these fractions. -/
def IsL : List (Int × Int) → List QD → Prop
  | [], [] => True
  | c :: cs, d :: ds => IsD c d ∧ IsL cs ds
  | _, _ => False
theorem IsL.same : ∀ {cs : List (Int × Int)} {ds es : List QD}, IsL cs ds → IsL cs es → ds = es
  | [], [], [], _, _ => rfl
  | c :: cs, d :: ds, e :: es, h, k => by rw [h.1.same k.1, IsL.same h.2 k.2]
  | [], _ :: _, _, h, _ => h.elim
  | [], [], _ :: _, _, k => k.elim
  | _ :: _, [], _, h, _ => h.elim
  | _ :: _, _ :: _, [], _, k => k.elim
theorem IsL.len : ∀ {cs : List (Int × Int)} {ds : List QD}, IsL cs ds → cs.length = ds.length
  | [], [], _ => rfl
  | _ :: _, _ :: _, h => by simp [IsL.len h.2]
  | [], _ :: _, h => h.elim
  | _ :: _, [], h => h.elim
theorem IsL.append : ∀ {cs cs' : List (Int × Int)} {ds ds' : List QD}, IsL cs ds → IsL cs' ds' → IsL (cs ++ cs') (ds ++ ds')
  | [], _, [], _, _, k => k
  | _ :: _, _, _ :: _, _, h, k => ⟨h.1, IsL.append h.2 k⟩
  | [], _, _ :: _, _, h, _ => h.elim
  | _ :: _, _, [], _, h, _ => h.elim
def AnsP (P : Bool) (cs : List (Int × Int)) (ds : List QD) (ok : Bool) : Prop := (P = true ∧ ∃ es, IsL cs es ∧ ((gP es = true ∧ ok = true ∧ ds = es) ∨ (gP es = false ∧ ok = false ∧ ds = []))) ∨ (P = false ∧ ok = false ∧ ds = [])
theorem AnsP.same {P : Bool} {cs : List (Int × Int)} {d d' : List QD} {ok ok' : Bool} (h : AnsP P cs d ok) (k : AnsP P cs d' ok') : d = d' ∧ ok = ok' := by
  rcases h with ⟨p, es, h1, h2⟩ | ⟨p, h1, h2⟩ <;> rcases k with ⟨p', es', k1, k2⟩ | ⟨p', k1, k2⟩
  · obtain rfl := h1.same k1
    rcases h2 with ⟨a, b, c⟩ | ⟨a, b, c⟩ <;> rcases k2 with ⟨a', b', c'⟩ | ⟨a', b', c'⟩
    · exact ⟨c.trans c'.symm, b.trans b'.symm⟩
    · rw [a] at a'; cases a'
    · rw [a] at a'; cases a'
    · exact ⟨c.trans c'.symm, b.trans b'.symm⟩
  · rw [p] at p'; cases p'
  · rw [p] at p'; cases p'
  · exact ⟨h2.trans k2.symm, h1.trans k1.symm⟩
/-- A good polynomial's fractions. -/
theorem gP_mem {ds : List QD} (h : gP ds = true) : ds.length ≤ 7 ∧ ∀ d ∈ ds, gQ d = true ∧ sm d = true := by
  unfold gP at h
  simp only [Bool.and_eq_true, decide_eq_true_eq] at h
  refine ⟨h.1.1, fun d hd => ?_⟩
  have h2 := List.all_eq_true.1 h.1.2 d hd
  unfold gC at h2
  simp only [Bool.and_eq_true] at h2
  exact ⟨h2.2, h2.1⟩
theorem goodB_of {g : Bool} {xs : List Int} {V : Int} (h : Nm xs V.natAbs) (hl : xs.length ≤ 40) (hg : g = decide (V < 0)) : goodB g xs = true := by
  unfold goodB
  have ha : xs.all limbOk = true := List.all_eq_true.2 (fun x hx => by have := h.ok x hx; simp [limbOk]; omega)
  rw [ha, Bool.true_and]
  by_cases h0 : xs.length = 0
  · rw [if_pos h0, hg]
    have := h.nil_iff.1 (List.length_eq_zero_iff.1 h0)
    simp
    omega
  · rw [if_neg h0, decide_eq_true hl, Bool.true_and]
    have hne : xs ≠ [] := fun e => h0 (by rw [e]; rfl)
    have hx := List.dropLast_concat_getLast hne
    have hz : xs.getLast hne ≠ 0 := fun e => by
      have h1 := h.tr
      rw [← hx, e, trim_snoc_zero] at h1
      have h2 := congrArg List.length h1
      have h3 := trim_len xs.dropLast
      simp at h2
      rw [h2] at h3
      simp at h3
      omega
    have e : xs.getD (xs.length - 1) 0 = xs.getLast hne := by
      rw [List.getLast_eq_getElem, List.getD_eq_getElem?_getD, List.getElem?_eq_getElem (by omega)]
      rfl
    rw [e]
    simpa using hz
/-- Fractions in lowest terms with few limbs are good. -/
theorem gQ_of {c : Int × Int} {d : QD} (h : IsD c d) (l : Low c.1 c.2) (hs : sm d = true) : gQ d = true := by
  unfold sm at hs
  simp only [Bool.and_eq_true, decide_eq_true_eq] at hs
  have hp := l.pos
  have g2 : d.den.g = false := by rw [h.g2]; exact decide_eq_false (by omega)
  have nz : d.den.xs.length ≠ 0 := fun e => by
    have := h.n2.nil_iff.1 (List.length_eq_zero_iff.1 e)
    omega
  have gb : ∀ {g : Bool} {xs : List Int} {V : Int}, Nm xs V.natAbs → xs.length ≤ 6 → g = decide (V < 0) → goodB g xs = true := fun {g xs V} hn hl hg => by
    exact goodB_of hn (by omega) hg
  unfold gQ goodR
  rw [gb h.n1 hs.1 h.g1, gb h.n2 hs.2 h.g2, g2, decide_eq_true nz]
  have e1 : (val d.num.xs).toNat = c.1.natAbs := by rw [h.n1.v]; omega
  have e2 : (val d.den.xs).toNat = c.2.natAbs := by rw [h.n2.v]; omega
  have e3 : decide (Nat.gcd (val d.num.xs).toNat (val d.den.xs).toNat = 1) = true := decide_eq_true (by rw [e1, e2]; exact l.co)
  rw [e3]
  rfl
def LowL (cs : List (Int × Int)) : Prop := ∀ c ∈ cs, Low c.1 c.2
theorem gP_fits : ∀ {cs : List (Int × Int)} {ds : List QD}, IsL cs ds → LowL cs → gP ds = ((decide (ds.length ≤ 7) && ds.all sm) && lastOk ds) := fun {cs ds} h l => by
  rw [gP_parts]
  have ha : ds.all sm = true → ds.all gQ = true := by
    intro hs
    rw [List.all_eq_true] at hs ⊢
    revert cs
    induction ds with
    | nil => intro cs _ _ d hd; cases hd
    | cons e ds ih =>
      intro cs h l d hd
      match cs, h with
      | c :: cs, h =>
        rcases List.mem_cons.1 hd with rfl | hd
        · exact gQ_of h.1 (l c List.mem_cons_self) (hs d List.mem_cons_self)
        · exact ih (fun x hx => hs x (List.mem_cons_of_mem _ hx)) h.2 (fun x hx => l x (List.mem_cons_of_mem _ hx)) d hd
  cases hs : ds.all sm
  · simp
  · rw [ha hs, Bool.and_true]
theorem lenPQ_le {l : List (QV × QD)} {B : Nat} (h : ∀ p ∈ l, p.1.num.n ≤ B ∧ p.1.den.n ≤ B) : lenPQ l ≤ 2 * B * l.length := by
  induction l with
  | nil => simp [lenPQ]
  | cons p l ih =>
    have h1 := h p List.mem_cons_self
    have h2 := ih (fun q hq => h q (List.mem_cons_of_mem _ hq))
    show p.1.num.n + p.1.den.n + lenPQ l ≤ 2 * B * (l.length + 1)
    rw [Nat.mul_add, Nat.mul_one]
    omega
theorem row_later {w w' : World} {G n : Nat} {us : List (QV × QD)} (h : ∃ M, w.ownsRow G 30 4 (.slice (some ⟨G, 0, none⟩) n n) n M ∧ ∀ i (h : i < us.length), M[i * 4]? = some (.bool us[i].1.num.g) ∧ M[i * 4 + 1]? = some (.slice us[i].1.num.a us[i].1.num.n us[i].1.num.c) ∧ M[i * 4 + 2]? = some (.bool us[i].1.den.g) ∧ M[i * 4 + 3]? = some (.slice us[i].1.den.a us[i].1.den.n us[i].1.den.c)) (hb : Below w.heap.size w w') : ∃ M, w'.ownsRow G 30 4 (.slice (some ⟨G, 0, none⟩) n n) n M ∧ ∀ i (h : i < us.length), M[i * 4]? = some (.bool us[i].1.num.g) ∧ M[i * 4 + 1]? = some (.slice us[i].1.num.a us[i].1.num.n us[i].1.num.c) ∧ M[i * 4 + 2]? = some (.bool us[i].1.den.g) ∧ M[i * 4 + 3]? = some (.slice us[i].1.den.a us[i].1.den.n us[i].1.den.c) := by
  obtain ⟨M, h1, h2⟩ := h
  exact ⟨M, ownsRow_later h1 hb, h2⟩
theorem one_bd2' {L : Nat} (h : 1 ≤ L) : Bd 1 L := (show Bd 1 1 from ⟨by decide⟩).mono h
theorem int_bd {n : Int} (h0 : 0 ≤ n) (h1 : n ≤ 1000) : Bd n 1 := ⟨by omega⟩
theorem good_of_mem {w : World} {a : Option Addr} {n c : Nat} {l : List (QV × QD)} (h : PArQ w a n c l) (hg : gP (l.map Prod.snd) = true) {y : QV × QD} (hy : y ∈ l) : IsGood w y.1 y.2 := isGood_of (h.rd y hy) ((gP_mem hg).2 y.2 (List.mem_map.2 ⟨y, hy, rfl⟩)).1
theorem isL_snoc {cs : List (Int × Int)} {us : List (QV × QD)} {N D : Int} {u : QV} {xs vs : List Int} (h : IsL cs (us.map Prod.snd)) (h1 : Nm xs N.natAbs) (h2 : Nm vs D.natAbs) : IsL (cs ++ [(N, D)]) ((us ++ [(u, (⟨⟨decide (N < 0), xs⟩, ⟨decide (D < 0), vs⟩⟩ : QD))]).map Prod.snd) := by
  rw [List.map_append]
  exact h.append ⟨⟨rfl, h1, rfl, h2⟩, trivial⟩
/-- An answer in memory of the call's own from block B on. -/
def RetPb (B : Nat) (w : World) (U : List QD → Bool → Prop) (e : Ending) (w' : World) : Prop := ∃ (a : Option Addr) (n c : Nat) (l : List (QV × QD)) (ok : Bool), e = .returned (.tuple #[.slice a n c, .bool ok]) ∧ Below w.heap.size w w' ∧ PRo B w'.heap.size w' a n c l ∧ U (l.map Prod.snd) ok
theorem PRo.none (B E : Nat) (w : World) : PRo B E w none 0 0 [] := ⟨rfl, by simp [lenPQ], fun p hp => (by cases hp), .inl rfl⟩
set_option maxHeartbeats 2000000 in
theorem whereP (a : Option Addr) (n c : Nat) (l : List (QV × QD)) (cs : List (Int × Int)) (B : Nat) (w : World) (h : PArQ w a n c l) (ho : PRo B w.heap.size w a n c l) (hl : IsL cs (l.map Prod.snd)) (low : LowL cs) :
    Calls Try.prog 174 #[.slice a n c, .func (Fn.func 116) #[] #[]] w (RetPb B w (AnsP true cs)) := by
  have PF := hide (fun w1 (k : PArQ w1 a n c l) => polyFits_v a n c l w1 k)
  have EG := hide (gP_fits hl low)
  have HS := hide h
  have HO := hide ho
  have HL := hide hl
  clear h ho hl low
  cases hb0 : ((decide (l.length ≤ 7) && (l.map Prod.snd).all sm) && lastOk (l.map Prod.snd))
  · rw [hb0] at PF
    have GF : Hid (gP (l.map Prod.snd) = false) := hide (by rw [unhide EG, List.length_map]; exact hb0)
    clear hb0
    go_enter Try.func174, Try.ntmps174
    go_wp2_with fail
    refine (unhide PF _ (unhide HS)).mono ?_
    rintro e w1 ⟨rfl, hb⟩
    have HB := hide hb
    clear hb PF
    go_wp2
    go_ret2
    exact ⟨none, 0, 0, [], false, rfl, unhide HB, PRo.none _ _ _, .inl ⟨rfl, _, unhide HL, .inr ⟨unhide GF, rfl, rfl⟩⟩⟩
  · rw [hb0] at PF
    have GF : Hid (gP (l.map Prod.snd) = true) := hide (by rw [unhide EG, List.length_map]; exact hb0)
    clear hb0
    go_enter Try.func174, Try.ntmps174
    go_wp2_with fail
    refine (unhide PF _ (unhide HS)).mono ?_
    rintro e w1 ⟨rfl, hb⟩
    have HB := hide hb
    replace HO := hide (((unhide HO).later hb).wide (Nat.le_refl _) hb.size)
    clear hb PF
    go_wp2
    go_ret2
    exact ⟨_, _, _, l, true, rfl, unhide HB, unhide HO, .inl ⟨rfl, _, unhide HL, .inl ⟨unhide GF, rfl, rfl⟩⟩⟩
end Go.Proofs.Ytlmeokeanihhoaa
namespace Go.Proofs.Ytlmeokeanihhoaa
open Go.RowKit
set_option linter.unusedVariables false
set_option maxRecDepth 100000
set_option linter.unusedSimpArgs false

/-- Good fractions by value. -/
def goods (ds : List QD) : List (Int × Int) := ds.map fun d => (nQ d, dQ d)
theorem goods_snoc {l : List (QV × QD)} {i : Nat} {y : QV × QD} (h : i < l.length) (hy : y = l[i]) : goods ((l.map Prod.snd).take (i + 1)) = goods ((l.map Prod.snd).take i) ++ [(nQ y.2, dQ y.2)] := by
  have e : (l.map Prod.snd)[i]? = some y.2 := by rw [List.getElem?_map, List.getElem?_eq_getElem h, ← hy]; rfl
  rw [List.take_add_one, e]
  unfold goods
  rw [List.map_append]
  rfl
set_option maxHeartbeats 4000000 in
theorem copyPo (a : Option Addr) (n c : Nat) (l : List (QV × QD)) (w : World) (h : PArQ w a n c l) (hg : gP (l.map Prod.snd) = true) :
    Calls Try.prog 175 #[.slice a n c] w fun e w' => ∃ us : List (QV × QD), e = .returned (.slice (some ⟨w.heap.size, 0, none⟩) n n) ∧ Below w.heap.size w w' ∧ w.heap.size < w'.heap.size ∧ POwQ (w.heap.size + 1) w'.heap.size w' w.heap.size n n us ∧ IsL (goods (l.map Prod.snd)) (us.map Prod.snd) ∧ ∀ p ∈ us, p.1.num.n ≤ 50 ∧ p.1.den.n ≤ 50 := by
  have HS := hide h
  have HN := hide h.len
  have HG := hide hg
  have n7 : n ≤ 7 := by have := (gP_mem hg).1; rw [List.length_map, h.len] at this; exact this
  clear h hg
  obtain ⟨i0, hi, hz0, hz1, hz2⟩ := info_parts Try.info30
  go_enter Try.func175, Try.ntmps175
  go_wp2_with (at_make; refine wpList_make_full _ rfl _ _ 54 rfl w.heap.size 30 i0 (.agg #[.bool false, .slice none 0 0, .bool false, .slice none 0 0]) 4 Try.underlying54 hi hz0 hz1 .i64 .i64 _ _ n rfl rfl (by omega) (by omega) ?c1 ?c2 ?c3 ?_)
  case c1 => rw [hz2]; omega
  case c2 => unfold maxLen; omega
  case c3 => exact Nat.le_refl _
  intro w1 hown hgrow
  have hb0 : Below w.heap.size w w1 := (Below.refl _ _).grown hgrow (Nat.le_refl _) (fun k e => by cases e)
  have P0 : Hid (∃ M, w1.ownsRow w.heap.size 30 4 (.slice (some ⟨w.heap.size, 0, none⟩) n n) n M) := hide ⟨_, hown⟩
  have z0 : w.heap.size < w1.heap.size := by
    rcases hown.2 with ⟨h', _⟩ | ⟨g', cap, cur, hv, _, hg, _⟩
    · simp at h'
    · simp only [Value.slice.injEq, Option.some.injEq, Addr.mk.injEq, and_true, true_and] at hv
      have := (Array.getElem?_eq_some_iff.1 hg).1
      omega
  clear hown hgrow hi hz0 hz1 hz2
  have HB1 := hide hb0
  clear hb0
  go_wp2
  go_loopw [11] (fun iv wr => ∃ (i : Nat) (us : List (QV × QD)), i ≤ n ∧ iv = .int .i64 i ∧ us.length = i ∧ w.heap.size < wr.heap.size ∧ Hid (IsL (goods ((l.map Prod.snd).take i)) (us.map Prod.snd)) ∧ Hid (∃ M, wr.ownsRow w.heap.size 30 4 (.slice (some ⟨w.heap.size, 0, none⟩) n n) n M ∧ ∀ i (h : i < us.length), M[i * 4]? = some (.bool us[i].1.num.g) ∧ M[i * 4 + 1]? = some (.slice us[i].1.num.a us[i].1.num.n us[i].1.num.c) ∧ M[i * 4 + 2]? = some (.bool us[i].1.den.g) ∧ M[i * 4 + 3]? = some (.slice us[i].1.den.a us[i].1.den.n us[i].1.den.c)) ∧ Hid (AllOwn (w.heap.size + 1) wr.heap.size wr (zipPQ us)) ∧ Hid (∀ p ∈ us, AllAr wr [(p.1.num, p.2.num), (p.1.den, p.2.den)]) ∧ Hid (∀ p ∈ us, p.1.num.n ≤ 50 ∧ p.1.den.n ≤ 50) ∧ Hid (Below w.heap.size w wr)) (fun iv _ => n - (intOf iv).toNat)
  case atStart =>
    obtain ⟨M, hM⟩ := unhide P0
    exact ⟨0, [], Nat.zero_le _, rfl, rfl, z0, hide trivial, hide ⟨M, hM, fun i hi => absurd hi (by simp)⟩, hide (AllOwn.nil _ _ _), hide (fun p hp => by cases hp), hide (fun p hp => by cases hp), HB1⟩
  case round =>
    clear P0 HB1 z0
    obtain ⟨i, us, hi, rfl, hu, z1, ED, EM, OO, AA, LS, HB⟩ := hrel
    by_cases hlt : i < n
    · have hlt' : (i : Int) < (n : Int) := by omega
      rcases (unhide HS).at_ with e | ⟨b, off, rfl, hb, hc⟩
      · exact absurd (unhide HN) (by rw [e]; simp; omega)
      have e0 := hc i (by rw [unhide HN]; exact hlt)
      obtain ⟨y, hy⟩ : ∃ y, y = l[i]'(by rw [unhide HN]; exact hlt) := ⟨_, rfl⟩
      rw [← hy] at e0
      have MY : Hid (y ∈ l) := hide (by rw [hy]; exact List.getElem_mem _)
      have TK := hide (goods_snoc (by rw [unhide HN]; exact hlt) hy)
      clear hy
      have E0 : wr.cell? ⟨b, off + i * 4, none⟩ = some (.bool y.1.num.g) := ((unhide HB).cell (p := ⟨b, off + i * 4, none⟩) hb).trans (e0.1)
      have E1 : wr.cell? ⟨b, off + i * 4 + 1, none⟩ = some (.slice y.1.num.a y.1.num.n y.1.num.c) := ((unhide HB).cell (p := ⟨b, off + i * 4 + 1, none⟩) hb).trans (e0.2.1)
      have E2 : wr.cell? ⟨b, off + i * 4 + 2, none⟩ = some (.bool y.1.den.g) := ((unhide HB).cell (p := ⟨b, off + i * 4 + 2, none⟩) hb).trans (e0.2.2.1)
      have E3 : wr.cell? ⟨b, off + i * 4 + 3, none⟩ = some (.slice y.1.den.a y.1.den.n y.1.den.c) := ((unhide HB).cell (p := ⟨b, off + i * 4 + 3, none⟩) hb).trans (e0.2.2.2)
      clear e0 hc
      have JY := hide ((good_of_mem (unhide HS) (unhide HG) (unhide MY)).later (unhide HB))
      have al : Below wr.heap.size wr (wr.alloc (.cells #[.bool y.1.num.g, .slice y.1.num.a y.1.num.n y.1.num.c, .bool y.1.den.g, .slice y.1.den.a y.1.den.n y.1.den.c] 30)) := (Below.refl _ _).alloc (Nat.le_refl _) _
      have JA := hide ((unhide JY).later al)
      clear al
      go_wp2_with fail
      refine (copyQ y.1 (nQ y.2) (dQ y.2) _ (unhide JA).is ((unhide JY).kn.mono (by omega)) ((unhide JY).kd.mono (by omega))).mono ?_
      rintro e w2 ⟨u, lu, lv, rfl, hb2, o2, a2, m1, m2⟩
      have hbx := ba hb2
      have sz2 := hbx.size
      have sz3 := hb2.size
      have AU := hide (o2.wide (lo' := wr.heap.size) (by simp) (Nat.le_refl _))
      have AV := hide a2
      have NU := hide (And.intro m1 m2)
      replace HB := hide (below_on (unhide HB) hbx)
      replace EM := hide (row_later (unhide EM) hbx)
      replace OO := hide ((unhide OO).later hbx)
      replace AA := hide (fun p hp => ((unhide AA) p hp).later hbx)
      obtain ⟨M, hM, hL⟩ := unhide EM
      obtain ⟨x_0, old0⟩ : ∃ x, w2.cell? ⟨w.heap.size, i * 4, none⟩ = some x := ⟨_, (hM.cellAt _ (by omega)).trans (List.getElem?_eq_getElem (by have := hM.1; omega))⟩
      obtain ⟨x_1, old1⟩ : ∃ x, w2.cell? ⟨w.heap.size, i * 4 + 1, none⟩ = some x := ⟨_, (hM.cellAt _ (by omega)).trans (List.getElem?_eq_getElem (by have := hM.1; omega))⟩
      obtain ⟨x_2, old2⟩ : ∃ x, w2.cell? ⟨w.heap.size, i * 4 + 2, none⟩ = some x := ⟨_, (hM.cellAt _ (by omega)).trans (List.getElem?_eq_getElem (by have := hM.1; omega))⟩
      obtain ⟨x_3, old3⟩ : ∃ x, w2.cell? ⟨w.heap.size, i * 4 + 3, none⟩ = some x := ⟨_, (hM.cellAt _ (by omega)).trans (List.getElem?_eq_getElem (by have := hM.1; omega))⟩
      have fr : ∀ o, w2.frozen? ⟨w.heap.size, o, none⟩ = false := fun o => hM.frozenAt o
      have HM := hide hM
      have HL := hide hL
      clear hM hL hbx hb2 o2 a2 m1 m2 EM E0 E1 E2 E3 sz3
      go_wp2
      go_roundw
      case rel =>
        have hM := unhide HM
        have bt : But w.heap.size (w.heap.size + 1) w2 ((((w2.setCell ⟨w.heap.size, i * 4, none⟩ (.bool u.num.g)).setCell ⟨w.heap.size, i * 4 + 1, none⟩ (.slice u.num.a u.num.n u.num.c)).setCell ⟨w.heap.size, i * 4 + 2, none⟩ (.bool u.den.g)).setCell ⟨w.heap.size, i * 4 + 3, none⟩ (.slice u.den.a u.den.n u.den.c)) := but_rowQ
        refine ⟨i + 1, us ++ [(u, (⟨⟨decide (nQ y.2 < 0), lu⟩, ⟨decide (dQ y.2 < 0), lv⟩⟩ : QD))], by omega, by go_num, by simp [hu], Nat.lt_of_lt_of_le (by omega) bt.size, hide ?_, hide ⟨_, (World.ownsRow.stored (World.ownsRow.stored (World.ownsRow.stored (World.ownsRow.stored hM (i * 4) (.bool u.num.g)).1 (i * 4 + 1) (.slice u.num.a u.num.n u.num.c)).1 (i * 4 + 2) (.bool u.den.g)).1 (i * 4 + 3) (.slice u.den.a u.den.n u.den.c)).1, set_rowQ hM.1 hlt hu (unhide HL)⟩, hide ?_, hide ?_, hide ?_, hide ?_⟩
        · rw [unhide TK]
          exact isL_snoc (unhide ED) (unhide NU).1 (unhide NU).2
        · rw [zipPQ_append, zipPQ_one]
          exact (((unhide OO).join (unhide AU) (by omega) (by omega)).but bt (.inr (Nat.le_refl _))).wide (Nat.le_refl _) bt.size
        · intro p hp x hx
          have own := ((unhide OO).join (unhide AU) (by omega) (by omega))
          have hAr : AllAr w2 (zipPQ us ++ [(u.num, ⟨decide (nQ y.2 < 0), lu⟩), (u.den, ⟨decide (dQ y.2 < 0), lv⟩)]) := fun x hx => by
            rcases List.mem_append.1 hx with hx | hx
            · obtain ⟨p, hp, hx⟩ := List.mem_flatMap.1 hx
              exact (unhide AA) p hp x hx
            · exact (unhide AV) x hx
          refine ar_fin bt own hAr (Nat.le_refl _) x ?_
          rcases List.mem_append.1 hp with hp | hp
          · exact List.mem_append_left _ (zipPQ_mem hp hx)
          · obtain rfl := List.mem_singleton.1 hp
            exact List.mem_append_right _ hx
        · intro p hp
          rcases List.mem_append.1 hp with hp | hp
          · exact (unhide LS) p hp
          · obtain rfl := List.mem_singleton.1 hp
            have q1 := (unhide NU).1.len_le (unhide JY).kn
            have q2 := (unhide NU).2.len_le (unhide JY).kd
            have q3 : lu.length = u.num.n := (unhide AV).head.ar.len
            have q4 : lv.length = u.den.n := (unhide AV).tail.head.ar.len
            show u.num.n ≤ 50 ∧ u.den.n ≤ 50
            omega
        · exact bt.below (unhide HB) (Nat.le_refl _) (by have := (unhide HB).size; omega)
      case measure => simp [intOf]; omega
    · obtain rfl : i = n := by omega
      have EL : Hid (IsL (goods (l.map Prod.snd)) (us.map Prod.snd)) := hide (by
        have h := unhide ED
        rw [List.take_of_length_le (by simp; have := unhide HN; omega)] at h
        exact h)
      have PO : Hid (POwQ (w.heap.size + 1) wr.heap.size wr w.heap.size i i us) := hide ⟨unhide EM, unhide OO, unhide AA, hu⟩
      have hsz := lenPQ_le (unhide LS)
      go_wp2
      go_ret
      exact ⟨us, rfl, unhide HB, z1, unhide PO, unhide EL, unhide LS⟩
end Go.Proofs.Ytlmeokeanihhoaa
namespace Go.Proofs.Ytlmeokeanihhoaa
open Go.RowKit
set_option linter.unusedVariables false
set_option maxRecDepth 100000
set_option linter.unusedSimpArgs false

/-- The cells of some fractions, one after another. -/
def flatC : List (QV × QD) → List Value
  | [] => []
  | p :: l => (Value.bool p.1.num.g : Value) :: (Value.slice p.1.num.a p.1.num.n p.1.num.c : Value) :: (Value.bool p.1.den.g : Value) :: (Value.slice p.1.den.a p.1.den.n p.1.den.c : Value) :: flatC l
theorem flatC_len (l : List (QV × QD)) : (flatC l).length = l.length * 4 := by
  induction l with
  | nil => rfl
  | cons p l ih => show (flatC l).length + 1 + 1 + 1 + 1 = (l.length + 1) * 4; omega
theorem flatC_append (l l' : List (QV × QD)) : flatC (l ++ l') = flatC l ++ flatC l' := by
  induction l with
  | nil => rfl
  | cons p l ih => simp only [List.cons_append, flatC, ih]
theorem flatC_get (l : List (QV × QD)) : ∀ i (h : i < l.length), (flatC l)[i * 4]? = some (.bool l[i].1.num.g) ∧ (flatC l)[i * 4 + 1]? = some (.slice l[i].1.num.a l[i].1.num.n l[i].1.num.c) ∧ (flatC l)[i * 4 + 2]? = some (.bool l[i].1.den.g) ∧ (flatC l)[i * 4 + 3]? = some (.slice l[i].1.den.a l[i].1.den.n l[i].1.den.c) := by
  induction l with
  | nil => intro i h; simp at h
  | cons p l ih =>
    intro i h
    match i with
    | 0 => exact ⟨rfl, rfl, rfl, rfl⟩
    | i + 1 =>
      have h1 := ih i (by simpa using h)
      have e : ∀ c, (i + 1) * 4 + c = (i * 4 + c) + 1 + 1 + 1 + 1 := fun c => by omega
      have e0 : (i + 1) * 4 = (i * 4) + 1 + 1 + 1 + 1 := by omega
      refine ⟨?_, ?_, ?_, ?_⟩
      · rw [e0]; exact h1.1
      · rw [e]; exact h1.2.1
      · rw [e]; exact h1.2.2.1
      · rw [e]; exact h1.2.2.2
theorem flatC_one (l : List (QV × QD)) : ∀ u ∈ flatC l, u.oneCell' = true := by
  induction l with
  | nil => intro u hu; cases hu
  | cons p l ih =>
    intro u hu
    simp only [flatC, List.mem_cons] at hu
    rcases hu with rfl | rfl | rfl | rfl | hu
    · rfl
    · rfl
    · rfl
    · rfl
    · exact ih u hu
/-- Where the cells lie, they can be appended. -/
theorem flatC_cells {w : World} {b off : Nat} {l : List (QV × QD)} (h : ∀ i (h : i < l.length), w.cell? ⟨b, off + i * 4, none⟩ = some (.bool l[i].1.num.g) ∧ w.cell? ⟨b, off + i * 4 + 1, none⟩ = some (.slice l[i].1.num.a l[i].1.num.n l[i].1.num.c) ∧ w.cell? ⟨b, off + i * 4 + 2, none⟩ = some (.bool l[i].1.den.g) ∧ w.cell? ⟨b, off + i * 4 + 3, none⟩ = some (.slice l[i].1.den.a l[i].1.den.n l[i].1.den.c)) : ∀ j u, (flatC l)[j]? = some u → w.cell? ((⟨b, off, none⟩ : Addr).add j) = some u := by
  intro j u hu
  have hj : j < (flatC l).length := (List.getElem?_eq_some_iff.1 hu).1
  rw [flatC_len] at hj
  have hi : j / 4 < l.length := by omega
  have h1 := h (j / 4) hi
  have h2 := flatC_get l (j / 4) hi
  have ad : (⟨b, off, none⟩ : Addr).add j = ⟨b, off + j, none⟩ := by
    unfold Addr.add
    split
    · rename_i e; subst e; rfl
    · rfl
  rw [ad]
  have hm : j % 4 = 0 ∨ j % 4 = 1 ∨ j % 4 = 2 ∨ j % 4 = 3 := by omega
  rcases hm with e | e | e | e
  · have ej : j = j / 4 * 4 := by omega
    have hv := h2.1
    rw [← ej] at hv
    rw [hv] at hu
    obtain rfl := Option.some.inj hu
    have hw := h1.1
    rw [show off + j / 4 * 4 = off + j by omega] at hw
    exact hw
  · have ej : j = j / 4 * 4 + 1 := by omega
    have hv := h2.2.1
    rw [← ej] at hv
    rw [hv] at hu
    obtain rfl := Option.some.inj hu
    have hw := h1.2.1
    rw [show off + j / 4 * 4 + 1 = off + j by omega] at hw
    exact hw
  · have ej : j = j / 4 * 4 + 2 := by omega
    have hv := h2.2.2.1
    rw [← ej] at hv
    rw [hv] at hu
    obtain rfl := Option.some.inj hu
    have hw := h1.2.2.1
    rw [show off + j / 4 * 4 + 2 = off + j by omega] at hw
    exact hw
  · have ej : j = j / 4 * 4 + 3 := by omega
    have hv := h2.2.2.2
    rw [← ej] at hv
    rw [hv] at hu
    obtain rfl := Option.some.inj hu
    have hw := h1.2.2.2
    rw [show off + j / 4 * 4 + 3 = off + j by omega] at hw
    exact hw
theorem ownsRow_at {w : World} {B g n c : Nat} {l : List (QV × QD)} (h : w.ownsRow B 30 4 (.slice (some ⟨g, 0, none⟩) n c) n (flatC l)) (hn : l.length = n) : PAtQ w (some ⟨g, 0, none⟩) l ∧ n ≤ c ∧ c ≤ maxLen := by
  have h2 := h.2
  rcases h2 with ⟨h', _⟩ | ⟨g', cap, cur, hv, h1, hg, r1, r2, r3⟩
  · simp at h'
  simp only [Value.slice.injEq, Option.some.injEq, Addr.mk.injEq, and_true, true_and] at hv
  obtain ⟨rfl, rfl⟩ := hv
  refine ⟨.inr ⟨g, 0, rfl, (Array.getElem?_eq_some_iff.1 hg).1, fun i hi => ?_⟩, r1, r2⟩
  have hc := flatC_get l i hi
  refine ⟨?_, ?_, ?_, ?_⟩ <;> rw [Nat.zero_add, h.cellAt _ (by omega)]
  · exact hc.1
  · exact hc.2.1
  · exact hc.2.2.1
  · exact hc.2.2.2
theorem owns_emptyQ (w : World) : (w.alloc (.cells #[] 30)).ownsRow w.heap.size 30 4 (.slice (some ⟨w.heap.size, 0, none⟩) 0 0) 0 [] := by
  refine ⟨rfl, .inr ⟨w.heap.size, 0, #[], rfl, Nat.le_refl _, ?_, Nat.le_refl _, Nat.zero_le _, rfl, rfl⟩⟩
  show (w.heap.push _)[w.heap.size]? = _
  simp
/-- Where noughts at the end are cut off. -/
structure CutAt (ds : List QD) (m : Nat) : Prop where
  le : m ≤ ds.length
  out : ∀ j (h : j < ds.length), m ≤ j → nz ds[j] = true
  top : ∀ h : 0 < m, nz (ds[m - 1]'(by omega)) = false
theorem CutAt.same {ds : List QD} {m m' : Nat} (h : CutAt ds m) (k : CutAt ds m') : m = m' := by
  have h1 := h.le
  have k1 := k.le
  rcases Nat.lt_trichotomy m m' with c | c | c
  · have e1 := k.top (by omega)
    have e2 := h.out (m' - 1) (by omega) (by omega)
    rw [e1] at e2; cases e2
  · exact c
  · have e1 := h.top (by omega)
    have e2 := k.out (m - 1) (by omega) (by omega)
    rw [e1] at e2; cases e2

theorem cutS_none (w : World) : Calls Try.prog 173 #[.slice none 0 0] w fun e w' => ∃ a' c', e = .returned (.slice a' 0 c') ∧ Below w.heap.size w w' ∧ PArQ w' a' 0 c' [] := by
  obtain ⟨i0, hi, hz0, hz1, hz2⟩ := info_parts Try.info30
  go_enter Try.func173, Try.ntmps173
  go_wp2
  refine wp_loop_rounds 1 ?_
  rw [rounds_succ]
  go_wp2_with (at_builtin; refine wpList_append_own_none rfl (.tmp 20) (.tmp 21) 54 rfl w.heap.size 30 i0 4 Try.underlying54 hi _ 0 [] rfl (owns_emptyQ w) rfl ?_)
  go_wp2
  go_ret
  exact ⟨_, _, rfl, (Below.refl _ _).alloc (Nat.le_refl _) _, ⟨.inl rfl, fun p hp => (by cases hp), rfl, Nat.le_refl _, Nat.zero_le _⟩⟩
theorem take_ar {w : World} {l : List (QV × QD)} (h : ∀ p ∈ l, AllAr w [(p.1.num, p.2.num), (p.1.den, p.2.den)]) (m : Nat) : ∀ p ∈ l.take m, AllAr w [(p.1.num, p.2.num), (p.1.den, p.2.den)] := fun p hp => h p (List.mem_of_mem_take hp)
set_option maxHeartbeats 4000000 in
theorem cutS_some (ad : Addr) (n c : Nat) (l : List (QV × QD)) (w : World) (h : PArQ w (some ad) n c l) (h1 : n ≤ 1048576) :
    Calls Try.prog 173 #[.slice (some ad) n c] w fun e w' => ∃ a' m c', e = .returned (.slice a' m c') ∧ Below w.heap.size w w' ∧ CutAt (l.map Prod.snd) m ∧ PArQ w' a' m c' (l.take m) := by
  obtain ⟨i0, hi, hz0, hz1, hz2⟩ := info_parts Try.info30
  have HS := hide h
  have HN := hide h.len
  have hcap := h.cap
  have htop := h.top
  clear h
  unfold maxLen at htop
  go_enter Try.func173, Try.ntmps173
  go_wp2
  go_loopw [0] (fun v wr => ∃ m : Nat, m ≤ n ∧ v = .slice (some ad) m c ∧ Hid (∀ j (h : j < (l.map Prod.snd).length), m ≤ j → nz (l.map Prod.snd)[j] = true) ∧ Hid (Below w.heap.size w wr)) (fun v _ => lenOf v)
  case atStart => exact ⟨n, Nat.le_refl _, rfl, hide (fun j hj hm => by simp at hj; rw [unhide HN] at hj; omega), hide (Below.refl _ _)⟩
  case round =>
    obtain ⟨m, hm, rfl, EZ, HB⟩ := hrel
    by_cases h0 : m = 0
    · subst h0
      have CA : Hid (CutAt (l.map Prod.snd) 0) := hide ⟨Nat.zero_le _, unhide EZ, fun hh => absurd hh (by omega)⟩
      go_wp2_with (at_builtin; refine wpList_append_own _ rfl (.tmp 20) (.tmp 21) 54 rfl wr.heap.size 30 i0 (.agg #[.bool false, .slice none 0 0, .bool false, .slice none 0 0]) 4 64 Try.underlying54 hi hz0 hz1 hz2 rfl (by decide) _ _ _ rfl (owns_emptyQ wr) ad 0 c [] rfl rfl (fun j u hh => by simp at hh) (fun u hh => by cases hh) (by unfold maxLen; omega) (by omega) (by simp) ?_)
      intro v' w1' hown hg hnil
      have hB := hide (below_alloc_grown hg (fun k e => by simp [Value.ownBlock] at e; omega))
      have hown' : w1'.ownsRow wr.heap.size 30 4 v' 0 (flatC []) := by simpa [flatC] using hown
      have HX : Hid (∃ g c', v' = .slice (some ⟨g, 0, none⟩) 0 c') := by
        rcases hown'.2 with ⟨h', _⟩ | ⟨g', cap', cur, h', _⟩
        · exact (hnil h').elim
        · exact hide ⟨g', cap', h'⟩
      obtain ⟨g, c', rfl⟩ := unhide HX
      have HO := hide (ownsRow_at hown' rfl)
      clear hown hown' hg hnil HX
      go_wp2
      go_ret
      exact ⟨_, 0, c', rfl, below_on (unhide HB) (unhide hB), unhide CA, ⟨.inl rfl, fun p hp => (by simp at hp), rfl, (unhide HO).2.1, (unhide HO).2.2⟩⟩
    · have b0 : decide ((0 : Int) < (m : Int)) = true := by simp; omega
      have hlx : m - 1 < n := by omega
      rcases (unhide HS).at_ with e | ⟨b, off, ea, hb, hc⟩
      · exact absurd (unhide HN) (by rw [e]; simp; omega)
      obtain rfl : ad = ⟨b, off, none⟩ := Option.some.inj ea
      have e0 := hc (m - 1) (by rw [unhide HN]; exact hlx)
      obtain ⟨y, hy⟩ : ∃ y, y = l[(m - 1)]'(by rw [unhide HN]; exact hlx) := ⟨_, rfl⟩
      rw [← hy] at e0
      have MY : Hid (y ∈ l) := hide (by rw [hy]; exact List.getElem_mem _)
      have EY := hide hy
      clear hy
      have E0 : wr.cell? ⟨b, off + (m - 1) * 4, none⟩ = some (.bool y.1.num.g) := ((unhide HB).cell (p := ⟨b, off + (m - 1) * 4, none⟩) hb).trans (e0.1)
      have E1 : wr.cell? ⟨b, off + (m - 1) * 4 + 1, none⟩ = some (.slice y.1.num.a y.1.num.n y.1.num.c) := ((unhide HB).cell (p := ⟨b, off + (m - 1) * 4 + 1, none⟩) hb).trans (e0.2.1)
      have E2 : wr.cell? ⟨b, off + (m - 1) * 4 + 2, none⟩ = some (.bool y.1.den.g) := ((unhide HB).cell (p := ⟨b, off + (m - 1) * 4 + 2, none⟩) hb).trans (e0.2.2.1)
      have E3 : wr.cell? ⟨b, off + (m - 1) * 4 + 3, none⟩ = some (.slice y.1.den.a y.1.den.n y.1.den.c) := ((unhide HB).cell (p := ⟨b, off + (m - 1) * 4 + 3, none⟩) hb).trans (e0.2.2.2)
      clear e0
      clear hc ea
      have R1 := hide (((unhide HS).rd y (unhide MY)).later (unhide HB))
      have i1 : (0 : Int) ≤ (m : Int) - 1 := by omega
      have i2 : (m : Int) - 1 < (m : Int) := by omega
      have i3 : ((m : Int) - 1).toNat = m - 1 := by omega
      have iw : IntKind.i64.wrap ((m : Int) - 1) = (m : Int) - 1 := by rw [IntKind.wrap_i64]; omega
      have CC := hide (fun w1 (k : AllAr w1 [(y.1.num, y.2.num), (y.1.den, y.2.den)]) => zeroSq y.1 y.2 w1 k)
      cases hz : nz y.2
      · rw [hz] at CC
        have CA : Hid (CutAt (l.map Prod.snd) m) := hide ⟨by simp; rw [unhide HN]; exact hm, unhide EZ, fun hh => by rw [List.getElem_map, ← unhide EY]; exact hz⟩
        go_wp2_with fail
        refine (unhide CC _ (unhide R1)).mono ?_
        rintro e w1 ⟨rfl, hb1⟩
        replace HB := hide (below_on (unhide HB) hb1)
        clear hb1 E0 E1 E2 E3 CC R1
        have HT := hide (show ∀ j u, (flatC (l.take m))[j]? = some u → (w1.alloc (.cells #[] 30)).cell? ((⟨b, off, none⟩ : Addr).add j) = some u from by
          rcases (unhide HS).at_ with e | ⟨b2, off2, ea, hb, hc⟩
          · intro j u hu; rw [e] at hu; simp [flatC] at hu
          · have ead := Option.some.inj ea
            rw [ead]
            refine flatC_cells (fun i hi => ?_)
            have hi' : i < l.length := by rw [List.length_take] at hi; omega
            have hcc := hc i hi'
            rw [List.getElem_take]
            have bl : Below w.heap.size w (w1.alloc (.cells #[] 30)) := (unhide HB).alloc (unhide HB).size _
            exact ⟨(bl.cell (p := ⟨b2, off2 + i * 4, none⟩) hb).trans (hcc.1), (bl.cell (p := ⟨b2, off2 + i * 4 + 1, none⟩) hb).trans (hcc.2.1), (bl.cell (p := ⟨b2, off2 + i * 4 + 2, none⟩) hb).trans (hcc.2.2.1), (bl.cell (p := ⟨b2, off2 + i * 4 + 3, none⟩) hb).trans (hcc.2.2.2)⟩)
        have hl4 : Hid ((flatC (l.take m)).length = m * 4) := hide (by rw [flatC_len, List.length_take, unhide HN]; omega)
        have hlt : Hid ((l.take m).length = m) := hide (by rw [List.length_take, unhide HN]; omega)
        go_wp2_with (at_builtin; refine wpList_append_own _ rfl (.tmp 20) (.tmp 21) 54 rfl w1.heap.size 30 i0 (.agg #[.bool false, .slice none 0 0, .bool false, .slice none 0 0]) 4 64 Try.underlying54 hi hz0 hz1 hz2 rfl (by decide) _ _ _ rfl (owns_emptyQ w1) (⟨b, off, none⟩ : Addr) m c (flatC (l.take m)) rfl (unhide hl4) (unhide HT) (flatC_one _) (by unfold maxLen; omega) (by omega) (by simp) ?_)
        intro v' w1' hown hg hnil
        have hB := hide (below_alloc_grown hg (fun k e => by simp [Value.ownBlock] at e; omega))
        have hown' : w1'.ownsRow w1.heap.size 30 4 v' m (flatC (l.take m)) := by first | exact hown | (simpa using hown)
        have HX : Hid (∃ g c', v' = .slice (some ⟨g, 0, none⟩) m c') := by
          rcases hown'.2 with ⟨h', _⟩ | ⟨g', cap', cur, h', _⟩
          · exact (hnil h').elim
          · exact hide ⟨g', cap', h'⟩
        obtain ⟨g, c', rfl⟩ := unhide HX
        have HO := hide (ownsRow_at hown' (unhide hlt))
        clear hown hown' hg hnil HX
        go_wp2
        go_ret
        exact ⟨_, m, c', rfl, below_on (unhide HB) (unhide hB), unhide CA, ⟨(unhide HO).1, fun p hp => ((unhide HS).rd p (List.mem_of_mem_take hp)).later (below_on (unhide HB) (unhide hB)), unhide hlt, (unhide HO).2.1, (unhide HO).2.2⟩⟩
      · rw [hz] at CC
        go_wp2_with fail
        refine (unhide CC _ (unhide R1)).mono ?_
        rintro e w1 ⟨rfl, hb1⟩
        have HB1 := hide (below_on (unhide HB) hb1)
        clear hb1 E0 E1 E2 E3 CC R1
        have q1 : (m : Int) - 1 ≤ (c : Int) := by omega
        have q2 : ((m - 1 : Nat) : Int) = (m : Int) - 1 := by omega
        go_wp2
        go_roundw
        case rel =>
          refine ⟨m - 1, by omega, by simp [i3], hide (fun j hj hmj => ?_), HB1⟩
          by_cases e : m ≤ j
          · exact unhide EZ j hj e
          · obtain rfl : j = m - 1 := by omega
            rw [List.getElem_map, ← unhide EY]
            exact hz
        case measure => simp [lenOf]; omega

theorem cutS_v (a : Option Addr) (n c : Nat) (l : List (QV × QD)) (w : World) (h : PArQ w a n c l) (h1 : n ≤ 1048576) (h2 : a = none → c = 0) :
    Calls Try.prog 173 #[.slice a n c] w fun e w' => ∃ a' m c', e = .returned (.slice a' m c') ∧ Below w.heap.size w w' ∧ CutAt (l.map Prod.snd) m ∧ PArQ w' a' m c' (l.take m) := by
  cases a with
  | some ad => exact cutS_some ad n c l w h h1
  | none =>
    have hc := h2 rfl
    have h3 := h.cap
    subst hc
    obtain rfl : n = 0 := by omega
    have hl : l = [] := List.length_eq_zero_iff.1 h.len
    subst hl
    refine (cutS_none w).mono ?_
    rintro e w' ⟨a', c', rfl, hb, hp⟩
    exact ⟨a', 0, c', rfl, hb, ⟨Nat.le_refl _, fun j hj => absurd hj (by simp), fun hh => absurd hh (by omega)⟩, hp⟩
/-- Numbers whose limbs lie in blocks of integers. -/
def Typ (w : World) (l : List (BV × BD)) : Prop := ∀ p ∈ l, ∃ lo hi, Own2 lo hi w p.1.a p.2.xs
theorem Typ.later {w w' : World} {l : List (BV × BD)} (h : Typ w l) (hb : Below w.heap.size w w') : Typ w' l := fun p hp => by
  obtain ⟨lo, hi, ho⟩ := h p hp
  exact ⟨lo, hi, ho.later hb⟩
theorem Typ.append {w : World} {l m : List (BV × BD)} (h : Typ w l) (k : Typ w m) : Typ w (l ++ m) := fun p hp => by
  rcases List.mem_append.1 hp with hp | hp
  · exact h p hp
  · exact k p hp
theorem AllOwn.typ {lo hi : Nat} {w : World} {l : List (BV × BD)} (h : AllOwn lo hi w l) : Typ w l := fun p hp => ⟨lo, hi, (h.own p hp).own⟩
/-- They stay where a row of fractions grows. -/
theorem Typ.grown {w w' : World} {l : List (BV × BD)} {v : Value} {n B : Nat} {M : List Value} (h : Typ w l) (hg : w.grownBy w' v.ownBlock) (hr : w.ownsRow B 30 4 v n M) : Typ w' l := fun p hp => by
  obtain ⟨lo, hi, ho⟩ := h p hp
  refine ⟨lo, hi, ?_⟩
  rcases ho with e | ⟨b, cur, e, h1, h2, hb, hc⟩
  · exact .inl e
  · refine .inr ⟨b, cur, e, h1, h2, ?_, hc⟩
    rw [hg.block b (Array.getElem?_eq_some_iff.1 hb).1 (fun eb => ?_)]
    · exact hb
    · rcases hr.2 with ⟨h', _⟩ | ⟨g', cap, cur', hv, _, hgt, _⟩
      · rw [h'] at eb; simp [Value.ownBlock] at eb
      · rw [hv] at eb
        simp only [Value.ownBlock, Option.some.injEq] at eb
        subst eb
        rw [hb] at hgt
        simp only [Option.some.injEq, Obj.cells.injEq] at hgt
        exact absurd hgt.2.1 (by decide)
theorem Typ.ar {w w' : World} {l : List (BV × BD)} (ho : Typ w' l) (ha : AllAr w l) : AllAr w' l := fun p hp => by
  obtain ⟨lo, hi, h⟩ := ho p hp
  exact ⟨(ha p hp).sg, ⟨h.sl, (ha p hp).ar.len, (ha p hp).ar.cap, (ha p hp).ar.top, (ha p hp).ar.addr⟩⟩
theorem zip_ar {w : World} {us : List (QV × QD)} (h : AllAr w (zipPQ us)) : ∀ p ∈ us, AllAr w [(p.1.num, p.2.num), (p.1.den, p.2.den)] := fun p hp x hx => h x (zipPQ_mem hp hx)
theorem ow_two' {lo hi lo' hi' : Nat} {w : World} {q : QV} {N D : Int} (h : Ow lo hi w q.num N) (k : Ow lo' hi' w q.den D) : ∃ xs us, Typ w [(q.num, ⟨decide (N < 0), xs⟩), (q.den, ⟨decide (D < 0), us⟩)] ∧ AllAr w [(q.num, ⟨decide (N < 0), xs⟩), (q.den, ⟨decide (D < 0), us⟩)] ∧ Nm xs N.natAbs ∧ Nm us D.natAbs := by
  obtain ⟨xs, o1, a1, n1⟩ := h
  obtain ⟨us, o2, a2, n2⟩ := k
  exact ⟨xs, us, o1.typ.append o2.typ, a1.append a2, n1, n2⟩
theorem owns_later {w w' : World} {B n : Nat} {v : Value} {M : List Value} (h : w.ownsRow B 30 4 v n M) (hb : Below w.heap.size w w') : w'.ownsRow B 30 4 v n M := by
  refine ⟨h.1, ?_⟩
  rcases h.2 with h' | ⟨g', cap, cur, hv, h1, hg, r⟩
  · exact .inl h'
  · refine .inr ⟨g', cap, cur, hv, h1, ?_, r⟩
    rw [hb.block g' (Array.getElem?_eq_some_iff.1 hg).1]
    exact hg
theorem owns_base {w : World} {B n : Nat} {v : Value} {M : List Value} (h : w.ownsRow B 30 4 v n M) : ∀ k, v.ownBlock = some k → B ≤ k := fun k e => by
  rcases h.2 with ⟨h', _⟩ | ⟨g', cap, cur, hv, h1, _⟩
  · rw [h'] at e; simp [Value.ownBlock] at e
  · rw [hv] at e
    simp only [Value.ownBlock, Option.some.injEq] at e
    omega
/-- A row that is the call's own, as an argument. -/
theorem owns_arg {w : World} {B n : Nat} {v : Value} {us : List (QV × QD)} (h : w.ownsRow B 30 4 v n (flatC us)) (hn : us.length = n) (ha : AllAr w (zipPQ us)) : ∃ a c, v = .slice a n c ∧ (a = none → c = 0) ∧ PArQ w a n c us := by
  rcases h.2 with ⟨h', h0⟩ | ⟨g, cap, cur, hv, h1, hg, r⟩
  · subst h0
    exact ⟨none, 0, h', fun _ => rfl, ⟨.inl (List.length_eq_zero_iff.1 hn), zip_ar ha, hn, Nat.le_refl _, Nat.zero_le _⟩⟩
  · subst hv
    have ho := ownsRow_at h hn
    exact ⟨_, cap, rfl, fun e => (by cases e), ⟨ho.1, zip_ar ha, hn, ho.2.1, ho.2.2⟩⟩
theorem sv_nm {g : Bool} {xs : List Int} (h : goodB g xs = true) : g = decide (sv g xs < 0) ∧ Nm xs (sv g xs).natAbs := by
  have hn := goodB_neg h
  obtain ⟨h1, h2, h3, h4⟩ := good_parts h
  have hv := val_nonneg h1
  refine ⟨?_, ⟨h1, h2, ?_⟩⟩
  · cases g
    · exact (decide_eq_false (fun e => by cases hn.1.1 e)).symm
    · exact (decide_eq_true (hn.1.2 rfl)).symm
  · unfold sv
    split <;> omega
theorem good_isD {d : QD} (hg : gQ d = true) : IsD (nQ d, dQ d) d ∧ d.num.xs.length ≤ 40 ∧ d.den.xs.length ≤ 40 := by
  have hp := goodR_parts hg
  have a := sv_nm hp.1
  have b := sv_nm hp.2
  exact ⟨⟨a.1, a.2, b.1, b.2⟩, (good_parts hp.1).2.2.1, (good_parts hp.2).2.2.1⟩
theorem ans_good {d0 d : QD} {ok : Bool} (hg : gQ d0 = true) (h : AnsQ true (nQ d0) (dQ d0) d ok) : d = d0 := by
  obtain ⟨hd, l1, l2⟩ := good_isD hg
  rcases h with ⟨_, xs, us, h1, h2, ⟨a, b, c, rfl⟩ | ⟨a, c, e⟩⟩ | ⟨p, _⟩
  · exact (IsD.mk rfl h1 rfl h2 : IsD (nQ d0, dQ d0) _).same hd
  · exact absurd ⟨by rw [h1.same hd.n1]; exact l1, by rw [h2.same hd.n2]; exact l2⟩ a
  · cases p
theorem Typ.slc {w w' : World} {l : List (BV × BD)} (ho : Typ w' l) (ha : AllSl w l) : AllSl w' l := fun p hp => by
  obtain ⟨lo, hi, h⟩ := ho p hp
  exact ⟨(ha p hp).sg, h.sl, (ha p hp).len⟩
theorem AllSl.append {w : World} {l m : List (BV × BD)} (h : AllSl w l) (k : AllSl w m) : AllSl w (l ++ m) := fun p hp => by
  rcases List.mem_append.1 hp with hp | hp
  · exact h p hp
  · exact k p hp
/-- A row that is the call's own, as it reads. -/
theorem owns_sl {w : World} {B n : Nat} {v : Value} {us : List (QV × QD)} (h : w.ownsRow B 30 4 v n (flatC us)) (hn : us.length = n) (ha : AllSl w (zipPQ us)) : ∃ a c, v = .slice a n c ∧ PSlQ w a us := by
  rcases h.2 with ⟨h', h0⟩ | ⟨g, cap, cur, hv, h1, hg, r⟩
  · subst h0
    exact ⟨none, 0, h', ⟨.inl (List.length_eq_zero_iff.1 hn), fun p hp x hx => ha x (zipPQ_mem hp hx)⟩⟩
  · subst hv
    have ho := ownsRow_at h hn
    exact ⟨_, cap, rfl, ⟨ho.1, fun p hp x hx => ha x (zipPQ_mem hp hx)⟩⟩
set_option maxHeartbeats 8000000 in
theorem fitsPS (a : Option Addr) (n c : Nat) (l : List (QV × QD)) (cs : List (Int × Int)) (w : World) (h : PArQ w a n c l) (hl : IsL cs (l.map Prod.snd)) :
    Calls Try.prog 120 #[.slice a n c] w (RetPr w (AnsP true cs)) := by
  obtain ⟨i0, hi, hz0, hz1, hz2⟩ := info_parts Try.info30
  have GS := hide (fun w1 (k : PArQ w1 a n c l) => GoodPS a n c l w1 k)
  have HS := hide h
  have HN := hide h.len
  have HL := hide hl
  clear h hl
  cases hg : gP (l.map Prod.snd)
  · rw [hg] at GS
    have HG := hide hg
    clear hg
    go_enter Try.func120, Try.ntmps120
    go_wp2_with fail
    refine (unhide GS _ (unhide HS)).mono ?_
    rintro e w1 ⟨rfl, hb⟩
    have HB := hide hb
    clear hb GS
    go_wp2
    go_ret2
    exact ⟨none, 0, 0, [], false, rfl, unhide HB, ⟨.inl rfl, fun p hp => (by cases hp)⟩, rfl, .inl ⟨rfl, _, unhide HL, .inr ⟨unhide HG, rfl, rfl⟩⟩⟩
  · rw [hg] at GS
    have HG := hide hg
    have n7 : n ≤ 7 := by have := (gP_mem hg).1; rw [List.length_map, unhide HN] at this; exact this
    clear hg
    go_enter Try.func120, Try.ntmps120
    go_wp2_with fail
    refine (unhide GS _ (unhide HS)).mono ?_
    rintro e w1 ⟨rfl, hb⟩
    have HB0 := hide hb
    clear hb GS
    go_wp2
    go_loopw [4, 14] (fun v iv wr => ∃ (i : Nat) (us : List (QV × QD)), i ≤ n ∧ iv = .int .i64 i ∧ us.length = i ∧ Hid (us.map Prod.snd = (l.map Prod.snd).take i) ∧ Hid (wr.ownsRow w.heap.size 30 4 v i (flatC us)) ∧ Hid (Typ wr (zipPQ us)) ∧ Hid (AllSl wr (zipPQ us)) ∧ Hid (Below w.heap.size w wr)) (fun _ iv _ => n - (intOf iv).toNat)
    case atStart => exact ⟨0, [], Nat.zero_le _, rfl, rfl, hide (by simp), hide ⟨rfl, .inl ⟨rfl, rfl⟩⟩, hide (fun p hp => by cases hp), hide (fun p hp => by cases hp), HB0⟩
    case round =>
      clear HB0
      obtain ⟨i, us, hi', rfl, hu, ED, OW, OO, AA, HB⟩ := hrel
      by_cases hlt : i < n
      · have hlt' : (i : Int) < (n : Int) := by omega
        have hlx : i < n := hlt
        rcases (unhide HS).at_ with e | ⟨b, off, rfl, hb, hc⟩
        · exact absurd (unhide HN) (by rw [e]; simp; omega)
        have e0 := hc i (by rw [unhide HN]; exact hlx)
        obtain ⟨y, hy⟩ : ∃ y, y = l[i]'(by rw [unhide HN]; exact hlx) := ⟨_, rfl⟩
        rw [← hy] at e0
        have MY : Hid (y ∈ l) := hide (by rw [hy]; exact List.getElem_mem _)
        have EY := hide hy
        clear hy
        have E0 : wr.cell? ⟨b, off + i * 4, none⟩ = some (.bool y.1.num.g) := ((unhide HB).cell (p := ⟨b, off + i * 4, none⟩) hb).trans (e0.1)
        have E1 : wr.cell? ⟨b, off + i * 4 + 1, none⟩ = some (.slice y.1.num.a y.1.num.n y.1.num.c) := ((unhide HB).cell (p := ⟨b, off + i * 4 + 1, none⟩) hb).trans (e0.2.1)
        have E2 : wr.cell? ⟨b, off + i * 4 + 2, none⟩ = some (.bool y.1.den.g) := ((unhide HB).cell (p := ⟨b, off + i * 4 + 2, none⟩) hb).trans (e0.2.2.1)
        have E3 : wr.cell? ⟨b, off + i * 4 + 3, none⟩ = some (.slice y.1.den.a y.1.den.n y.1.den.c) := ((unhide HB).cell (p := ⟨b, off + i * 4 + 3, none⟩) hb).trans (e0.2.2.2)
        clear e0
        clear hc
        have JY := hide ((good_of_mem (unhide HS) (unhide HG) (unhide MY)).later (unhide HB))
        have GY : Hid (gQ y.2 = true) := hide ((gP_mem (unhide HG)).2 y.2 (List.mem_map.2 ⟨y, unhide MY, rfl⟩)).1
        have TK : Hid ((l.map Prod.snd).take (i + 1) = (l.map Prod.snd).take i ++ [y.2]) := hide (by
          have h : (l.map Prod.snd)[i]? = some y.2 := by
            rw [List.getElem?_map, List.getElem?_eq_getElem (by rw [unhide HN]; exact hlx), ← unhide EY]
            rfl
          rw [List.take_add_one, h]
          rfl)
        have al : Below wr.heap.size wr (wr.alloc (.cells #[.bool y.1.num.g, .slice y.1.num.a y.1.num.n y.1.num.c, .bool y.1.den.g, .slice y.1.den.a y.1.den.n y.1.den.c] 30)) := (Below.refl _ _).alloc (Nat.le_refl _) _
        have JA := hide ((unhide JY).later al)
        clear al
        go_wp2_with fail
        refine (fitsQS y.1 _ _ _ (unhide JA).is (unhide JY).pos).mono ?_
        rintro e w2 ⟨v, dv, ok, rfl, hb2, ov, hu2⟩
        obtain rfl := ans_good (unhide GY) hu2
        have hbx := ba hb2
        have sz2 := hbx.size
        have a2 : Below w2.heap.size w2 ((w2.alloc (.cells #[.bool v.num.g, .slice v.num.a v.num.n v.num.c, .bool v.den.g, .slice v.den.a v.den.n v.den.c] 30)).alloc (.cells #[.bool v.num.g, .slice v.num.a v.num.n v.num.c, .bool v.den.g, .slice v.den.a v.den.n v.den.c] 30)) := ((Below.refl _ _).alloc (Nat.le_refl _) _).alloc (by simp) _
        have HB2 := hide (below_on (unhide HB) hbx)
        have HB3 := hide (below_on (unhide HB2) a2)
        have OW2 := hide (owns_later (owns_later (unhide OW) hbx) a2)
        have OO2 := hide ((((unhide OO).later hbx).append ov.typ).later a2)
        have AA2 := hide ((((unhide AA).later hbx).append ov.sl).later a2)
        have zv : w.heap.size ≤ w2.heap.size := (unhide HB2).size
        clear hb2 ov hu2 hbx a2 JY JA E0 E1 E2 E3 OW OO AA HB
        go_wp2_with (at_builtin; refine wpList_append_lies _ rfl (.tmp 23) (.tmp 25) 54 rfl w.heap.size 30 i0 (.agg #[.bool false, .slice none 0 0, .bool false, .slice none 0 0]) 4 64 Try.underlying54 hi hz0 hz1 hz2 rfl (by decide) _ i (flatC us) rfl (unhide OW2) ⟨w2.heap.size + 1, 0, none⟩ 1 1 [.bool v.num.g, .slice v.num.a v.num.n v.num.c, .bool v.den.g, .slice v.den.a v.den.n v.den.c] rfl rfl (World.news_of_block (cs := #[.bool v.num.g, .slice v.num.a v.num.n v.num.c, .bool v.den.g, .slice v.den.a v.den.n v.den.c]) (t := 30) (fr := (0, 0)) (by rw [show w2.heap.size + 1 = (w2.alloc (.cells #[.bool v.num.g, .slice v.num.a v.num.n v.num.c, .bool v.den.g, .slice v.den.a v.den.n v.den.c] 30)).heap.size from by simp]; exact heap_alloc_new _ _)) (by intro u' hu'; simp at hu'; rcases hu' with rfl | rfl | rfl | rfl <;> rfl) (by omega) (by unfold maxLen; omega) (by omega) (by simp; omega) _ rfl ?_)
        intro g cap w3 hown hgrow hor hlt3
        have OW3 : Hid (w3.ownsRow w.heap.size 30 4 (.slice (some ⟨g, 0, none⟩) (i + 1) cap) (i + 1) (flatC (us ++ [(v, y.2)]))) := hide (by rw [flatC_append]; exact hown)
        have OO3 := hide ((unhide OO2).grown hgrow (unhide OW2))
        have AA3 : Hid (AllSl w3 (zipPQ (us ++ [(v, y.2)]))) := hide (by rw [zipPQ_append, zipPQ_one]; exact Typ.slc (unhide OO3) (unhide AA2))
        have OO4 : Hid (Typ w3 (zipPQ (us ++ [(v, y.2)]))) := hide (by rw [zipPQ_append, zipPQ_one]; exact unhide OO3)
        have HB4 := hide ((unhide HB3).grown hgrow (unhide HB3).size (owns_base (unhide OW2)))
        have ED3 : Hid ((us ++ [(v, y.2)]).map Prod.snd = (l.map Prod.snd).take (i + 1)) := hide (by rw [unhide TK, List.map_append, unhide ED]; rfl)
        clear hown hgrow hor hlt3 OW2 OO2 AA2 HB2 HB3 OO3
        go_wp2
        go_roundw
        case rel => exact ⟨i + 1, us ++ [(v, y.2)], by omega, by go_num, by simp [hu], ED3, OW3, OO4, AA3, HB4⟩
        case measure => simp [intOf]; omega
      · obtain rfl : i = n := by omega
        have EL : Hid (us.map Prod.snd = l.map Prod.snd) := hide (by have h := unhide ED; rw [List.take_of_length_le (by simp; rw [unhide HN]; exact Nat.le_refl _)] at h; exact h)
        obtain ⟨a3, c3, rfl, p3⟩ := owns_sl (unhide OW) hu (unhide AA)
        have P3 := hide p3
        clear p3 OW OO AA ED
        go_wp2
        go_ret2
        refine ⟨_, _, _, us, true, rfl, unhide HB, unhide P3, hu, ?_⟩
        rw [unhide EL]
        exact .inl ⟨rfl, _, unhide HL, .inl ⟨unhide HG, rfl, rfl⟩⟩

end Go.Proofs.Ytlmeokeanihhoaa
namespace Go.Proofs.Ytlmeokeanihhoaa
open Go.RowKit
set_option linter.unusedVariables false
set_option maxRecDepth 100000
set_option linter.unusedSimpArgs false

/-- A coefficient by value, 0 beyond the end. -/
def cf (ps : List (Int × Int)) (k : Nat) : Int × Int := (ps[k]?).getD (0, 1)
theorem cf_in {l : List (QV × QD)} {k : Nat} {y : QV × QD} (h : k < l.length) (hy : y = l[k]) : cf (goods (l.map Prod.snd)) k = (nQ y.2, dQ y.2) := by
  unfold cf goods
  rw [List.getElem?_map, List.getElem?_map, List.getElem?_eq_getElem h, ← hy]
  rfl
theorem cf_out {l : List (QV × QD)} {k : Nat} (h : ¬ k < l.length) : cf (goods (l.map Prod.snd)) k = (0, 1) := by
  unfold cf goods
  rw [List.getElem?_map, List.getElem?_map, List.getElem?_eq_none (by omega)]
  rfl
set_option maxHeartbeats 2000000 in
theorem coefS (a : Option Addr) (n c k : Nat) (l : List (QV × QD)) (w : World) (h : PArQ w a n c l) (hg : gP (l.map Prod.snd) = true) (hk : k ≤ 1048576) :
    Calls Try.prog 172 #[.slice a n c, .int .i64 k] w fun e w' => ∃ u : QV, e = .returned (.agg #[.bool u.num.g, .slice u.num.a u.num.n u.num.c, .bool u.den.g, .slice u.den.a u.den.n u.den.c]) ∧ Below w.heap.size w w' ∧ IsQ w' u (cf (goods (l.map Prod.snd)) k).1 (cf (goods (l.map Prod.snd)) k).2 := by
  have HS := hide h
  have HN := hide h.len
  have HG := hide hg
  clear h hg
  have B0 := hide (show Below w.heap.size w (w.alloc (.cells #[.bool false, .slice none 0 0, .bool false, .slice none 0 0] 30)) from (Below.refl _ _).alloc (Nat.le_refl _) _)
  by_cases hlt : k < n
  · have hlt' : (k : Int) < (n : Int) := by omega
    rcases (unhide HS).at_ with e | ⟨b, off, rfl, hb, hc⟩
    · exact absurd (unhide HN) (by rw [e]; simp; omega)
    have e0 := hc k (by rw [unhide HN]; exact hlt)
    obtain ⟨y, hy⟩ : ∃ y, y = l[k]'(by rw [unhide HN]; exact hlt) := ⟨_, rfl⟩
    rw [← hy] at e0
    have MY : Hid (y ∈ l) := hide (by rw [hy]; exact List.getElem_mem _)
    have CF := hide (cf_in (by rw [unhide HN]; exact hlt) hy)
    clear hy
    have E0 : (w.alloc (.cells #[.bool false, .slice none 0 0, .bool false, .slice none 0 0] 30)).cell? ⟨b, off + k * 4, none⟩ = some (.bool y.1.num.g) := ca_other (e0.1)
    have E1 : (w.alloc (.cells #[.bool false, .slice none 0 0, .bool false, .slice none 0 0] 30)).cell? ⟨b, off + k * 4 + 1, none⟩ = some (.slice y.1.num.a y.1.num.n y.1.num.c) := ca_other (e0.2.1)
    have E2 : (w.alloc (.cells #[.bool false, .slice none 0 0, .bool false, .slice none 0 0] 30)).cell? ⟨b, off + k * 4 + 2, none⟩ = some (.bool y.1.den.g) := ca_other (e0.2.2.1)
    have E3 : (w.alloc (.cells #[.bool false, .slice none 0 0, .bool false, .slice none 0 0] 30)).cell? ⟨b, off + k * 4 + 3, none⟩ = some (.slice y.1.den.a y.1.den.n y.1.den.c) := ca_other (e0.2.2.2)
    clear e0 hc
    have JY := hide (good_of_mem (unhide HS) (unhide HG) (unhide MY))
    go_enter Try.func172, Try.ntmps172
    go_wp2
    refine bodyPost_ret (v := .agg #[.bool y.1.num.g, .slice y.1.num.a y.1.num.n y.1.num.c, .bool y.1.den.g, .slice y.1.den.a y.1.den.n y.1.den.c]) (by simp [results, Try.results172, go_sem]) rfl ?_
    exact ⟨y.1, rfl, (Below.refl _ _).alloc (Nat.le_refl _) _, by rw [unhide CF]; exact (unhide JY).is.later ((Below.refl _ _).alloc (Nat.le_refl _) _)⟩
  · have hlt' : ¬ ((k : Int) < (n : Int)) := by omega
    have CF := hide (cf_out (l := l) (k := k) (by rw [unhide HN]; exact hlt))
    go_enter Try.func172, Try.ntmps172
    go_wp2_with fail
    refine (wholeS 0 _ (by omega) (by omega)).mono ?_
    rintro e w1 ⟨u, lu, lv, rfl, hb, o1, a1, m1, m2⟩
    have r0 : w1.cell? ⟨w.heap.size, 0, none⟩ = some (.bool false) := cell_later hb (by simp [go_sem])
    have r1 : w1.cell? ⟨w.heap.size, 1, none⟩ = some (.slice none 0 0) := cell_later hb (by simp [go_sem])
    have r2 : w1.cell? ⟨w.heap.size, 2, none⟩ = some (.bool false) := cell_later hb (by simp [go_sem])
    have r3 : w1.cell? ⟨w.heap.size, 3, none⟩ = some (.slice none 0 0) := cell_later hb (by simp [go_sem])
    have f0 : ∀ o, w1.frozen? ⟨w.heap.size, o, none⟩ = false := fun o => frozen_later hb (by simp) (by simp [go_sem])
    have HB := hide (below_on (unhide B0) hb)
    have O1 := hide (o1.wide (lo' := w.heap.size + 1) (by simp) (Nat.le_refl _))
    have A1 := hide a1
    have N1 := hide (And.intro m1 m2)
    clear hb o1 a1 m1 m2
    go_wp2
    refine bodyPost_ret (v := .agg #[.bool u.num.g, .slice u.num.a u.num.n u.num.c, .bool u.den.g, .slice u.den.a u.den.n u.den.c]) (by simp [results, Try.results172, go_sem, r0, r1, r2, r3]) rfl ?_
    have bt := metQ_but (w5 := w1) (v := u) (G := w.heap.size)
    refine ⟨u, rfl, bt.below (unhide HB) (Nat.le_refl _) (unhide HB).size, ?_⟩
    rw [unhide CF]
    exact isQ_of (ar_fin bt (unhide O1) (unhide A1) (Nat.le_refl _)) (unhide N1).1 (unhide N1).2
end Go.Proofs.Ytlmeokeanihhoaa
namespace Go.Proofs.Ytlmeokeanihhoaa
open Go.RowKit
set_option linter.unusedVariables false
set_option maxRecDepth 100000
set_option linter.unusedSimpArgs false

def sumAt (ps qs : List (Int × Int)) (k : Nat) : Int × Int := (lowN ((cf ps k).1 * (cf qs k).2 + (cf qs k).1 * (cf ps k).2) ((cf ps k).2 * (cf qs k).2), lowD ((cf ps k).1 * (cf qs k).2 + (cf qs k).1 * (cf ps k).2) ((cf ps k).2 * (cf qs k).2))
def sums (ps qs : List (Int × Int)) (m : Nat) : List (Int × Int) := (List.range m).map (sumAt ps qs)
theorem sums_snoc (ps qs : List (Int × Int)) (k : Nat) : sums ps qs (k + 1) = sums ps qs k ++ [sumAt ps qs k] := by
  unfold sums; rw [List.range_succ, List.map_append]; rfl
theorem cf_good {w : World} {a : Option Addr} {n c : Nat} {l : List (QV × QD)} (h : PArQ w a n c l) (hg : gP (l.map Prod.snd) = true) (k : Nat) : 0 < (cf (goods (l.map Prod.snd)) k).2 ∧ Bd (cf (goods (l.map Prod.snd)) k).1 40 ∧ Bd (cf (goods (l.map Prod.snd)) k).2 40 := by
  by_cases hlt : k < l.length
  · rw [cf_in hlt rfl]
    have j := good_of_mem h hg (List.getElem_mem hlt)
    exact ⟨j.pos, j.kn, j.kd⟩
  · rw [cf_out hlt]
    exact ⟨by decide, (int_bd (by omega) (by omega)).mono (by omega), one_bd2' (by omega)⟩
theorem sum_ne {x y : Int} (h : 0 < x) (k : 0 < y) : x * y ≠ 0 := by have := Int.mul_pos h k; omega
/-- Sums, noughts at the end cut off. -/
def OutCu (w : World) (cs : List (Int × Int)) (e : Ending) (w' : World) : Prop := ∃ (a : Option Addr) (m c : Nat) (us : List (QV × QD)), e = .returned (.slice a m c) ∧ Below w.heap.size w w' ∧ IsL cs (us.map Prod.snd) ∧ CutAt (us.map Prod.snd) m ∧ PArQ w' a m c (us.take m)
set_option maxHeartbeats 8000000 in
theorem addS4_v (a : Option Addr) (n c : Nat) (l : List (QV × QD)) (a' : Option Addr) (n' c' : Nat) (l' : List (QV × QD)) (w : World) (h : PArQ w a n c l) (h' : PArQ w a' n' c' l') (hg : gP (l.map Prod.snd) = true) (hg' : gP (l'.map Prod.snd) = true) :
    Calls Try.prog 121 #[.slice a n c, .slice a' n' c'] w (OutCu w (sums (goods (l.map Prod.snd)) (goods (l'.map Prod.snd)) (max n n'))) := by
  obtain ⟨i0, hi, hz0, hz1, hz2⟩ := info_parts Try.info30
  have HS := hide h
  have HS' := hide h'
  have HG := hide hg
  have HG' := hide hg'
  have n7 : n ≤ 7 := by have := (gP_mem hg).1; rw [List.length_map, h.len] at this; exact this
  have n7' : n' ≤ 7 := by have := (gP_mem hg').1; rw [List.length_map, h'.len] at this; exact this
  have CG0 := hide (cf_good h hg)
  have CG0' := hide (cf_good h' hg')
  obtain ⟨m, hm⟩ : ∃ m, m = max n n' := ⟨_, rfl⟩
  rw [← hm]
  have hm1 : n ≤ m ∧ n' ≤ m ∧ m ≤ 7 ∧ (m = n ∨ m = n') := by omega
  clear h h' hg hg' hm
  go_enter Try.func121, Try.ntmps121
  go_wp2
  go_loopw [5, 6] (fun v iv wr => ∃ (k : Nat) (us : List (QV × QD)), k ≤ m ∧ iv = .int .i64 k ∧ us.length = k ∧ Hid (IsL (sums (goods (l.map Prod.snd)) (goods (l'.map Prod.snd)) k) (us.map Prod.snd)) ∧ Hid (wr.ownsRow w.heap.size 30 4 v k (flatC us)) ∧ Hid (Typ wr (zipPQ us)) ∧ Hid (AllAr wr (zipPQ us)) ∧ Hid (Below w.heap.size w wr)) (fun _ iv _ => m - (intOf iv).toNat)
  case atStart => exact ⟨0, [], Nat.zero_le _, rfl, rfl, hide trivial, hide ⟨rfl, .inl ⟨rfl, rfl⟩⟩, hide (fun p hp => by cases hp), hide (fun p hp => by cases hp), hide (Below.refl _ _)⟩
  case round =>
    obtain ⟨k, us, hk, rfl, hu, ED, OW, OO, AA, HB⟩ := hrel
    have CG := hide (unhide CG0 k)
    have CG' := hide (unhide CG0' k)
    by_cases hlt : k < n
    · have g1 : decide ((k : Int) < (n : Int)) = true := by simp; omega
      go_wp2_with fail
      refine (coefS a n c k l _ ((unhide HS).later (unhide HB)) (unhide HG) (by omega)).mono ?_
      rintro e w1 ⟨x1, rfl, hb1, q1⟩
      have Q1 := hide q1
      replace HB := hide (below_on (unhide HB) hb1)
      replace OW := hide (owns_later (unhide OW) hb1)
      replace OO := hide ((unhide OO).later hb1)
      replace AA := hide ((unhide AA).later hb1)
      have sz1 := hb1.size
      clear hb1 q1
      go_wp2_with fail
      refine (coefS a' n' c' k l' _ ((unhide HS').later (unhide HB)) (unhide HG') (by omega)).mono ?_
      rintro e w2 ⟨x2, rfl, hb1, q2⟩
      have Q2 := hide q2
      replace Q1 := hide ((unhide Q1).later hb1)
      replace HB := hide (below_on (unhide HB) hb1)
      replace OW := hide (owns_later (unhide OW) hb1)
      replace OO := hide ((unhide OO).later hb1)
      replace AA := hide ((unhide AA).later hb1)
      have sz2 := hb1.size
      clear hb1 q2
      go_wp2_with fail
      refine (addQS x1 x2 _ _ _ _ _ (unhide Q1) (unhide Q2) (sum_ne (unhide CG).1 (unhide CG').1) ((unhide CG).2.1.mono (by omega)) ((unhide CG).2.2.mono (by omega)) ((unhide CG').2.1.mono (by omega)) ((unhide CG').2.2.mono (by omega))).mono ?_
      rintro e w3 ⟨u, rfl, hbx, o1, o2⟩
      have ou := ow_two' (N := (sumAt (goods (l.map Prod.snd)) (goods (l'.map Prod.snd)) k).1) (D := (sumAt (goods (l.map Prod.snd)) (goods (l'.map Prod.snd)) k).2) o1 o2
      obtain ⟨lu, lv, tu, au, m1, m2⟩ := ou
      have al : Below w3.heap.size w3 (w3.alloc (.cells #[.bool u.num.g, .slice u.num.a u.num.n u.num.c, .bool u.den.g, .slice u.den.a u.den.n u.den.c] 30)) := (Below.refl _ _).alloc (Nat.le_refl _) _
      have HB2 := hide (below_on (unhide HB) hbx)
      have HB3 := hide (below_on (unhide HB2) al)
      have OW2 := hide (owns_later (owns_later (unhide OW) hbx) al)
      have OO2 := hide ((((unhide OO).later hbx).append tu).later al)
      have AA2 := hide ((((unhide AA).later hbx).append au).later al)
      have NU := hide (And.intro m1 m2)
      have zv : w.heap.size ≤ w3.heap.size := (unhide HB2).size
      clear hbx o1 o2 tu au m1 m2 al OW OO AA HB Q1 Q2
      go_wp2_with (at_builtin; refine wpList_append_lies _ rfl (.tmp 19) (.tmp 27) 54 rfl w.heap.size 30 i0 (.agg #[.bool false, .slice none 0 0, .bool false, .slice none 0 0]) 4 64 Try.underlying54 hi hz0 hz1 hz2 rfl (by decide) _ k (flatC us) rfl (unhide OW2) ⟨w3.heap.size, 0, none⟩ 1 1 [.bool u.num.g, .slice u.num.a u.num.n u.num.c, .bool u.den.g, .slice u.den.a u.den.n u.den.c] rfl rfl (World.news_of_block (cs := #[.bool u.num.g, .slice u.num.a u.num.n u.num.c, .bool u.den.g, .slice u.den.a u.den.n u.den.c]) (t := 30) (fr := (0, 0)) (by show (w3.heap.push _)[w3.heap.size]? = _; simp)) (by intro u' hu'; simp at hu'; rcases hu' with rfl | rfl | rfl | rfl <;> rfl) (by omega) (by unfold maxLen; omega) (by omega) (by simp; omega) _ rfl ?_)
      intro g cap w4 hown hgrow hor hlt3
      have OW3 : Hid (w4.ownsRow w.heap.size 30 4 (.slice (some ⟨g, 0, none⟩) (k + 1) cap) (k + 1) (flatC (us ++ [(u, (⟨⟨decide ((sumAt (goods (l.map Prod.snd)) (goods (l'.map Prod.snd)) k).1 < 0), lu⟩, ⟨decide ((sumAt (goods (l.map Prod.snd)) (goods (l'.map Prod.snd)) k).2 < 0), lv⟩⟩ : QD))]))) := hide (by rw [flatC_append]; exact hown)
      have OO3 := hide ((unhide OO2).grown hgrow (unhide OW2))
      have AA3 : Hid (AllAr w4 (zipPQ (us ++ [(u, (⟨⟨decide ((sumAt (goods (l.map Prod.snd)) (goods (l'.map Prod.snd)) k).1 < 0), lu⟩, ⟨decide ((sumAt (goods (l.map Prod.snd)) (goods (l'.map Prod.snd)) k).2 < 0), lv⟩⟩ : QD))]))) := hide (by rw [zipPQ_append, zipPQ_one]; exact Typ.ar (unhide OO3) (unhide AA2))
      have OO4 : Hid (Typ w4 (zipPQ (us ++ [(u, (⟨⟨decide ((sumAt (goods (l.map Prod.snd)) (goods (l'.map Prod.snd)) k).1 < 0), lu⟩, ⟨decide ((sumAt (goods (l.map Prod.snd)) (goods (l'.map Prod.snd)) k).2 < 0), lv⟩⟩ : QD))]))) := hide (by rw [zipPQ_append, zipPQ_one]; exact unhide OO3)
      have HB4 := hide ((unhide HB3).grown hgrow (unhide HB3).size (owns_base (unhide OW2)))
      have ED3 : Hid (IsL (sums (goods (l.map Prod.snd)) (goods (l'.map Prod.snd)) (k + 1)) ((us ++ [(u, (⟨⟨decide ((sumAt (goods (l.map Prod.snd)) (goods (l'.map Prod.snd)) k).1 < 0), lu⟩, ⟨decide ((sumAt (goods (l.map Prod.snd)) (goods (l'.map Prod.snd)) k).2 < 0), lv⟩⟩ : QD))]).map Prod.snd)) := hide (by rw [sums_snoc]; exact isL_snoc (unhide ED) (unhide NU).1 (unhide NU).2)
      clear hown hgrow hor hlt3 OW2 OO2 AA2 HB2 HB3 OO3
      go_wp2
      go_roundw
      case rel => exact ⟨k + 1, us ++ [(u, (⟨⟨decide ((sumAt (goods (l.map Prod.snd)) (goods (l'.map Prod.snd)) k).1 < 0), lu⟩, ⟨decide ((sumAt (goods (l.map Prod.snd)) (goods (l'.map Prod.snd)) k).2 < 0), lv⟩⟩ : QD))], by omega, by go_num, by simp [hu], ED3, OW3, OO4, AA3, HB4⟩
      case measure => simp [intOf]; omega
    · have g1 : decide ((k : Int) < (n : Int)) = false := by simp; omega
      by_cases hlt' : k < n'
      · have g2 : decide ((k : Int) < (n' : Int)) = true := by simp; omega
        go_wp2_with fail
        refine (coefS a n c k l _ ((unhide HS).later (unhide HB)) (unhide HG) (by omega)).mono ?_
        rintro e w1 ⟨x1, rfl, hb1, q1⟩
        have Q1 := hide q1
        replace HB := hide (below_on (unhide HB) hb1)
        replace OW := hide (owns_later (unhide OW) hb1)
        replace OO := hide ((unhide OO).later hb1)
        replace AA := hide ((unhide AA).later hb1)
        have sz1 := hb1.size
        clear hb1 q1
        go_wp2_with fail
        refine (coefS a' n' c' k l' _ ((unhide HS').later (unhide HB)) (unhide HG') (by omega)).mono ?_
        rintro e w2 ⟨x2, rfl, hb1, q2⟩
        have Q2 := hide q2
        replace Q1 := hide ((unhide Q1).later hb1)
        replace HB := hide (below_on (unhide HB) hb1)
        replace OW := hide (owns_later (unhide OW) hb1)
        replace OO := hide ((unhide OO).later hb1)
        replace AA := hide ((unhide AA).later hb1)
        have sz2 := hb1.size
        clear hb1 q2
        go_wp2_with fail
        refine (addQS x1 x2 _ _ _ _ _ (unhide Q1) (unhide Q2) (sum_ne (unhide CG).1 (unhide CG').1) ((unhide CG).2.1.mono (by omega)) ((unhide CG).2.2.mono (by omega)) ((unhide CG').2.1.mono (by omega)) ((unhide CG').2.2.mono (by omega))).mono ?_
        rintro e w3 ⟨u, rfl, hbx, o1, o2⟩
        have ou := ow_two' (N := (sumAt (goods (l.map Prod.snd)) (goods (l'.map Prod.snd)) k).1) (D := (sumAt (goods (l.map Prod.snd)) (goods (l'.map Prod.snd)) k).2) o1 o2
        obtain ⟨lu, lv, tu, au, m1, m2⟩ := ou
        have al : Below w3.heap.size w3 (w3.alloc (.cells #[.bool u.num.g, .slice u.num.a u.num.n u.num.c, .bool u.den.g, .slice u.den.a u.den.n u.den.c] 30)) := (Below.refl _ _).alloc (Nat.le_refl _) _
        have HB2 := hide (below_on (unhide HB) hbx)
        have HB3 := hide (below_on (unhide HB2) al)
        have OW2 := hide (owns_later (owns_later (unhide OW) hbx) al)
        have OO2 := hide ((((unhide OO).later hbx).append tu).later al)
        have AA2 := hide ((((unhide AA).later hbx).append au).later al)
        have NU := hide (And.intro m1 m2)
        have zv : w.heap.size ≤ w3.heap.size := (unhide HB2).size
        clear hbx o1 o2 tu au m1 m2 al OW OO AA HB Q1 Q2
        go_wp2_with (at_builtin; refine wpList_append_lies _ rfl (.tmp 19) (.tmp 27) 54 rfl w.heap.size 30 i0 (.agg #[.bool false, .slice none 0 0, .bool false, .slice none 0 0]) 4 64 Try.underlying54 hi hz0 hz1 hz2 rfl (by decide) _ k (flatC us) rfl (unhide OW2) ⟨w3.heap.size, 0, none⟩ 1 1 [.bool u.num.g, .slice u.num.a u.num.n u.num.c, .bool u.den.g, .slice u.den.a u.den.n u.den.c] rfl rfl (World.news_of_block (cs := #[.bool u.num.g, .slice u.num.a u.num.n u.num.c, .bool u.den.g, .slice u.den.a u.den.n u.den.c]) (t := 30) (fr := (0, 0)) (by show (w3.heap.push _)[w3.heap.size]? = _; simp)) (by intro u' hu'; simp at hu'; rcases hu' with rfl | rfl | rfl | rfl <;> rfl) (by omega) (by unfold maxLen; omega) (by omega) (by simp; omega) _ rfl ?_)
        intro g cap w4 hown hgrow hor hlt3
        have OW3 : Hid (w4.ownsRow w.heap.size 30 4 (.slice (some ⟨g, 0, none⟩) (k + 1) cap) (k + 1) (flatC (us ++ [(u, (⟨⟨decide ((sumAt (goods (l.map Prod.snd)) (goods (l'.map Prod.snd)) k).1 < 0), lu⟩, ⟨decide ((sumAt (goods (l.map Prod.snd)) (goods (l'.map Prod.snd)) k).2 < 0), lv⟩⟩ : QD))]))) := hide (by rw [flatC_append]; exact hown)
        have OO3 := hide ((unhide OO2).grown hgrow (unhide OW2))
        have AA3 : Hid (AllAr w4 (zipPQ (us ++ [(u, (⟨⟨decide ((sumAt (goods (l.map Prod.snd)) (goods (l'.map Prod.snd)) k).1 < 0), lu⟩, ⟨decide ((sumAt (goods (l.map Prod.snd)) (goods (l'.map Prod.snd)) k).2 < 0), lv⟩⟩ : QD))]))) := hide (by rw [zipPQ_append, zipPQ_one]; exact Typ.ar (unhide OO3) (unhide AA2))
        have OO4 : Hid (Typ w4 (zipPQ (us ++ [(u, (⟨⟨decide ((sumAt (goods (l.map Prod.snd)) (goods (l'.map Prod.snd)) k).1 < 0), lu⟩, ⟨decide ((sumAt (goods (l.map Prod.snd)) (goods (l'.map Prod.snd)) k).2 < 0), lv⟩⟩ : QD))]))) := hide (by rw [zipPQ_append, zipPQ_one]; exact unhide OO3)
        have HB4 := hide ((unhide HB3).grown hgrow (unhide HB3).size (owns_base (unhide OW2)))
        have ED3 : Hid (IsL (sums (goods (l.map Prod.snd)) (goods (l'.map Prod.snd)) (k + 1)) ((us ++ [(u, (⟨⟨decide ((sumAt (goods (l.map Prod.snd)) (goods (l'.map Prod.snd)) k).1 < 0), lu⟩, ⟨decide ((sumAt (goods (l.map Prod.snd)) (goods (l'.map Prod.snd)) k).2 < 0), lv⟩⟩ : QD))]).map Prod.snd)) := hide (by rw [sums_snoc]; exact isL_snoc (unhide ED) (unhide NU).1 (unhide NU).2)
        clear hown hgrow hor hlt3 OW2 OO2 AA2 HB2 HB3 OO3
        go_wp2
        go_roundw
        case rel => exact ⟨k + 1, us ++ [(u, (⟨⟨decide ((sumAt (goods (l.map Prod.snd)) (goods (l'.map Prod.snd)) k).1 < 0), lu⟩, ⟨decide ((sumAt (goods (l.map Prod.snd)) (goods (l'.map Prod.snd)) k).2 < 0), lv⟩⟩ : QD))], by omega, by go_num, by simp [hu], ED3, OW3, OO4, AA3, HB4⟩
        case measure => simp [intOf]; omega
      · have g2 : decide ((k : Int) < (n' : Int)) = false := by simp; omega
        obtain rfl : k = m := by omega
        obtain ⟨a3, c3, rfl, h3, p3⟩ := owns_arg (unhide OW) hu (unhide AA)
        have P3 := hide p3
        have H3 := hide h3
        clear p3 h3 OW OO AA
        go_wp2_with fail
        refine (cutS_v a3 k c3 us _ (unhide P3) (by omega) (unhide H3)).mono ?_
        rintro e w4 ⟨a4, m4, c4, rfl, hb4, ca4, p4⟩
        have P4 := hide p4
        have C4 := hide ca4
        replace HB := hide (below_on (unhide HB) hb4)
        clear hb4 ca4 p4
        go_wp2
        go_ret
        exact ⟨_, m4, c4, us, rfl, unhide HB, unhide ED, unhide C4, unhide P4⟩
theorem IsL.take : ∀ {cs : List (Int × Int)} {ds : List QD} (m : Nat), IsL cs ds → IsL (cs.take m) (ds.take m)
  | _, _, 0, _ => by simp [IsL]
  | [], [], m + 1, _ => by simp [IsL]
  | c :: cs, d :: ds, m + 1, h => ⟨h.1, IsL.take m h.2⟩
/-- What a sum answers: P says whether both are good. -/
def AnsS4 (P : Bool) (cs : List (Int × Int)) (ds : List QD) (ok : Bool) : Prop := (P = true ∧ ∃ es m, IsL cs es ∧ CutAt es m ∧ AnsP true (cs.take m) ds ok) ∨ (P = false ∧ ok = false ∧ ds = [])
theorem AnsS4.same {P : Bool} {cs : List (Int × Int)} {d d' : List QD} {ok ok' : Bool} (h : AnsS4 P cs d ok) (k : AnsS4 P cs d' ok') : d = d' ∧ ok = ok' := by
  rcases h with ⟨p, es, m, a, b, c⟩ | ⟨p, o, e⟩ <;> rcases k with ⟨p', es', m', a', b', c'⟩ | ⟨p', o', e'⟩
  · have e1 := a.same a'
    subst e1
    have e2 := b.same b'
    subst e2
    exact c.same c'
  · rw [p] at p'; cases p'
  · rw [p] at p'; cases p'
  · exact ⟨by rw [e, e'], by rw [o, o']⟩
theorem bothS (a : Option Addr) (n c : Nat) (l : List (QV × QD)) (a' : Option Addr) (n' c' : Nat) (l' : List (QV × QD)) (w : World) (h : PArQ w a n c l) (h' : PArQ w a' n' c' l') :
    Calls Try.prog 119 #[.slice a n c, .slice a' n' c'] w fun e w' => e = .returned (.bool (gP (l.map Prod.snd) && gP (l'.map Prod.snd))) ∧ Below w.heap.size w w' := by
  have G1 := hide (fun w1 (k : PArQ w1 a n c l) => GoodPS a n c l w1 k)
  have G2 := hide (fun w1 (k : PArQ w1 a' n' c' l') => GoodPS a' n' c' l' w1 k)
  have HS := hide h
  have HS' := hide h'
  clear h h'
  cases hg : gP (l.map Prod.snd)
  · rw [hg] at G1
    go_enter Try.func119, Try.ntmps119
    go_wp2_with fail
    refine (unhide G1 _ (unhide HS)).mono ?_
    rintro e w1 ⟨rfl, hb⟩
    have HB := hide hb
    clear hb G1
    go_wp2
    go_ret
    exact ⟨rfl, unhide HB⟩
  · rw [hg] at G1
    go_enter Try.func119, Try.ntmps119
    go_wp2_with fail
    refine (unhide G1 _ (unhide HS)).mono ?_
    rintro e w1 ⟨rfl, hb⟩
    have HB := hide hb
    clear hb G1
    go_wp2_with fail
    refine (unhide G2 _ ((unhide HS').later (unhide HB))).mono ?_
    rintro e w2 ⟨rfl, hb⟩
    replace HB := hide (below_on (unhide HB) hb)
    clear hb G2
    go_wp2
    go_ret
    exact ⟨rfl, unhide HB⟩
set_option maxHeartbeats 2000000 in
theorem AddPS4 (a : Option Addr) (n c : Nat) (l : List (QV × QD)) (a' : Option Addr) (n' c' : Nat) (l' : List (QV × QD)) (w : World) (h : PArQ w a n c l) (h' : PArQ w a' n' c' l') :
    Calls Try.prog 56 #[.slice a n c, .slice a' n' c'] w (RetPr w (AnsS4 (gP (l.map Prod.snd) && gP (l'.map Prod.snd)) (sums (goods (l.map Prod.snd)) (goods (l'.map Prod.snd)) (max n n')))) := by
  have GS := hide (fun w1 (k : PArQ w1 a n c l) (k' : PArQ w1 a' n' c' l') => bothS a n c l a' n' c' l' w1 k k')
  have HS := hide h
  have HS' := hide h'
  clear h h'
  cases hg : (gP (l.map Prod.snd) && gP (l'.map Prod.snd))
  · rw [hg] at GS
    clear hg
    go_enter Try.func56, Try.ntmps56
    go_wp2_with fail
    refine (unhide GS _ (unhide HS) (unhide HS')).mono ?_
    rintro e w1 ⟨rfl, hb⟩
    have HB := hide hb
    clear hb GS
    go_wp2
    go_ret2
    exact ⟨none, 0, 0, [], false, rfl, unhide HB, ⟨.inl rfl, fun p hp => (by cases hp)⟩, rfl, .inr ⟨rfl, rfl, rfl⟩⟩
  · rw [hg] at GS
    have HG := hide (Bool.and_eq_true_iff.1 hg)
    clear hg
    go_enter Try.func56, Try.ntmps56
    go_wp2_with fail
    refine (unhide GS _ (unhide HS) (unhide HS')).mono ?_
    rintro e w1 ⟨rfl, hb⟩
    have HB := hide hb
    clear hb GS
    go_wp2_with fail
    refine (addS4_v a n c l a' n' c' l' _ ((unhide HS).later (unhide HB)) ((unhide HS').later (unhide HB)) (unhide HG).1 (unhide HG).2).mono ?_
    rintro e w2 ⟨a2, m2, c2, us, rfl, hb, i2, k2, p2⟩
    replace HB := hide (below_on (unhide HB) hb)
    have P2 := hide p2
    have I2 := hide (And.intro i2 k2)
    clear hb p2 i2 k2
    go_wp2_with fail
    refine (fitsPS a2 m2 c2 (us.take m2) _ _ (unhide P2) (by rw [List.map_take]; exact (unhide I2).1.take m2)).mono ?_
    rintro e w3 ⟨a3, n3, c3, l3, ok, rfl, hb, p3, h3, u3⟩
    replace HB := hide (below_on (unhide HB) hb)
    have P3 := hide p3
    have H3 := hide h3
    have U3 := hide u3
    clear hb p3 h3 u3
    go_wp2
    go_ret2
    exact ⟨_, _, _, l3, ok, rfl, unhide HB, unhide P3, unhide H3, .inl ⟨rfl, us.map Prod.snd, m2, (unhide I2).1, (unhide I2).2, unhide U3⟩⟩
end Go.Proofs.Ytlmeokeanihhoaa
namespace Go.Proofs.Ytlmeokeanihhoaa
open Go.RowKit
set_option linter.unusedVariables false
set_option maxRecDepth 100000
set_option linter.unusedSimpArgs false

theorem rep_rowQ {M : List Value} {us : List (QV × QD)} {n k : Nat} {u : QV} {d : QD} (hM : M.length = n * 4) (hn : us.length = n) (hk : k < n) (h : ∀ i (h : i < us.length), M[i * 4]? = some (.bool us[i].1.num.g) ∧ M[i * 4 + 1]? = some (.slice us[i].1.num.a us[i].1.num.n us[i].1.num.c) ∧ M[i * 4 + 2]? = some (.bool us[i].1.den.g) ∧ M[i * 4 + 3]? = some (.slice us[i].1.den.a us[i].1.den.n us[i].1.den.c)) :
    ∀ i (h : i < (us.set k (u, d)).length), ((((M.set (k * 4) (.bool u.num.g)).set (k * 4 + 1) (.slice u.num.a u.num.n u.num.c)).set (k * 4 + 2) (.bool u.den.g)).set (k * 4 + 3) (.slice u.den.a u.den.n u.den.c))[i * 4]? = some (.bool (us.set k (u, d))[i].1.num.g) ∧ ((((M.set (k * 4) (.bool u.num.g)).set (k * 4 + 1) (.slice u.num.a u.num.n u.num.c)).set (k * 4 + 2) (.bool u.den.g)).set (k * 4 + 3) (.slice u.den.a u.den.n u.den.c))[i * 4 + 1]? = some (.slice (us.set k (u, d))[i].1.num.a (us.set k (u, d))[i].1.num.n (us.set k (u, d))[i].1.num.c) ∧ ((((M.set (k * 4) (.bool u.num.g)).set (k * 4 + 1) (.slice u.num.a u.num.n u.num.c)).set (k * 4 + 2) (.bool u.den.g)).set (k * 4 + 3) (.slice u.den.a u.den.n u.den.c))[i * 4 + 2]? = some (.bool (us.set k (u, d))[i].1.den.g) ∧ ((((M.set (k * 4) (.bool u.num.g)).set (k * 4 + 1) (.slice u.num.a u.num.n u.num.c)).set (k * 4 + 2) (.bool u.den.g)).set (k * 4 + 3) (.slice u.den.a u.den.n u.den.c))[i * 4 + 3]? = some (.slice (us.set k (u, d))[i].1.den.a (us.set k (u, d))[i].1.den.n (us.set k (u, d))[i].1.den.c) := by
  intro i hi
  have hi' : i < us.length := by simpa using hi
  by_cases e : i = k
  · subst e
    rw [List.getElem_set_self]
    refine ⟨?_, ?_, ?_, ?_⟩
    · simp only [List.getElem?_set, List.length_set]; rw [if_neg (by omega), if_neg (by omega), if_neg (by omega)]; rw [if_pos trivial, if_pos (by omega)]
    · simp only [List.getElem?_set, List.length_set]; rw [if_neg (by omega), if_neg (by omega)]; rw [if_pos trivial, if_pos (by omega)]
    · simp only [List.getElem?_set, List.length_set]; rw [if_neg (by omega)]; rw [if_pos trivial, if_pos (by omega)]
    · simp only [List.getElem?_set, List.length_set]; rw [if_pos trivial, if_pos (by omega)]
  · have h1 := h i hi'
    rw [List.getElem_set_ne (Ne.symm e)]
    simp only [List.getElem?_set]
    refine ⟨?_, ?_, ?_, ?_⟩
    · rw [if_neg (by omega), if_neg (by omega), if_neg (by omega), if_neg (by omega)]; exact h1.1
    · rw [if_neg (by omega), if_neg (by omega), if_neg (by omega), if_neg (by omega)]; exact h1.2.1
    · rw [if_neg (by omega), if_neg (by omega), if_neg (by omega), if_neg (by omega)]; exact h1.2.2.1
    · rw [if_neg (by omega), if_neg (by omega), if_neg (by omega), if_neg (by omega)]; exact h1.2.2.2
/-- Numbers in the midst are replaced by newer ones. -/
theorem AllOwn.repl {lo hi hi' : Nat} {w : World} {A R B U : List (BV × BD)} (h : AllOwn lo hi w (A ++ R ++ B)) (k : AllOwn hi hi' w U) (h1 : lo ≤ hi) (h2 : hi ≤ hi') : AllOwn lo hi' w (A ++ U ++ B) := by
  have hAp : (A ++ R).Pairwise Ap ∧ B.Pairwise Ap ∧ ∀ p ∈ A ++ R, ∀ q ∈ B, Ap p q := List.pairwise_append.1 h.ap
  have hA := (List.pairwise_append.1 hAp.1).1
  have oA : ∀ p ∈ A, OwB2 lo hi w p.1 p.2 := fun p hp => h.own p (List.mem_append_left _ (List.mem_append_left _ hp))
  have oB : ∀ p ∈ B, OwB2 lo hi w p.1 p.2 := fun p hp => h.own p (List.mem_append_right _ hp)
  refine ⟨fun p hp => ?_, List.pairwise_append.2 ⟨List.pairwise_append.2 ⟨hA, k.ap, fun p hp q hq => dis_parts (oA p hp).own (k.own q hq).own (.inl (Nat.le_refl _))⟩, hAp.2.1, fun p hp q hq => ?_⟩⟩
  · rcases List.mem_append.1 hp with hp | hp
    · rcases List.mem_append.1 hp with hp | hp
      · exact ⟨(oA p hp).sg, (oA p hp).own.wide (Nat.le_refl _) h2, (oA p hp).len⟩
      · exact ⟨(k.own p hp).sg, (k.own p hp).own.wide h1 (Nat.le_refl _), (k.own p hp).len⟩
    · exact ⟨(oB p hp).sg, (oB p hp).own.wide (Nat.le_refl _) h2, (oB p hp).len⟩
  · rcases List.mem_append.1 hp with hp | hp
    · exact hAp.2.2 p (List.mem_append_left _ hp) q hq
    · exact dis_parts (k.own p hp).own (oB q hq).own (.inr (Nat.le_refl _))
theorem zip_set {us : List (QV × QD)} {k : Nat} {u : QV × QD} (h : k < us.length) : zipPQ us = zipPQ (us.take k) ++ zipPQ [us[k]] ++ zipPQ (us.drop (k + 1)) ∧ zipPQ (us.set k u) = zipPQ (us.take k) ++ zipPQ [u] ++ zipPQ (us.drop (k + 1)) := by
  constructor
  · rw [← zipPQ_append, ← zipPQ_append]
    congr 1
    rw [List.append_assoc]
    show us = us.take k ++ (us[k] :: us.drop (k + 1))
    rw [← List.drop_eq_getElem_cons h, List.take_append_drop]
  · rw [← zipPQ_append, ← zipPQ_append]
    congr 1
    rw [List.set_eq_take_append_cons_drop, if_pos h, List.append_assoc]
    rfl
theorem IsL.set : ∀ {cs : List (Int × Int)} {ds : List QD} {c : Int × Int} {d : QD} (k : Nat), IsL cs ds → IsD c d → IsL (cs.set k c) (ds.set k d)
  | [], [], _, _, _, _, _ => by simp [IsL]
  | _ :: _, _ :: _, _, _, 0, h, hd => ⟨hd, h.2⟩
  | _ :: _, _ :: _, _, _, k + 1, h, hd => ⟨h.1, IsL.set k h.2 hd⟩
theorem IsL.get : ∀ {cs : List (Int × Int)} {ds : List QD} {c : Int × Int} {d : QD} (k : Nat), IsL cs ds → cs[k]? = some c → ds[k]? = some d → IsD c d
  | [], [], _, _, _, _, hc, _ => by simp at hc
  | _ :: _, _ :: _, _, _, 0, h, hc, hd => by
    simp only [List.getElem?_cons_zero, Option.some.injEq] at hc hd
    subst hc hd
    exact h.1
  | _ :: _, _ :: _, _, _, k + 1, h, hc, hd => IsL.get k h.2 (by simpa using hc) (by simpa using hd)
/-- The longer one's coefficients, the first i of them with the other's added. -/
def mixL (ps qs : List (Int × Int)) : Nat → List (Int × Int)
  | 0 => ps
  | i + 1 => (mixL ps qs i).set i (sumAt ps qs i)
theorem mixL_len (ps qs : List (Int × Int)) : ∀ i, (mixL ps qs i).length = ps.length
  | 0 => rfl
  | i + 1 => by show ((mixL ps qs i).set i _).length = _; rw [List.length_set]; exact mixL_len ps qs i
theorem mixL_get (ps qs : List (Int × Int)) (k : Nat) (hk : k < ps.length) : ∀ i, (mixL ps qs i)[k]? = if k < i then some (sumAt ps qs k) else ps[k]?
  | 0 => by rw [if_neg (by omega)]; rfl
  | i + 1 => by
    show ((mixL ps qs i).set i _)[k]? = _
    rw [List.getElem?_set, mixL_len]
    by_cases e : i = k
    · subst e
      rw [if_pos rfl, if_pos hk, if_pos (by omega)]
    · rw [if_neg e, mixL_get ps qs k hk i]
      by_cases h : k < i
      · rw [if_pos h, if_pos (by omega)]
      · rw [if_neg h, if_neg (by omega)]
theorem low_id {N D : Int} (h : Low N D) : lowN N D = N ∧ lowD N D = D := by
  have hp := h.pos
  exact (low_low (N := N) (D := D) (by omega)).same h (low_cross hp)
theorem mixL_sums {ps qs : List (Int × Int)} (hl : LowL ps) (hq : qs.length ≤ ps.length) : mixL ps qs qs.length = sums ps qs ps.length := by
  apply List.ext_getElem?
  intro k
  by_cases hk : k < ps.length
  · rw [mixL_get ps qs k hk]
    have e : (sums ps qs ps.length)[k]? = some (sumAt ps qs k) := by unfold sums; rw [List.getElem?_map, List.getElem?_range hk]; rfl
    rw [e]
    by_cases h : k < qs.length
    · rw [if_pos h]
    · rw [if_neg h]
      have c1 : cf qs k = (0, 1) := by unfold cf; rw [List.getElem?_eq_none (by omega)]; rfl
      have c2 : cf ps k = ps[k] := by unfold cf; rw [List.getElem?_eq_getElem hk]; rfl
      have hw := low_id (hl ps[k] (List.getElem_mem hk))
      rw [List.getElem?_eq_getElem hk]
      unfold sumAt
      rw [c1, c2]
      simp only [Int.mul_one, Int.zero_mul, Int.add_zero]
      rw [hw.1, hw.2]
  · rw [List.getElem?_eq_none (by rw [mixL_len]; omega), List.getElem?_eq_none (by unfold sums; simp; omega)]
theorem sumAt_comm (ps qs : List (Int × Int)) (k : Nat) : sumAt ps qs k = sumAt qs ps k := by
  unfold sumAt
  rw [Int.add_comm ((cf ps k).1 * (cf qs k).2), Int.mul_comm (cf ps k).2 (cf qs k).2]
theorem sums_comm (ps qs : List (Int × Int)) (m : Nat) : sums ps qs m = sums qs ps m := by
  unfold sums
  exact List.map_congr_left (fun k _ => sumAt_comm ps qs k)
end Go.Proofs.Ytlmeokeanihhoaa
namespace Go.Proofs.Ytlmeokeanihhoaa
open Go.RowKit
set_option linter.unusedVariables false
set_option maxRecDepth 100000
set_option linter.unusedSimpArgs false

set_option maxHeartbeats 4000000 in
theorem cutI_some (ad : Addr) (n c : Nat) (l : List (QV × QD)) (w : World) (h : PArQ w (some ad) n c l) :
    Calls Try.prog 176 #[.slice (some ad) n c, .func (Fn.func 169) #[] #[]] w fun e w' => ∃ m, e = .returned (.slice (some ad) m m) ∧ Below w.heap.size w w' ∧ m ≤ n ∧ CutAt (l.map Prod.snd) m := by
  have HS := hide h
  have HN := hide h.len
  have hcap := h.cap
  have htop := h.top
  clear h
  unfold maxLen at htop
  go_enter Try.func176, Try.ntmps176
  go_wp2
  go_loopw [5] (fun v wr => ∃ m : Nat, m ≤ n ∧ v = .int .i64 m ∧ Hid (∀ j (h : j < (l.map Prod.snd).length), m ≤ j → nz (l.map Prod.snd)[j] = true) ∧ Hid (Below w.heap.size w wr)) (fun v _ => (intOf v).toNat)
  case atStart => exact ⟨n, Nat.le_refl _, rfl, hide (fun j hj hm => by simp at hj; rw [unhide HN] at hj; omega), hide (Below.refl _ _)⟩
  case round =>
    obtain ⟨m, hm, rfl, EZ, HB⟩ := hrel
    have qc : (m : Int) ≤ (c : Int) := by omega
    by_cases h0 : m = 0
    · subst h0
      have CA : Hid (CutAt (l.map Prod.snd) 0) := hide ⟨Nat.zero_le _, unhide EZ, fun hh => absurd hh (by omega)⟩
      go_wp2
      go_ret
      exact ⟨0, rfl, unhide HB, Nat.zero_le _, unhide CA⟩
    · have b0 : decide ((0 : Int) < (m : Int)) = true := by simp; omega
      have hlx : m - 1 < n := by omega
      rcases (unhide HS).at_ with e | ⟨b, off, ea, hb, hc⟩
      · exact absurd (unhide HN) (by rw [e]; simp; omega)
      obtain rfl : ad = ⟨b, off, none⟩ := Option.some.inj ea
      have e0 := hc (m - 1) (by rw [unhide HN]; exact hlx)
      obtain ⟨y, hy⟩ : ∃ y, y = l[(m - 1)]'(by rw [unhide HN]; exact hlx) := ⟨_, rfl⟩
      rw [← hy] at e0
      have MY : Hid (y ∈ l) := hide (by rw [hy]; exact List.getElem_mem _)
      have EY := hide hy
      clear hy
      have E0 : wr.cell? ⟨b, off + (m - 1) * 4, none⟩ = some (.bool y.1.num.g) := ((unhide HB).cell (p := ⟨b, off + (m - 1) * 4, none⟩) hb).trans (e0.1)
      have E1 : wr.cell? ⟨b, off + (m - 1) * 4 + 1, none⟩ = some (.slice y.1.num.a y.1.num.n y.1.num.c) := ((unhide HB).cell (p := ⟨b, off + (m - 1) * 4 + 1, none⟩) hb).trans (e0.2.1)
      have E2 : wr.cell? ⟨b, off + (m - 1) * 4 + 2, none⟩ = some (.bool y.1.den.g) := ((unhide HB).cell (p := ⟨b, off + (m - 1) * 4 + 2, none⟩) hb).trans (e0.2.2.1)
      have E3 : wr.cell? ⟨b, off + (m - 1) * 4 + 3, none⟩ = some (.slice y.1.den.a y.1.den.n y.1.den.c) := ((unhide HB).cell (p := ⟨b, off + (m - 1) * 4 + 3, none⟩) hb).trans (e0.2.2.2)
      clear e0
      clear hc ea
      have R1 := hide (((unhide HS).rd y (unhide MY)).later (unhide HB))
      have i1 : (0 : Int) ≤ (m : Int) - 1 := by omega
      have i2 : (m : Int) - 1 < (n : Int) := by omega
      have i3 : ((m : Int) - 1).toNat = m - 1 := by omega
      have iw : IntKind.i64.wrap ((m : Int) - 1) = (m : Int) - 1 := by rw [IntKind.wrap_i64]; omega
      have CC := hide (fun w1 (k : AllAr w1 [(y.1.num, y.2.num), (y.1.den, y.2.den)]) => noughtI y.1 y.2 w1 k)
      cases hz : nz y.2
      · rw [hz] at CC
        have CA : Hid (CutAt (l.map Prod.snd) m) := hide ⟨by simp; rw [unhide HN]; exact hm, unhide EZ, fun hh => by rw [List.getElem_map, ← unhide EY]; exact hz⟩
        go_wp2_with fail
        refine (unhide CC _ (unhide R1)).mono ?_
        rintro e w1 ⟨rfl, hb1⟩
        replace HB := hide (below_on (unhide HB) hb1)
        clear hb1 E0 E1 E2 E3 CC R1
        go_wp2
        go_ret
        exact ⟨m, rfl, unhide HB, hm, unhide CA⟩
      · rw [hz] at CC
        go_wp2_with fail
        refine (unhide CC _ (unhide R1)).mono ?_
        rintro e w1 ⟨rfl, hb1⟩
        have HB1 := hide (below_on (unhide HB) hb1)
        clear hb1 E0 E1 E2 E3 CC R1
        go_wp2
        go_roundw
        case rel =>
          refine ⟨m - 1, by omega, by simp [i3]; omega, hide (fun j hj hmj => ?_), HB1⟩
          by_cases e : m ≤ j
          · exact unhide EZ j hj e
          · obtain rfl : j = m - 1 := by omega
            rw [List.getElem_map, ← unhide EY]
            exact hz
        case measure => simp [intOf]; omega

end Go.Proofs.Ytlmeokeanihhoaa
namespace Go.Proofs.Ytlmeokeanihhoaa
open Go.RowKit
set_option linter.unusedVariables false
set_option maxRecDepth 100000
set_option linter.unusedSimpArgs false

def wholes (xs : List Int) : List (Int × Int) := xs.map fun x => (x, 1)
/-- What PolyOf answers: P says whether the integers are taken. -/
def AnsO (P : Bool) (xs : List Int) (ds : List QD) (ok : Bool) : Prop := (P = true ∧ ok = true ∧ ∃ es m, IsL (wholes xs) es ∧ CutAt es m ∧ ds = es.take m) ∨ (P = false ∧ ok = false ∧ ds = [])
theorem AnsO.same {P : Bool} {xs : List Int} {d d' : List QD} {ok ok' : Bool} (h : AnsO P xs d ok) (k : AnsO P xs d' ok') : d = d' ∧ ok = ok' := by
  rcases h with ⟨p, o, es, m, a, b, c⟩ | ⟨p, o, e⟩ <;> rcases k with ⟨p', o', es', m', a', b', c'⟩ | ⟨p', o', e'⟩
  · have e1 := a.same a'
    subst e1
    have e2 := b.same b'
    subst e2
    exact ⟨by rw [c, c'], by rw [o, o']⟩
  · rw [p] at p'; cases p'
  · rw [p] at p'; cases p'
  · exact ⟨by rw [e, e'], by rw [o, o']⟩
theorem pro_cut {hi : Nat} {w : World} {G n c m : Nat} {l : List (QV × QD)} (h : PRo G hi w (some ⟨G, 0, none⟩) n c l) (hm : m ≤ n) : PRo G hi w (some ⟨G, 0, none⟩) m m (l.take m) := by
  have hz : lenPQ (l.take m) ≤ lenPQ l := by
    have e : lenPQ (l.take m ++ l.drop m) = lenPQ (l.take m) + lenPQ (l.drop m) := lenPQ_append _ _
    rw [List.take_append_drop] at e
    omega
  refine ⟨by rw [List.length_take, h.len]; omega, by have := h.sz; omega, fun p hp => h.ml p (List.mem_of_mem_take hp), ?_⟩
  rcases h.row with e | ⟨G', lo', hi', e, h1, h2, h3, h4, ⟨cur, h5, h5'⟩, h6⟩
  · exact .inl (by omega)
  · refine .inr ⟨G', lo', hi', e, h1, h2, h3, h4, ⟨cur, h5, fun j p hj => h5' j p ?_⟩, ⟨fun p hp => h6.own p ?_, ?_⟩⟩
    · rw [List.getElem?_take] at hj
      split at hj
      · exact hj
      · cases hj
    · obtain ⟨q, hq, hx⟩ := List.mem_flatMap.1 hp
      exact List.mem_flatMap.2 ⟨q, List.mem_of_mem_take hq, hx⟩
    · have e2 : zipPQ l = zipPQ (l.take m) ++ zipPQ (l.drop m) := by rw [← zipPQ_append, List.take_append_drop]
      have h7 := h6.ap
      rw [e2] at h7
      exact (List.pairwise_append.1 h7).1
theorem polyI_row {B B' E E' m : Nat} {w : World} {a : Option Addr} {l : List (QV × QD)} (h : m = 0 ∨ ∃ G lo hi, a = some ⟨G, 0, none⟩ ∧ B ≤ G ∧ G < lo ∧ lo ≤ hi ∧ hi ≤ E ∧ RowQ w G l ∧ AllOwn lo hi w (zipPQ l)) (hB : B' ≤ B) (hE : E ≤ E') : m = 0 ∨ ∃ G lo hi, a = some ⟨G, 0, none⟩ ∧ B' ≤ G ∧ G < lo ∧ lo ≤ hi ∧ hi ≤ E' ∧ RowQ w G l ∧ AllOwn lo hi w (zipPQ l) := by
  rcases h with e | ⟨G, lo, hi, e, h1, h2, h3, h4, h5, h6⟩
  · exact .inl e
  · exact .inr ⟨G, lo, hi, e, by omega, h2, h3, by omega, h5, h6⟩
end Go.Proofs.Ytlmeokeanihhoaa
namespace Go.Proofs.Ytlmeokeanihhoaa
open Go.RowKit
set_option linter.unusedVariables false
set_option maxRecDepth 100000
set_option linter.unusedSimpArgs false

theorem isQ_isD {w : World} {q : QV} {d : QD} {c : Int × Int} (h : AllAr w [(q.num, d.num), (q.den, d.den)]) (k : IsD c d) : IsQ w q c.1 c.2 := by
  obtain ⟨⟨g, xs⟩, ⟨g', us⟩⟩ := d
  obtain ⟨g1, n1, g2, n2⟩ := k
  simp only at g1 g2 n1 n2 h
  subst g1 g2
  exact isQ_of h n1 n2
theorem goods_low {w : World} {a : Option Addr} {n c : Nat} {l : List (QV × QD)} (h : PArQ w a n c l) (hg : gP (l.map Prod.snd) = true) : LowL (goods (l.map Prod.snd)) := fun x hx => by
  unfold goods at hx
  obtain ⟨d, hd, rfl⟩ := List.mem_map.1 hx
  obtain ⟨y, hy, rfl⟩ := List.mem_map.1 hd
  exact ⟨(good_of_mem h hg hy).pos, (good_of_mem h hg hy).low⟩
theorem sum_bd {a b c d : Int} (h1 : Bd a 40) (h2 : Bd b 40) (h3 : Bd c 40) (h4 : Bd d 40) : Bd (lowN (a * d + c * b) (b * d)) 81 ∧ Bd (lowD (a * d + c * b) (b * d)) 80 := ⟨lowN_bd (((h1.mul h4).add (h3.mul h2)).mono (by omega)), lowD_bd ((h2.mul h4).mono (by omega))⟩
theorem arg_cut {w : World} {a : Option Addr} {n c m : Nat} {l : List (QV × QD)} (h : PArQ w a n c l) (hm : m ≤ n) : PArQ w a m m (l.take m) := by
  refine ⟨?_, take_ar h.rd m, by rw [List.length_take, h.len]; omega, Nat.le_refl _, Nat.le_trans hm (Nat.le_trans h.cap h.top)⟩
  rcases h.at_ with e | ⟨b, off, e, hb, hc⟩
  · exact .inl (by rw [e]; simp)
  · refine .inr ⟨b, off, e, hb, fun i hi => ?_⟩
    rw [List.getElem_take]
    exact hc i (by rw [List.length_take] at hi; omega)
def OutPC (w : World) (cs : List (Int × Int)) (e : Ending) (w' : World) : Prop := ∃ (g m : Nat) (us : List (QV × QD)), e = .returned (.slice (some ⟨g, 0, none⟩) m m) ∧ Below w.heap.size w w' ∧ PRo w.heap.size w'.heap.size w' (some ⟨g, 0, none⟩) m m (us.take m) ∧ PArQ w' (some ⟨g, 0, none⟩) m m (us.take m) ∧ IsL cs (us.map Prod.snd) ∧ CutAt (us.map Prod.snd) m
set_option maxHeartbeats 8000000 in
theorem addI4_v (a : Option Addr) (n c : Nat) (l : List (QV × QD)) (a' : Option Addr) (n' c' : Nat) (l' : List (QV × QD)) (w : World) (h : PArQ w a n c l) (h' : PArQ w a' n' c' l') (hg : gP (l.map Prod.snd) = true) (hg' : gP (l'.map Prod.snd) = true) :
    Calls Try.prog 123 #[.slice a n c, .slice a' n' c'] w (OutPC w (sums (goods (l.map Prod.snd)) (goods (l'.map Prod.snd)) (max n n'))) := by
  have HS := hide h
  have HS' := hide h'
  have HG := hide hg
  have HG' := hide hg'
  have n7 : n ≤ 7 := by have := (gP_mem hg).1; rw [List.length_map, h.len] at this; exact this
  have n7' : n' ≤ 7 := by have := (gP_mem hg').1; rw [List.length_map, h'.len] at this; exact this
  clear h h' hg hg'
  by_cases hsw : n < n'
  · have hd : (n : Int) < (n' : Int) := by omega
    have em : max n n' = n' := by omega
    rw [em]
    clear em
    go_enter Try.func123, Try.ntmps123
    go_wp2_with fail
    refine (copyPo a' n' c' l' _ (unhide HS') (unhide HG')).mono ?_
    rintro e w0 ⟨us0, rfl, hb0, z0, po, il, ls⟩
    have HB0 := hide hb0
    have PO0 := hide po
    have IL0 := hide il
    have LS0 : Hid (∀ p ∈ us0, p.1.num.n ≤ 90 ∧ p.1.den.n ≤ 90) := hide (fun p hp => by have := ls p hp; omega)
    clear hb0 po il ls
    go_wp2
    go_loopw [19] (fun iv wr => ∃ (i : Nat) (us : List (QV × QD)), i ≤ n ∧ iv = .int .i64 i ∧ us.length = n' ∧ w.heap.size < wr.heap.size ∧ Hid (IsL (mixL (goods (l'.map Prod.snd)) (goods (l.map Prod.snd)) i) (us.map Prod.snd)) ∧ Hid (∃ M, wr.ownsRow w.heap.size 30 4 (.slice (some ⟨w.heap.size, 0, none⟩) n' n') n' M ∧ ∀ i (h : i < us.length), M[i * 4]? = some (.bool us[i].1.num.g) ∧ M[i * 4 + 1]? = some (.slice us[i].1.num.a us[i].1.num.n us[i].1.num.c) ∧ M[i * 4 + 2]? = some (.bool us[i].1.den.g) ∧ M[i * 4 + 3]? = some (.slice us[i].1.den.a us[i].1.den.n us[i].1.den.c)) ∧ Hid (AllOwn (w.heap.size + 1) wr.heap.size wr (zipPQ us)) ∧ Hid (∀ p ∈ us, AllAr wr [(p.1.num, p.2.num), (p.1.den, p.2.den)]) ∧ Hid (∀ p ∈ us, p.1.num.n ≤ 90 ∧ p.1.den.n ≤ 90) ∧ Hid (Below w.heap.size w wr)) (fun iv _ => n - (intOf iv).toNat)
    case atStart => exact ⟨0, us0, Nat.zero_le _, rfl, (unhide PO0).len, z0, IL0, hide (unhide PO0).row, hide (unhide PO0).own, hide (unhide PO0).ar, LS0, HB0⟩
    case round =>
      clear PO0 IL0 LS0 HB0 z0
      obtain ⟨i, us, hi, rfl, hu, z1, ED, EM, OO, AA, LS, HB⟩ := hrel
      by_cases hlt : i < n
      · have hlt' : (i : Int) < (n : Int) := by omega
        have hin : i < n' := by omega
        have hin' : (i : Int) < (n' : Int) := by omega
        rcases (unhide HS).at_ with e | ⟨b, off, ea, hb, hc⟩
        · exact absurd (unhide HS).len (by rw [e]; simp; omega)
        subst ea
        have e0 := hc i (by rw [(unhide HS).len]; exact hlt)
        obtain ⟨y, hy⟩ : ∃ y, y = l[i]'(by rw [(unhide HS).len]; exact hlt) := ⟨_, rfl⟩
        rw [← hy] at e0
        have MY : Hid (y ∈ l) := hide (by rw [hy]; exact List.getElem_mem _)
        have CQ := hide (cf_in (by rw [(unhide HS).len]; exact hlt) hy)
        clear hy
        have E0 : wr.cell? ⟨b, off + i * 4, none⟩ = some (.bool y.1.num.g) := ((unhide HB).cell (p := ⟨b, off + i * 4, none⟩) hb).trans (e0.1)
        have E1 : wr.cell? ⟨b, off + i * 4 + 1, none⟩ = some (.slice y.1.num.a y.1.num.n y.1.num.c) := ((unhide HB).cell (p := ⟨b, off + i * 4 + 1, none⟩) hb).trans (e0.2.1)
        have E2 : wr.cell? ⟨b, off + i * 4 + 2, none⟩ = some (.bool y.1.den.g) := ((unhide HB).cell (p := ⟨b, off + i * 4 + 2, none⟩) hb).trans (e0.2.2.1)
        have E3 : wr.cell? ⟨b, off + i * 4 + 3, none⟩ = some (.slice y.1.den.a y.1.den.n y.1.den.c) := ((unhide HB).cell (p := ⟨b, off + i * 4 + 3, none⟩) hb).trans (e0.2.2.2)
        clear e0 hc
        have JY := hide ((good_of_mem (unhide HS) (unhide HG) (unhide MY)).later (unhide HB))
        obtain ⟨x, hx⟩ : ∃ x, x = us[i]'(by omega) := ⟨_, rfl⟩
        have MX : Hid (x ∈ us) := hide (by rw [hx]; exact List.getElem_mem _)
        obtain ⟨M, hM, hL⟩ := unhide EM
        have sx := hL i (by omega)
        rw [← hx] at sx
        have S0 : wr.cell? ⟨w.heap.size, i * 4, none⟩ = some (.bool x.1.num.g) := (hM.cellAt _ (by omega)).trans (sx.1)
        have S1 : wr.cell? ⟨w.heap.size, i * 4 + 1, none⟩ = some (.slice x.1.num.a x.1.num.n x.1.num.c) := (hM.cellAt _ (by omega)).trans (sx.2.1)
        have S2 : wr.cell? ⟨w.heap.size, i * 4 + 2, none⟩ = some (.bool x.1.den.g) := (hM.cellAt _ (by omega)).trans (sx.2.2.1)
        have S3 : wr.cell? ⟨w.heap.size, i * 4 + 3, none⟩ = some (.slice x.1.den.a x.1.den.n x.1.den.c) := (hM.cellAt _ (by omega)).trans (sx.2.2.2)
        have CP : Hid (IsD (cf (goods (l'.map Prod.snd)) i) x.2) := hide (by
          have k1 : i < (goods (l'.map Prod.snd)).length := by unfold goods; rw [List.length_map, List.length_map, (unhide HS').len]; exact hin
          refine (unhide ED).get i (c := cf (goods (l'.map Prod.snd)) i) ?_ (by rw [List.getElem?_map, List.getElem?_eq_getElem (by omega), ← hx]; rfl)
          rw [mixL_get _ _ _ k1, if_neg (by omega)]
          unfold cf
          rw [List.getElem?_eq_getElem k1]
          rfl)
        have GP := hide (cf_good (unhide HS') (unhide HG') i)
        have GQ := hide (cf_good (unhide HS) (unhide HG) i)
        clear sx hM hL hx M
        go_upto_region 7 with fail
        have al : Below wr.heap.size wr (wr.alloc (.cells #[.bool y.1.num.g, .slice y.1.num.a y.1.num.n y.1.num.c, .bool y.1.den.g, .slice y.1.den.a y.1.den.n y.1.den.c] 30)) := (Below.refl _ _).alloc (Nat.le_refl _) _
        replace S0 : (wr.alloc (.cells #[.bool y.1.num.g, .slice y.1.num.a y.1.num.n y.1.num.c, .bool y.1.den.g, .slice y.1.den.a y.1.den.n y.1.den.c] 30)).cell? ⟨w.heap.size, i * 4, none⟩ = some (.bool x.1.num.g) := ca_other S0
        replace S1 : (wr.alloc (.cells #[.bool y.1.num.g, .slice y.1.num.a y.1.num.n y.1.num.c, .bool y.1.den.g, .slice y.1.den.a y.1.den.n y.1.den.c] 30)).cell? ⟨w.heap.size, i * 4 + 1, none⟩ = some (.slice x.1.num.a x.1.num.n x.1.num.c) := ca_other S1
        replace S2 : (wr.alloc (.cells #[.bool y.1.num.g, .slice y.1.num.a y.1.num.n y.1.num.c, .bool y.1.den.g, .slice y.1.den.a y.1.den.n y.1.den.c] 30)).cell? ⟨w.heap.size, i * 4 + 2, none⟩ = some (.bool x.1.den.g) := ca_other S2
        replace S3 : (wr.alloc (.cells #[.bool y.1.num.g, .slice y.1.num.a y.1.num.n y.1.num.c, .bool y.1.den.g, .slice y.1.den.a y.1.den.n y.1.den.c] 30)).cell? ⟨w.heap.size, i * 4 + 3, none⟩ = some (.slice x.1.den.a x.1.den.n x.1.den.c) := ca_other S3
        have T0 : (wr.alloc (.cells #[.bool y.1.num.g, .slice y.1.num.a y.1.num.n y.1.num.c, .bool y.1.den.g, .slice y.1.den.a y.1.den.n y.1.den.c] 30)).cell? ⟨wr.heap.size, 0, none⟩ = some (.bool y.1.num.g) := by simp [go_sem]
        have T1 : (wr.alloc (.cells #[.bool y.1.num.g, .slice y.1.num.a y.1.num.n y.1.num.c, .bool y.1.den.g, .slice y.1.den.a y.1.den.n y.1.den.c] 30)).cell? ⟨wr.heap.size, 1, none⟩ = some (.slice y.1.num.a y.1.num.n y.1.num.c) := by simp [go_sem]
        have T2 : (wr.alloc (.cells #[.bool y.1.num.g, .slice y.1.num.a y.1.num.n y.1.num.c, .bool y.1.den.g, .slice y.1.den.a y.1.den.n y.1.den.c] 30)).cell? ⟨wr.heap.size, 2, none⟩ = some (.bool y.1.den.g) := by simp [go_sem]
        have T3 : (wr.alloc (.cells #[.bool y.1.num.g, .slice y.1.num.a y.1.num.n y.1.num.c, .bool y.1.den.g, .slice y.1.den.a y.1.den.n y.1.den.c] 30)).cell? ⟨wr.heap.size, 3, none⟩ = some (.slice y.1.den.a y.1.den.n y.1.den.c) := by simp [go_sem]
        replace JY := hide ((unhide JY).later al)
        replace HB := hide (below_on (unhide HB) al)
        replace EM := hide (row_later (unhide EM) al)
        replace OO := hide ((unhide OO).later al)
        replace AA := hide (fun p hp => ((unhide AA) p hp).later al)
        have sza := al.size
        have nwr : wr.heap.size ≠ w.heap.size := by omega
        clear al E0 E1 E2 E3
        generalize (wr.alloc (.cells #[.bool y.1.num.g, .slice y.1.num.a y.1.num.n y.1.num.c, .bool y.1.den.g, .slice y.1.den.a y.1.den.n y.1.den.c] 30)) = w1 at *
        have IX : Hid (IsQ w1 x.1 (cf (goods (l'.map Prod.snd)) i).1 (cf (goods (l'.map Prod.snd)) i).2) := hide (isQ_isD (unhide AA x (unhide MX)) (unhide CP))
        have IY : Hid (IsQ w1 y.1 (cf (goods (l.map Prod.snd)) i).1 (cf (goods (l.map Prod.snd)) i).2) := hide (by rw [unhide CQ]; exact (unhide JY).is)
        have SD0 := cd_other S0
        have TD0 := cd_other T0
        have SD1 := cd_other S1
        have TD1 := cd_other T1
        have SD2 := cd_other S2
        have TD2 := cd_other T2
        have SD3 := cd_other S3
        have TD3 := cd_other T3
        go_region_with
          (first
          | (go_at_call 80; refine (addQI x.1 y.1 _ _ _ _ _ ?_ ?_ (sum_ne (unhide GP).1 (unhide GQ).1) ((unhide GP).2.1.mono (by omega)) ((unhide GP).2.2.mono (by omega)) ((unhide GQ).2.1.mono (by omega)) ((unhide GQ).2.2.mono (by omega))).mono ?_; exact (unhide IX).drew; exact (unhide IY).drew; rintro e w2 ⟨u, lu, lv, rfl, hb1, o2, a2, m1, m2⟩; have hbx := below_of_drew hb1; have sz2 := hbx.size; have AU := hide (show AllOwn w1.heap.size w2.heap.size w2 [(u.num, ⟨decide ((sumAt (goods (l'.map Prod.snd)) (goods (l.map Prod.snd)) i).1 < 0), lu⟩), (u.den, ⟨decide ((sumAt (goods (l'.map Prod.snd)) (goods (l.map Prod.snd)) i).2 < 0), lv⟩)] from o2); have AV := hide (show AllAr w2 [(u.num, ⟨decide ((sumAt (goods (l'.map Prod.snd)) (goods (l.map Prod.snd)) i).1 < 0), lu⟩), (u.den, ⟨decide ((sumAt (goods (l'.map Prod.snd)) (goods (l.map Prod.snd)) i).2 < 0), lv⟩)] from a2); have NU := hide (show Nm lu (sumAt (goods (l'.map Prod.snd)) (goods (l.map Prod.snd)) i).1.natAbs ∧ Nm lv (sumAt (goods (l'.map Prod.snd)) (goods (l.map Prod.snd)) i).2.natAbs from ⟨m1, m2⟩); replace T0 := cell_later hbx T0; replace T1 := cell_later hbx T1; replace T2 := cell_later hbx T2; replace T3 := cell_later hbx T3; replace HB := hide (below_on (unhide HB) hbx); replace EM := hide (row_later (unhide EM) hbx); replace OO := hide ((unhide OO).later hbx); replace AA := hide (fun p hp => ((unhide AA) p hp).later hbx); obtain ⟨M, hM, hL⟩ := unhide EM; obtain ⟨x_0, old0⟩ : ∃ x, w2.cell? ⟨w.heap.size, i * 4, none⟩ = some x := ⟨_, (hM.cellAt _ (by omega)).trans (List.getElem?_eq_getElem (by have := hM.1; omega))⟩; obtain ⟨x_1, old1⟩ : ∃ x, w2.cell? ⟨w.heap.size, i * 4 + 1, none⟩ = some x := ⟨_, (hM.cellAt _ (by omega)).trans (List.getElem?_eq_getElem (by have := hM.1; omega))⟩; obtain ⟨x_2, old2⟩ : ∃ x, w2.cell? ⟨w.heap.size, i * 4 + 2, none⟩ = some x := ⟨_, (hM.cellAt _ (by omega)).trans (List.getElem?_eq_getElem (by have := hM.1; omega))⟩; obtain ⟨x_3, old3⟩ : ∃ x, w2.cell? ⟨w.heap.size, i * 4 + 3, none⟩ = some x := ⟨_, (hM.cellAt _ (by omega)).trans (List.getElem?_eq_getElem (by have := hM.1; omega))⟩; have fr : ∀ o, w2.frozen? ⟨w.heap.size, o, none⟩ = false := fun o => hM.frozenAt o; have HM := hide hM; have HL := hide hL; clear hM hL hbx hb1 o2 a2 m1 m2 EM S0 S1 S2 S3 SD0 SD1 SD2 SD3 TD0 TD1 TD2 TD3))
        all_goals clear T0 T1 T2 T3
        all_goals go_wp2
        all_goals go_roundw
        all_goals (first | (simp [intOf]; omega; done) | skip)
        all_goals
          have hM := unhide HM
          have bt : But w.heap.size (w.heap.size + 1) w2 ((((w2.setCell ⟨w.heap.size, i * 4, none⟩ (.bool u.num.g)).setCell ⟨w.heap.size, i * 4 + 1, none⟩ (.slice u.num.a u.num.n u.num.c)).setCell ⟨w.heap.size, i * 4 + 2, none⟩ (.bool u.den.g)).setCell ⟨w.heap.size, i * 4 + 3, none⟩ (.slice u.den.a u.den.n u.den.c)) := but_rowQ
          have zs := zip_set (us := us) (k := i) (u := (u, (⟨⟨decide ((sumAt (goods (l'.map Prod.snd)) (goods (l.map Prod.snd)) i).1 < 0), lu⟩, ⟨decide ((sumAt (goods (l'.map Prod.snd)) (goods (l.map Prod.snd)) i).2 < 0), lv⟩⟩ : QD))) (by omega)
          have own : AllOwn (w.heap.size + 1) w2.heap.size w2 (zipPQ (us.set i (u, (⟨⟨decide ((sumAt (goods (l'.map Prod.snd)) (goods (l.map Prod.snd)) i).1 < 0), lu⟩, ⟨decide ((sumAt (goods (l'.map Prod.snd)) (goods (l.map Prod.snd)) i).2 < 0), lv⟩⟩ : QD)))) := by
            have o1 := unhide OO
            rw [zs.1] at o1
            rw [zs.2, zipPQ_one (u, _)]
            exact (o1.wide (Nat.le_refl _) (show wr.heap.size ≤ w1.heap.size by omega)).repl (unhide AU) (by omega) (by omega)
          refine ⟨i + 1, us.set i (u, (⟨⟨decide ((sumAt (goods (l'.map Prod.snd)) (goods (l.map Prod.snd)) i).1 < 0), lu⟩, ⟨decide ((sumAt (goods (l'.map Prod.snd)) (goods (l.map Prod.snd)) i).2 < 0), lv⟩⟩ : QD)), by omega, by go_num, by simp [hu], Nat.lt_of_lt_of_le (by omega) bt.size, hide ?_, hide ⟨_, (World.ownsRow.stored (World.ownsRow.stored (World.ownsRow.stored (World.ownsRow.stored hM (i * 4) (.bool u.num.g)).1 (i * 4 + 1) (.slice u.num.a u.num.n u.num.c)).1 (i * 4 + 2) (.bool u.den.g)).1 (i * 4 + 3) (.slice u.den.a u.den.n u.den.c)).1, rep_rowQ hM.1 hu hin (unhide HL)⟩, hide ?_, hide ?_, hide ?_, hide ?_⟩
          · rw [List.map_set]
            exact (unhide ED).set i ⟨rfl, (unhide NU).1, rfl, (unhide NU).2⟩
          · exact (own.but bt (.inr (Nat.le_refl _))).wide (Nat.le_refl _) bt.size
          · intro p hp q hq
            refine ar_fin bt own (fun q hq => ?_) (Nat.le_refl _) q (zipPQ_mem hp hq)
            obtain ⟨p', hp', hq'⟩ := List.mem_flatMap.1 hq
            rcases List.mem_or_eq_of_mem_set hp' with h | h
            · exact (unhide AA) p' h q hq'
            · subst h
              exact (unhide AV) q hq'
          · intro p hp
            rcases List.mem_or_eq_of_mem_set hp with h | h
            · exact (unhide LS) p h
            · subst h
              have q0 := sum_bd (unhide GP).2.1 (unhide GP).2.2 (unhide GQ).2.1 (unhide GQ).2.2
              have q1 := (unhide NU).1.len_le q0.1
              have q2 := (unhide NU).2.len_le q0.2
              have q3 : lu.length = u.num.n := (unhide AV).head.ar.len
              have q4 : lv.length = u.den.n := (unhide AV).tail.head.ar.len
              show u.num.n ≤ 90 ∧ u.den.n ≤ 90
              omega
          · exact bt.below (unhide HB) (Nat.le_refl _) (by have := (unhide HB).size; omega)
      · obtain rfl : i = n := by omega
        have EL : Hid (IsL (sums (goods (l'.map Prod.snd)) (goods (l.map Prod.snd)) n') (us.map Prod.snd)) := hide (by
          have h := unhide ED
          have l1 : (goods (l.map Prod.snd)).length = i := by unfold goods; rw [List.length_map, List.length_map, (unhide HS).len]
          have l2 : (goods (l'.map Prod.snd)).length = n' := by unfold goods; rw [List.length_map, List.length_map, (unhide HS').len]
          have e := mixL_sums (ps := (goods (l'.map Prod.snd))) (qs := (goods (l.map Prod.snd))) (goods_low (unhide HS') (unhide HG')) (by omega)
          rw [l1, l2] at e
          rw [e] at h
          exact h)
        have PO : Hid (POwQ (w.heap.size + 1) wr.heap.size wr w.heap.size n' n' us) := hide ⟨unhide EM, unhide OO, unhide AA, hu⟩
        have hsz := lenPQ_le (unhide LS)
        have RO := hide ((unhide PO).ro (Nat.lt_succ_self _) (by omega) (by omega) (fun p hp => by have := (unhide LS) p hp; omega))
        go_wp2_with fail
        refine (cutI_some ⟨w.heap.size, 0, none⟩ n' n' us _ (unhide PO).arg).mono ?_
        rintro e w3 ⟨m, rfl, hb3, hm3, hcut⟩
        have R3 := hide (pro_cut ((unhide RO).later hb3) hm3)
        have A3 := hide (arg_cut ((unhide PO).arg.later hb3) hm3)
        have HB3 := hide (below_on (unhide HB) hb3)
        have CT := hide hcut
        have s3 := hb3.size
        clear hb3 hcut
        go_wp2
        go_ret
        exact ⟨_, m, us, rfl, unhide HB3, ⟨(unhide R3).len, (unhide R3).sz, (unhide R3).ml, polyI_row (unhide R3).row (Nat.le_refl _) s3⟩, unhide A3, (by rw [sums_comm]; exact unhide EL), unhide CT⟩
  · have hd : ¬ ((n : Int) < (n' : Int)) := by omega
    have em : max n n' = n := by omega
    rw [em]
    clear em
    go_enter Try.func123, Try.ntmps123
    go_wp2_with fail
    refine (copyPo a n c l _ (unhide HS) (unhide HG)).mono ?_
    rintro e w0 ⟨us0, rfl, hb0, z0, po, il, ls⟩
    have HB0 := hide hb0
    have PO0 := hide po
    have IL0 := hide il
    have LS0 : Hid (∀ p ∈ us0, p.1.num.n ≤ 90 ∧ p.1.den.n ≤ 90) := hide (fun p hp => by have := ls p hp; omega)
    clear hb0 po il ls
    go_wp2
    go_loopw [19] (fun iv wr => ∃ (i : Nat) (us : List (QV × QD)), i ≤ n' ∧ iv = .int .i64 i ∧ us.length = n ∧ w.heap.size < wr.heap.size ∧ Hid (IsL (mixL (goods (l.map Prod.snd)) (goods (l'.map Prod.snd)) i) (us.map Prod.snd)) ∧ Hid (∃ M, wr.ownsRow w.heap.size 30 4 (.slice (some ⟨w.heap.size, 0, none⟩) n n) n M ∧ ∀ i (h : i < us.length), M[i * 4]? = some (.bool us[i].1.num.g) ∧ M[i * 4 + 1]? = some (.slice us[i].1.num.a us[i].1.num.n us[i].1.num.c) ∧ M[i * 4 + 2]? = some (.bool us[i].1.den.g) ∧ M[i * 4 + 3]? = some (.slice us[i].1.den.a us[i].1.den.n us[i].1.den.c)) ∧ Hid (AllOwn (w.heap.size + 1) wr.heap.size wr (zipPQ us)) ∧ Hid (∀ p ∈ us, AllAr wr [(p.1.num, p.2.num), (p.1.den, p.2.den)]) ∧ Hid (∀ p ∈ us, p.1.num.n ≤ 90 ∧ p.1.den.n ≤ 90) ∧ Hid (Below w.heap.size w wr)) (fun iv _ => n' - (intOf iv).toNat)
    case atStart => exact ⟨0, us0, Nat.zero_le _, rfl, (unhide PO0).len, z0, IL0, hide (unhide PO0).row, hide (unhide PO0).own, hide (unhide PO0).ar, LS0, HB0⟩
    case round =>
      clear PO0 IL0 LS0 HB0 z0
      obtain ⟨i, us, hi, rfl, hu, z1, ED, EM, OO, AA, LS, HB⟩ := hrel
      by_cases hlt : i < n'
      · have hlt' : (i : Int) < (n' : Int) := by omega
        have hin : i < n := by omega
        have hin' : (i : Int) < (n : Int) := by omega
        rcases (unhide HS').at_ with e | ⟨b, off, ea, hb, hc⟩
        · exact absurd (unhide HS').len (by rw [e]; simp; omega)
        subst ea
        have e0 := hc i (by rw [(unhide HS').len]; exact hlt)
        obtain ⟨y, hy⟩ : ∃ y, y = l'[i]'(by rw [(unhide HS').len]; exact hlt) := ⟨_, rfl⟩
        rw [← hy] at e0
        have MY : Hid (y ∈ l') := hide (by rw [hy]; exact List.getElem_mem _)
        have CQ := hide (cf_in (by rw [(unhide HS').len]; exact hlt) hy)
        clear hy
        have E0 : wr.cell? ⟨b, off + i * 4, none⟩ = some (.bool y.1.num.g) := ((unhide HB).cell (p := ⟨b, off + i * 4, none⟩) hb).trans (e0.1)
        have E1 : wr.cell? ⟨b, off + i * 4 + 1, none⟩ = some (.slice y.1.num.a y.1.num.n y.1.num.c) := ((unhide HB).cell (p := ⟨b, off + i * 4 + 1, none⟩) hb).trans (e0.2.1)
        have E2 : wr.cell? ⟨b, off + i * 4 + 2, none⟩ = some (.bool y.1.den.g) := ((unhide HB).cell (p := ⟨b, off + i * 4 + 2, none⟩) hb).trans (e0.2.2.1)
        have E3 : wr.cell? ⟨b, off + i * 4 + 3, none⟩ = some (.slice y.1.den.a y.1.den.n y.1.den.c) := ((unhide HB).cell (p := ⟨b, off + i * 4 + 3, none⟩) hb).trans (e0.2.2.2)
        clear e0 hc
        have JY := hide ((good_of_mem (unhide HS') (unhide HG') (unhide MY)).later (unhide HB))
        obtain ⟨x, hx⟩ : ∃ x, x = us[i]'(by omega) := ⟨_, rfl⟩
        have MX : Hid (x ∈ us) := hide (by rw [hx]; exact List.getElem_mem _)
        obtain ⟨M, hM, hL⟩ := unhide EM
        have sx := hL i (by omega)
        rw [← hx] at sx
        have S0 : wr.cell? ⟨w.heap.size, i * 4, none⟩ = some (.bool x.1.num.g) := (hM.cellAt _ (by omega)).trans (sx.1)
        have S1 : wr.cell? ⟨w.heap.size, i * 4 + 1, none⟩ = some (.slice x.1.num.a x.1.num.n x.1.num.c) := (hM.cellAt _ (by omega)).trans (sx.2.1)
        have S2 : wr.cell? ⟨w.heap.size, i * 4 + 2, none⟩ = some (.bool x.1.den.g) := (hM.cellAt _ (by omega)).trans (sx.2.2.1)
        have S3 : wr.cell? ⟨w.heap.size, i * 4 + 3, none⟩ = some (.slice x.1.den.a x.1.den.n x.1.den.c) := (hM.cellAt _ (by omega)).trans (sx.2.2.2)
        have CP : Hid (IsD (cf (goods (l.map Prod.snd)) i) x.2) := hide (by
          have k1 : i < (goods (l.map Prod.snd)).length := by unfold goods; rw [List.length_map, List.length_map, (unhide HS).len]; exact hin
          refine (unhide ED).get i (c := cf (goods (l.map Prod.snd)) i) ?_ (by rw [List.getElem?_map, List.getElem?_eq_getElem (by omega), ← hx]; rfl)
          rw [mixL_get _ _ _ k1, if_neg (by omega)]
          unfold cf
          rw [List.getElem?_eq_getElem k1]
          rfl)
        have GP := hide (cf_good (unhide HS) (unhide HG) i)
        have GQ := hide (cf_good (unhide HS') (unhide HG') i)
        clear sx hM hL hx M
        go_upto_region 7 with fail
        have al : Below wr.heap.size wr (wr.alloc (.cells #[.bool y.1.num.g, .slice y.1.num.a y.1.num.n y.1.num.c, .bool y.1.den.g, .slice y.1.den.a y.1.den.n y.1.den.c] 30)) := (Below.refl _ _).alloc (Nat.le_refl _) _
        replace S0 : (wr.alloc (.cells #[.bool y.1.num.g, .slice y.1.num.a y.1.num.n y.1.num.c, .bool y.1.den.g, .slice y.1.den.a y.1.den.n y.1.den.c] 30)).cell? ⟨w.heap.size, i * 4, none⟩ = some (.bool x.1.num.g) := ca_other S0
        replace S1 : (wr.alloc (.cells #[.bool y.1.num.g, .slice y.1.num.a y.1.num.n y.1.num.c, .bool y.1.den.g, .slice y.1.den.a y.1.den.n y.1.den.c] 30)).cell? ⟨w.heap.size, i * 4 + 1, none⟩ = some (.slice x.1.num.a x.1.num.n x.1.num.c) := ca_other S1
        replace S2 : (wr.alloc (.cells #[.bool y.1.num.g, .slice y.1.num.a y.1.num.n y.1.num.c, .bool y.1.den.g, .slice y.1.den.a y.1.den.n y.1.den.c] 30)).cell? ⟨w.heap.size, i * 4 + 2, none⟩ = some (.bool x.1.den.g) := ca_other S2
        replace S3 : (wr.alloc (.cells #[.bool y.1.num.g, .slice y.1.num.a y.1.num.n y.1.num.c, .bool y.1.den.g, .slice y.1.den.a y.1.den.n y.1.den.c] 30)).cell? ⟨w.heap.size, i * 4 + 3, none⟩ = some (.slice x.1.den.a x.1.den.n x.1.den.c) := ca_other S3
        have T0 : (wr.alloc (.cells #[.bool y.1.num.g, .slice y.1.num.a y.1.num.n y.1.num.c, .bool y.1.den.g, .slice y.1.den.a y.1.den.n y.1.den.c] 30)).cell? ⟨wr.heap.size, 0, none⟩ = some (.bool y.1.num.g) := by simp [go_sem]
        have T1 : (wr.alloc (.cells #[.bool y.1.num.g, .slice y.1.num.a y.1.num.n y.1.num.c, .bool y.1.den.g, .slice y.1.den.a y.1.den.n y.1.den.c] 30)).cell? ⟨wr.heap.size, 1, none⟩ = some (.slice y.1.num.a y.1.num.n y.1.num.c) := by simp [go_sem]
        have T2 : (wr.alloc (.cells #[.bool y.1.num.g, .slice y.1.num.a y.1.num.n y.1.num.c, .bool y.1.den.g, .slice y.1.den.a y.1.den.n y.1.den.c] 30)).cell? ⟨wr.heap.size, 2, none⟩ = some (.bool y.1.den.g) := by simp [go_sem]
        have T3 : (wr.alloc (.cells #[.bool y.1.num.g, .slice y.1.num.a y.1.num.n y.1.num.c, .bool y.1.den.g, .slice y.1.den.a y.1.den.n y.1.den.c] 30)).cell? ⟨wr.heap.size, 3, none⟩ = some (.slice y.1.den.a y.1.den.n y.1.den.c) := by simp [go_sem]
        replace JY := hide ((unhide JY).later al)
        replace HB := hide (below_on (unhide HB) al)
        replace EM := hide (row_later (unhide EM) al)
        replace OO := hide ((unhide OO).later al)
        replace AA := hide (fun p hp => ((unhide AA) p hp).later al)
        have sza := al.size
        have nwr : wr.heap.size ≠ w.heap.size := by omega
        clear al E0 E1 E2 E3
        generalize (wr.alloc (.cells #[.bool y.1.num.g, .slice y.1.num.a y.1.num.n y.1.num.c, .bool y.1.den.g, .slice y.1.den.a y.1.den.n y.1.den.c] 30)) = w1 at *
        have IX : Hid (IsQ w1 x.1 (cf (goods (l.map Prod.snd)) i).1 (cf (goods (l.map Prod.snd)) i).2) := hide (isQ_isD (unhide AA x (unhide MX)) (unhide CP))
        have IY : Hid (IsQ w1 y.1 (cf (goods (l'.map Prod.snd)) i).1 (cf (goods (l'.map Prod.snd)) i).2) := hide (by rw [unhide CQ]; exact (unhide JY).is)
        have SD0 := cd_other S0
        have TD0 := cd_other T0
        have SD1 := cd_other S1
        have TD1 := cd_other T1
        have SD2 := cd_other S2
        have TD2 := cd_other T2
        have SD3 := cd_other S3
        have TD3 := cd_other T3
        go_region_with
          (first
          | (go_at_call 80; refine (addQI x.1 y.1 _ _ _ _ _ ?_ ?_ (sum_ne (unhide GP).1 (unhide GQ).1) ((unhide GP).2.1.mono (by omega)) ((unhide GP).2.2.mono (by omega)) ((unhide GQ).2.1.mono (by omega)) ((unhide GQ).2.2.mono (by omega))).mono ?_; exact (unhide IX).drew; exact (unhide IY).drew; rintro e w2 ⟨u, lu, lv, rfl, hb1, o2, a2, m1, m2⟩; have hbx := below_of_drew hb1; have sz2 := hbx.size; have AU := hide (show AllOwn w1.heap.size w2.heap.size w2 [(u.num, ⟨decide ((sumAt (goods (l.map Prod.snd)) (goods (l'.map Prod.snd)) i).1 < 0), lu⟩), (u.den, ⟨decide ((sumAt (goods (l.map Prod.snd)) (goods (l'.map Prod.snd)) i).2 < 0), lv⟩)] from o2); have AV := hide (show AllAr w2 [(u.num, ⟨decide ((sumAt (goods (l.map Prod.snd)) (goods (l'.map Prod.snd)) i).1 < 0), lu⟩), (u.den, ⟨decide ((sumAt (goods (l.map Prod.snd)) (goods (l'.map Prod.snd)) i).2 < 0), lv⟩)] from a2); have NU := hide (show Nm lu (sumAt (goods (l.map Prod.snd)) (goods (l'.map Prod.snd)) i).1.natAbs ∧ Nm lv (sumAt (goods (l.map Prod.snd)) (goods (l'.map Prod.snd)) i).2.natAbs from ⟨m1, m2⟩); replace T0 := cell_later hbx T0; replace T1 := cell_later hbx T1; replace T2 := cell_later hbx T2; replace T3 := cell_later hbx T3; replace HB := hide (below_on (unhide HB) hbx); replace EM := hide (row_later (unhide EM) hbx); replace OO := hide ((unhide OO).later hbx); replace AA := hide (fun p hp => ((unhide AA) p hp).later hbx); obtain ⟨M, hM, hL⟩ := unhide EM; obtain ⟨x_0, old0⟩ : ∃ x, w2.cell? ⟨w.heap.size, i * 4, none⟩ = some x := ⟨_, (hM.cellAt _ (by omega)).trans (List.getElem?_eq_getElem (by have := hM.1; omega))⟩; obtain ⟨x_1, old1⟩ : ∃ x, w2.cell? ⟨w.heap.size, i * 4 + 1, none⟩ = some x := ⟨_, (hM.cellAt _ (by omega)).trans (List.getElem?_eq_getElem (by have := hM.1; omega))⟩; obtain ⟨x_2, old2⟩ : ∃ x, w2.cell? ⟨w.heap.size, i * 4 + 2, none⟩ = some x := ⟨_, (hM.cellAt _ (by omega)).trans (List.getElem?_eq_getElem (by have := hM.1; omega))⟩; obtain ⟨x_3, old3⟩ : ∃ x, w2.cell? ⟨w.heap.size, i * 4 + 3, none⟩ = some x := ⟨_, (hM.cellAt _ (by omega)).trans (List.getElem?_eq_getElem (by have := hM.1; omega))⟩; have fr : ∀ o, w2.frozen? ⟨w.heap.size, o, none⟩ = false := fun o => hM.frozenAt o; have HM := hide hM; have HL := hide hL; clear hM hL hbx hb1 o2 a2 m1 m2 EM S0 S1 S2 S3 SD0 SD1 SD2 SD3 TD0 TD1 TD2 TD3))
        all_goals clear T0 T1 T2 T3
        all_goals go_wp2
        all_goals go_roundw
        all_goals (first | (simp [intOf]; omega; done) | skip)
        all_goals
          have hM := unhide HM
          have bt : But w.heap.size (w.heap.size + 1) w2 ((((w2.setCell ⟨w.heap.size, i * 4, none⟩ (.bool u.num.g)).setCell ⟨w.heap.size, i * 4 + 1, none⟩ (.slice u.num.a u.num.n u.num.c)).setCell ⟨w.heap.size, i * 4 + 2, none⟩ (.bool u.den.g)).setCell ⟨w.heap.size, i * 4 + 3, none⟩ (.slice u.den.a u.den.n u.den.c)) := but_rowQ
          have zs := zip_set (us := us) (k := i) (u := (u, (⟨⟨decide ((sumAt (goods (l.map Prod.snd)) (goods (l'.map Prod.snd)) i).1 < 0), lu⟩, ⟨decide ((sumAt (goods (l.map Prod.snd)) (goods (l'.map Prod.snd)) i).2 < 0), lv⟩⟩ : QD))) (by omega)
          have own : AllOwn (w.heap.size + 1) w2.heap.size w2 (zipPQ (us.set i (u, (⟨⟨decide ((sumAt (goods (l.map Prod.snd)) (goods (l'.map Prod.snd)) i).1 < 0), lu⟩, ⟨decide ((sumAt (goods (l.map Prod.snd)) (goods (l'.map Prod.snd)) i).2 < 0), lv⟩⟩ : QD)))) := by
            have o1 := unhide OO
            rw [zs.1] at o1
            rw [zs.2, zipPQ_one (u, _)]
            exact (o1.wide (Nat.le_refl _) (show wr.heap.size ≤ w1.heap.size by omega)).repl (unhide AU) (by omega) (by omega)
          refine ⟨i + 1, us.set i (u, (⟨⟨decide ((sumAt (goods (l.map Prod.snd)) (goods (l'.map Prod.snd)) i).1 < 0), lu⟩, ⟨decide ((sumAt (goods (l.map Prod.snd)) (goods (l'.map Prod.snd)) i).2 < 0), lv⟩⟩ : QD)), by omega, by go_num, by simp [hu], Nat.lt_of_lt_of_le (by omega) bt.size, hide ?_, hide ⟨_, (World.ownsRow.stored (World.ownsRow.stored (World.ownsRow.stored (World.ownsRow.stored hM (i * 4) (.bool u.num.g)).1 (i * 4 + 1) (.slice u.num.a u.num.n u.num.c)).1 (i * 4 + 2) (.bool u.den.g)).1 (i * 4 + 3) (.slice u.den.a u.den.n u.den.c)).1, rep_rowQ hM.1 hu hin (unhide HL)⟩, hide ?_, hide ?_, hide ?_, hide ?_⟩
          · rw [List.map_set]
            exact (unhide ED).set i ⟨rfl, (unhide NU).1, rfl, (unhide NU).2⟩
          · exact (own.but bt (.inr (Nat.le_refl _))).wide (Nat.le_refl _) bt.size
          · intro p hp q hq
            refine ar_fin bt own (fun q hq => ?_) (Nat.le_refl _) q (zipPQ_mem hp hq)
            obtain ⟨p', hp', hq'⟩ := List.mem_flatMap.1 hq
            rcases List.mem_or_eq_of_mem_set hp' with h | h
            · exact (unhide AA) p' h q hq'
            · subst h
              exact (unhide AV) q hq'
          · intro p hp
            rcases List.mem_or_eq_of_mem_set hp with h | h
            · exact (unhide LS) p h
            · subst h
              have q0 := sum_bd (unhide GP).2.1 (unhide GP).2.2 (unhide GQ).2.1 (unhide GQ).2.2
              have q1 := (unhide NU).1.len_le q0.1
              have q2 := (unhide NU).2.len_le q0.2
              have q3 : lu.length = u.num.n := (unhide AV).head.ar.len
              have q4 : lv.length = u.den.n := (unhide AV).tail.head.ar.len
              show u.num.n ≤ 90 ∧ u.den.n ≤ 90
              omega
          · exact bt.below (unhide HB) (Nat.le_refl _) (by have := (unhide HB).size; omega)
      · obtain rfl : i = n' := by omega
        have EL : Hid (IsL (sums (goods (l.map Prod.snd)) (goods (l'.map Prod.snd)) n) (us.map Prod.snd)) := hide (by
          have h := unhide ED
          have l1 : (goods (l'.map Prod.snd)).length = i := by unfold goods; rw [List.length_map, List.length_map, (unhide HS').len]
          have l2 : (goods (l.map Prod.snd)).length = n := by unfold goods; rw [List.length_map, List.length_map, (unhide HS).len]
          have e := mixL_sums (ps := (goods (l.map Prod.snd))) (qs := (goods (l'.map Prod.snd))) (goods_low (unhide HS) (unhide HG)) (by omega)
          rw [l1, l2] at e
          rw [e] at h
          exact h)
        have PO : Hid (POwQ (w.heap.size + 1) wr.heap.size wr w.heap.size n n us) := hide ⟨unhide EM, unhide OO, unhide AA, hu⟩
        have hsz := lenPQ_le (unhide LS)
        have RO := hide ((unhide PO).ro (Nat.lt_succ_self _) (by omega) (by omega) (fun p hp => by have := (unhide LS) p hp; omega))
        go_wp2_with fail
        refine (cutI_some ⟨w.heap.size, 0, none⟩ n n us _ (unhide PO).arg).mono ?_
        rintro e w3 ⟨m, rfl, hb3, hm3, hcut⟩
        have R3 := hide (pro_cut ((unhide RO).later hb3) hm3)
        have A3 := hide (arg_cut ((unhide PO).arg.later hb3) hm3)
        have HB3 := hide (below_on (unhide HB) hb3)
        have CT := hide hcut
        have s3 := hb3.size
        clear hb3 hcut
        go_wp2
        go_ret
        exact ⟨_, m, us, rfl, unhide HB3, ⟨(unhide R3).len, (unhide R3).sz, (unhide R3).ml, polyI_row (unhide R3).row (Nat.le_refl _) s3⟩, unhide A3, unhide EL, unhide CT⟩
end Go.Proofs.Ytlmeokeanihhoaa
namespace Go.Proofs.Ytlmeokeanihhoaa
open Go.RowKit
set_option linter.unusedVariables false
set_option maxRecDepth 100000
set_option linter.unusedSimpArgs false

theorem sums_low {ps qs : List (Int × Int)} (hp : ∀ k, 0 < (cf ps k).2) (hq : ∀ k, 0 < (cf qs k).2) (m j : Nat) : LowL ((sums ps qs m).take j) := fun x hx => by
  have hx' := List.mem_of_mem_take hx
  unfold sums at hx'
  obtain ⟨k, _, rfl⟩ := List.mem_map.1 hx'
  exact low_low (sum_ne (hp k) (hq k))
set_option maxHeartbeats 4000000 in
theorem ofAdd4 (a : Option Addr) (n c : Nat) (l : List (QV × QD)) (a' : Option Addr) (n' c' : Nat) (l' : List (QV × QD)) (w : World) (h : PArQ w a n c l) (h' : PArQ w a' n' c' l') :
    Calls Try.prog 122 #[.slice a n c, .slice a' n' c', .func (Fn.func 123) #[] #[]] w (RetPo w (AnsS4 (gP (l.map Prod.snd) && gP (l'.map Prod.snd)) (sums (goods (l.map Prod.snd)) (goods (l'.map Prod.snd)) (max n n')))) := by
  have G1 := hide (fun w1 (k : PArQ w1 a n c l) => GoodPI a n c l w1 k)
  have G2 := hide (fun w1 (k : PArQ w1 a' n' c' l') => GoodPI a' n' c' l' w1 k)
  have HS := hide h
  have HS' := hide h'
  clear h h'
  cases hg : gP (l.map Prod.snd)
  · rw [hg] at G1
    rw [Bool.false_and]
    clear hg
    go_enter Try.func122, Try.ntmps122
    go_wp2_with fail
    refine (unhide G1 _ (unhide HS)).mono ?_
    rintro e w1 ⟨rfl, hb⟩
    have HB := hide hb
    clear hb G1
    go_wp2
    go_ret2
    exact ⟨none, 0, 0, [], false, rfl, unhide HB, PRo.none _ _ _, .inr ⟨rfl, rfl, rfl⟩⟩
  · rw [hg] at G1
    rw [Bool.true_and]
    have HG := hide hg
    clear hg
    cases hg' : gP (l'.map Prod.snd)
    · rw [hg'] at G2
      clear hg'
      go_enter Try.func122, Try.ntmps122
      go_wp2_with fail
      refine (unhide G1 _ (unhide HS)).mono ?_
      rintro e w1 ⟨rfl, hb⟩
      have HB := hide hb
      clear hb G1
      go_wp2_with fail
      refine (unhide G2 _ ((unhide HS').later (unhide HB))).mono ?_
      rintro e w2 ⟨rfl, hb⟩
      replace HB := hide (below_on (unhide HB) hb)
      clear hb G2
      go_wp2
      go_ret2
      exact ⟨none, 0, 0, [], false, rfl, unhide HB, PRo.none _ _ _, .inr ⟨rfl, rfl, rfl⟩⟩
    · rw [hg'] at G2
      have HG' := hide hg'
      clear hg'
      have LW := hide (fun j => sums_low (fun k => (cf_good (unhide HS) (unhide HG) k).1) (fun k => (cf_good (unhide HS') (unhide HG') k).1) (max n n') j)
      go_enter Try.func122, Try.ntmps122
      go_wp2_with fail
      refine (unhide G1 _ (unhide HS)).mono ?_
      rintro e w1 ⟨rfl, hb⟩
      have HB := hide hb
      clear hb G1
      go_wp2_with fail
      refine (unhide G2 _ ((unhide HS').later (unhide HB))).mono ?_
      rintro e w2 ⟨rfl, hb⟩
      replace HB := hide (below_on (unhide HB) hb)
      clear hb G2
      have s2 := (unhide HB).size
      go_wp2_with fail
      refine (addI4_v a n c l a' n' c' l' _ ((unhide HS).later (unhide HB)) ((unhide HS').later (unhide HB)) (unhide HG) (unhide HG')).mono ?_
      rintro e w3 ⟨g3, m3, us, rfl, hb, o3, r3, i3, k3⟩
      replace HB := hide (below_on (unhide HB) hb)
      have O3 := hide o3
      have R3 := hide r3
      have I3 := hide (And.intro i3 k3)
      clear hb o3 r3 i3 k3
      go_wp2_with fail
      refine (whereP (some ⟨g3, 0, none⟩) m3 m3 (us.take m3) _ w2.heap.size _ (unhide R3) (unhide O3) (by rw [List.map_take]; exact (unhide I3).1.take m3) (unhide LW m3)).mono ?_
      rintro e w4 ⟨a4, n4, c4, l4, ok, rfl, hb, o4, u4⟩
      replace HB := hide (below_on (unhide HB) hb)
      have O4 := hide (o4.wide s2 (Nat.le_refl _))
      have U4 := hide u4
      clear hb o4 u4
      go_wp2
      go_ret2
      exact ⟨_, _, _, l4, ok, rfl, unhide HB, unhide O4, .inl ⟨rfl, us.map Prod.snd, m3, (unhide I3).1, (unhide I3).2, unhide U4⟩⟩
theorem AddPI4 (a : Option Addr) (n c : Nat) (l : List (QV × QD)) (a' : Option Addr) (n' c' : Nat) (l' : List (QV × QD)) (w : World) (h : PArQ w a n c l) (h' : PArQ w a' n' c' l') :
    Calls Try.prog 57 #[.slice a n c, .slice a' n' c'] w (RetPo w (AnsS4 (gP (l.map Prod.snd) && gP (l'.map Prod.snd)) (sums (goods (l.map Prod.snd)) (goods (l'.map Prod.snd)) (max n n')))) := by
  have HS := hide h
  have HS' := hide h'
  clear h h'
  go_enter Try.func57, Try.ntmps57
  go_wp2_with fail
  refine (ofAdd4 a n c l a' n' c' l' _ (unhide HS) (unhide HS')).mono ?_
  rintro e w1 ⟨a3, n3, c3, l3, ok, rfl, hb, o3, u3⟩
  have HB := hide hb
  have O3 := hide o3
  have U3 := hide u3
  clear hb o3 u3
  go_wp2
  go_ret2
  exact ⟨_, _, _, l3, ok, rfl, unhide HB, unhide O3, unhide U3⟩
end Go.Proofs.Ytlmeokeanihhoaa
namespace Go.Proofs.Ytlmeokeanihhoaa
open Go.RowKit
set_option linter.unusedVariables false
set_option maxRecDepth 100000
set_option linter.unusedSimpArgs false

theorem markRk (k : Int) (B E : Nat) (a : Option Addr) (n c : Nat) (l : List (QV × QD)) (w : World) (h : PRo B E w a n c l) (hE : E ≤ w.heap.size) (k0 : 0 ≤ k) (k1 : k + 2 * (n : Int) + (lenPQ l : Int) ≤ 3900000) :
    Calls Try.prog 58 #[.slice a n c, .int .i64 k] w fun e w' => e = .returned (.int .i64 (enK k l)) ∧ But B E w w' ∧ PRo B E w' a n c (mkP k l) := by
  have hs := h.sz
  rcases h.row with e | ⟨G, lo, hi, e, h1, h2, h3, h4, h5, h6⟩
  · have hl : l = [] := List.length_eq_zero_iff.1 (by rw [h.len]; exact e)
    subst hl e
    refine (markP0 a c k w).mono ?_
    rintro e w' ⟨rfl, rfl⟩
    exact ⟨rfl, But.refl _ _ _, ⟨rfl, by simp [mkP, lenPQ], fun p hp => (by cases hp), .inl rfl⟩⟩
  · subst e
    refine (markP G n c l k lo hi w h5 h6 h.len h.ml h2 h3 k0 k1).mono ?_
    rintro e w' ⟨rfl, hb, hr, ho⟩
    exact ⟨rfl, hb.wide h1 h4, ⟨by rw [mkP_len]; exact h.len, by rw [mkP_lenP]; exact h.sz, mkP_ml k h.ml, .inr ⟨G, lo, hi, rfl, h1, h2, h3, h4, hr, ho⟩⟩⟩
end Go.Proofs.Ytlmeokeanihhoaa
namespace Go.Proofs.Ytlmeokeanihhoaa
open Go.RowKit
set_option linter.unusedVariables false
set_option maxRecDepth 100000
set_option linter.unusedSimpArgs false

set_option maxRecDepth 100000 in
set_option maxHeartbeats 16000000 in
theorem lawAddP_walk (a0 : Option Addr) (n0 c0 : Nat) (l0 : List (QV × QD)) (a1 : Option Addr) (n1 c1 : Nat) (l1 : List (QV × QD)) (w : World) (h0 : PSlQ w a0 l0) (hn0 : l0.length = n0) (h1 : PSlQ w a1 l1) (hn1 : l1.length = n1) (hm0 : n0 ≤ maxLen) (ml0 : ∀ p ∈ l0, p.1.num.n ≤ maxLen ∧ p.1.den.n ≤ maxLen) (hm1 : n1 ≤ maxLen) (ml1 : ∀ p ∈ l1, p.1.num.n ≤ maxLen ∧ p.1.den.n ≤ maxLen) :
    Calls Try.prog 15 #[.slice a0 n0 c0, .slice a1 n1 c1] w fun e w' => e = .returned (.bool true) ∧ Below w.heap.size w w' := by
  obtain ⟨U, HU⟩ : ∃ U : List QD → Bool → Prop, Hid (U = AnsS4 (gP (l0.map Prod.snd) && gP (l1.map Prod.snd)) (sums (goods (l0.map Prod.snd)) (goods (l1.map Prod.snd)) (max l0.length l1.length))) := ⟨_, hide rfl⟩
  have US : Hid (∀ d ok d' ok', U d ok → U d' ok' → d = d' ∧ ok = ok') := hide (by rw [unhide HU]; exact fun d ok d' ok' h k => h.same k)
  have CS : Hid (∀ (a0 : Option Addr) (n0 c0 : Nat) (k0 : List (QV × QD)) (a1 : Option Addr) (n1 c1 : Nat) (k1 : List (QV × QD)) (w : World), PArQ w a0 n0 c0 k0 → k0.map Prod.snd = l0.map Prod.snd → PArQ w a1 n1 c1 k1 → k1.map Prod.snd = l1.map Prod.snd → Calls Try.prog 56 #[.slice a0 n0 c0, .slice a1 n1 c1] w (RetPr w U)) := hide (by rw [unhide HU]; exact fun a0 n0 c0 k0 a1 n1 c1 k1 w h0 e0 h1 e1 => by have t := AddPS4 a0 n0 c0 k0 a1 n1 c1 k1 w h0 h1; have q0 := congrArg List.length e0; have q1 := congrArg List.length e1; simp only [List.length_map] at q0 q1; rw [← h0.len, ← h1.len, q0, q1, e0, e1] at t; rw [← h0.len, ← h1.len, q0, q1]; exact t)
  have CI : Hid (∀ (a0 : Option Addr) (n0 c0 : Nat) (k0 : List (QV × QD)) (a1 : Option Addr) (n1 c1 : Nat) (k1 : List (QV × QD)) (w : World), PArQ w a0 n0 c0 k0 → k0.map Prod.snd = l0.map Prod.snd → PArQ w a1 n1 c1 k1 → k1.map Prod.snd = l1.map Prod.snd → Calls Try.prog 57 #[.slice a0 n0 c0, .slice a1 n1 c1] w (RetPo w U)) := hide (by rw [unhide HU]; exact fun a0 n0 c0 k0 a1 n1 c1 k1 w h0 e0 h1 e1 => by have t := AddPI4 a0 n0 c0 k0 a1 n1 c1 k1 w h0 h1; have q0 := congrArg List.length e0; have q1 := congrArg List.length e1; simp only [List.length_map] at q0 q1; rw [← h0.len, ← h1.len, q0, q1, e0, e1] at t; rw [← h0.len, ← h1.len, q0, q1]; exact t)
  clear HU
  have SZ0 := hide (fun w1 (left : Int) (b0 : 0 ≤ left) (b1 : left ≤ 1048576) (k : PSlQ w1 a0 l0) => szPQ a0 n0 c0 l0 left w1 k hn0 hm0 ml0 b0 b1)
  have HS0 := hide h0
  have HN0 := hide hn0
  have SZ1 := hide (fun w1 (left : Int) (b0 : 0 ≤ left) (b1 : left ≤ 1048576) (k : PSlQ w1 a1 l1) => szPQ a1 n1 c1 l1 left w1 k hn1 hm1 ml1 b0 b1)
  have HS1 := hide h1
  have HN1 := hide hn1
  clear h0 hn0 hm0 ml0 h1 hn1 hm1 ml1
  go_enter Try.func15, Try.ntmps15
  have HB := hide (Below.refl w.heap.size w)
  go_wp2_with fail
  refine (unhide SZ0 _ 1048576 (by omega) (by omega) ((unhide HS0).later (unhide HB))).mono ?_
  rintro e ws0 ⟨r0, rfl, hb, hr⟩
  replace HB := hide (below_on (unhide HB) hb)
  clear hb SZ0
  by_cases hneg : r0 < 0
  · clear hr
    go_wp2
    go_ret
    exact ⟨rfl, unhide HB⟩
  have e0 : Hid (r0 = 1048576 - (n0 : Int) - (lenPQ l0 : Int)) := hide (by
    rcases hr with e | e
    · exact absurd (show r0 < 0 by omega) hneg
    · exact e.2)
  clear hr
  have b0 : r0 ≤ 1048576 := by have := unhide e0; omega
  have p0 : 0 ≤ r0 := by omega
  clear hneg
  have q0 : ¬ (r0 < 0) := by omega
  go_wp2_with fail
  refine (unhide SZ1 _ r0 (by omega) (by omega) ((unhide HS1).later (unhide HB))).mono ?_
  rintro e ws1 ⟨r1, rfl, hb, hr⟩
  replace HB := hide (below_on (unhide HB) hb)
  clear hb SZ1
  by_cases hneg : r1 < 0
  · clear hr
    go_wp2
    go_ret
    exact ⟨rfl, unhide HB⟩
  have e1 : Hid (r1 = r0 - (n1 : Int) - (lenPQ l1 : Int)) := hide (by
    rcases hr with e | e
    · exact absurd (show r1 < 0 by omega) hneg
    · exact e.2)
  clear hr
  have b1 : r1 ≤ 1048576 := by have := unhide e1; omega
  have p1 : 0 ≤ r1 := by omega
  have M0 : Hid (∀ p ∈ l0, p.1.num.n ≤ 1048576 ∧ p.1.den.n ≤ 1048576) := hide (fun p hp => by have h1 := lenPQ_mem hp; have h2 : lenQ p = p.1.num.n + p.1.den.n := rfl; have := unhide e0; have := unhide e1; omega)
  have Z0 : Hid (2 * n0 + lenPQ l0 ≤ 3200000) := hide (by have := unhide e0; have := unhide e1; omega)
  have TT0 := hide (fun w1 (k : PSlQ w1 a0 l0) => toPQ a0 n0 c0 l0 w1 k (unhide HN0) (by have := unhide e0; have := unhide e1; omega) (unhide M0))
  have M1 : Hid (∀ p ∈ l1, p.1.num.n ≤ 1048576 ∧ p.1.den.n ≤ 1048576) := hide (fun p hp => by have h1 := lenPQ_mem hp; have h2 : lenQ p = p.1.num.n + p.1.den.n := rfl; have := unhide e0; have := unhide e1; omega)
  have Z1 : Hid (2 * n1 + lenPQ l1 ≤ 3200000) := hide (by have := unhide e0; have := unhide e1; omega)
  have TT1 := hide (fun w1 (k : PSlQ w1 a1 l1) => toPQ a1 n1 c1 l1 w1 k (unhide HN1) (by have := unhide e0; have := unhide e1; omega) (unhide M1))
  go_wp2_with fail
  refine (unhide TT0 _ ((unhide HS0).later (unhide HB))).mono ?_
  rintro e ws0 ⟨ls0, rfl, hb, zs0, ds0, os0⟩
  have szs0 := hb.size
  replace HB := hide (below_on (unhide HB) hb)
  have Ds0 := hide ds0
  have Os0 := hide os0
  clear hb ds0 os0
  go_wp2_with fail
  refine (unhide TT1 _ ((unhide HS1).later (unhide HB))).mono ?_
  rintro e ws1 ⟨ls1, rfl, hb, zs1, ds1, os1⟩
  have szs1 := hb.size
  replace Os0 := hide ((unhide Os0).later hb)
  replace HB := hide (below_on (unhide HB) hb)
  have Ds1 := hide ds1
  have Os1 := hide os1
  clear hb ds1 os1
  go_wp2_with fail
  refine (unhide CS _ _ _ _ _ _ _ _ _ (unhide Os0).arg (unhide Ds0) (unhide Os1).arg (unhide Ds1)).mono ?_
  rintro e wv ⟨av, nv, cv, lv, okv, rfl, hb, sv', lnv, uv⟩
  replace HB := hide (below_on (unhide HB) hb)
  have SV := hide sv'
  have LV := hide lnv
  have UV := hide uv
  have yv := hb.size
  have yw := (unhide HB).size
  clear hb sv' lnv uv Os0 Ds0 Os1 Ds1
  have HV := hide (Below.refl wv.heap.size wv)
  go_wp2_with fail
  refine (unhide TT0 _ ((unhide HS0).later (unhide HB))).mono ?_
  rintro e wx0 ⟨lx0, rfl, hb, zx0, dx0, ox0⟩
  have szx0 := hb.size
  replace HB := hide (below_on (unhide HB) hb)
  replace HV := hide (below_on (unhide HV) hb)
  have Dx0 := hide dx0
  have Ox0 := hide ox0
  clear hb dx0 ox0
  go_wp2_with fail
  refine (unhide TT1 _ ((unhide HS1).later (unhide HB))).mono ?_
  rintro e wx1 ⟨lx1, rfl, hb, zx1, dx1, ox1⟩
  have szx1 := hb.size
  replace Ox0 := hide ((unhide Ox0).later hb)
  replace HB := hide (below_on (unhide HB) hb)
  replace HV := hide (below_on (unhide HV) hb)
  have Dx1 := hide dx1
  have Ox1 := hide ox1
  clear hb dx1 ox1
  go_wp2_with fail
  refine (unhide CI _ _ _ _ _ _ _ _ _ (unhide Ox0).arg (unhide Dx0) (unhide Ox1).arg (unhide Dx1)).mono ?_
  rintro e wg ⟨ag, ng, cg, lg, okg, rfl, hb, og, ug⟩
  obtain ⟨e1, e2⟩ := unhide US _ _ _ _ (unhide UV) ug
  subst e2
  replace Ox0 := hide ((unhide Ox0).later hb)
  replace Ox1 := hide ((unhide Ox1).later hb)
  replace HB := hide (below_on (unhide HB) hb)
  replace HV := hide (below_on (unhide HV) hb)
  have DG := hide e1
  have OG := hide og
  have yg := hb.size
  clear hb og ug e1
  have hng : Hid (ng = nv) := hide (by rw [← (unhide OG).len, ← unhide LV]; have h := congrArg List.length (unhide DG); simpa using h.symm)
  obtain rfl := unhide hng
  clear hng
  have PX0 : Hid (PRo wv.heap.size wx0.heap.size wg (some ⟨wv.heap.size, 0, none⟩) n0 n0 lx0) := hide ((unhide Ox0).ro (Nat.lt_succ_self _) (by omega) (by rw [lenPQ_snd (unhide Ox0).arg.sl (unhide HS0) (unhide Dx0)]; exact unhide Z0) (ml_snd (unhide Ox0).arg.sl (unhide HS0) (unhide Dx0) (unhide M0)))
  have ZL0 := hide (lenPQ_snd (unhide Ox0).arg.sl (unhide HS0) (unhide Dx0))
  have PX1 : Hid (PRo wx0.heap.size wx1.heap.size wg (some ⟨wx0.heap.size, 0, none⟩) n1 n1 lx1) := hide ((unhide Ox1).ro (Nat.lt_succ_self _) (by omega) (by rw [lenPQ_snd (unhide Ox1).arg.sl (unhide HS1) (unhide Dx1)]; exact unhide Z1) (ml_snd (unhide Ox1).arg.sl (unhide HS1) (unhide Dx1) (unhide M1)))
  have ZL1 := hide (lenPQ_snd (unhide Ox1).arg.sl (unhide HS1) (unhide Dx1))
  clear Ox0 Ox1
  have HG : (okv == okv) = true := by simp
  go_wp2_with fail
  refine (eqPQ _ _ _ _ _ lg lv _ (unhide OG).sl ((unhide SV).later (unhide HV)) (unhide OG).len ((unhide DG).symm) (unhide OG).max (unhide OG).lens).mono ?_
  rintro e w31 ⟨rfl, hb⟩
  have sz31 := hb.size
  replace OG := hide ((unhide OG).later hb)
  replace PX0 := hide ((unhide PX0).later hb)
  replace PX1 := hide ((unhide PX1).later hb)
  replace HB := hide (below_on (unhide HB) hb)
  replace HV := hide (below_on (unhide HV) hb)
  clear hb
  go_wp2_with fail
  refine (unhide TT0 _ ((unhide HS0).later (unhide HB))).mono ?_
  rintro e wy0 ⟨ly0, rfl, hb, zy0, dy0, oy0⟩
  have szy0 := hb.size
  replace OG := hide ((unhide OG).later hb)
  replace PX0 := hide ((unhide PX0).later hb)
  replace PX1 := hide ((unhide PX1).later hb)
  replace HB := hide (below_on (unhide HB) hb)
  replace HV := hide (below_on (unhide HV) hb)
  have Dy0 := hide dy0
  have Oy0 := hide oy0
  clear hb dy0 oy0
  go_wp2_with fail
  refine (eqPQ _ _ n0 _ _ lx0 ly0 _ (unhide PX0).sl (unhide Oy0).arg.sl (unhide PX0).len ((unhide Dx0).trans (unhide Dy0).symm) (unhide PX0).max (unhide PX0).lens).mono ?_
  rintro e w32_0 ⟨rfl, hb⟩
  have sz32_0 := hb.size
  replace OG := hide ((unhide OG).later hb)
  replace PX0 := hide ((unhide PX0).later hb)
  replace PX1 := hide ((unhide PX1).later hb)
  replace HB := hide (below_on (unhide HB) hb)
  replace HV := hide (below_on (unhide HV) hb)
  clear hb Oy0 Dy0 zy0
  go_wp2_with fail
  refine (unhide TT1 _ ((unhide HS1).later (unhide HB))).mono ?_
  rintro e wy1 ⟨ly1, rfl, hb, zy1, dy1, oy1⟩
  have szy1 := hb.size
  replace OG := hide ((unhide OG).later hb)
  replace PX0 := hide ((unhide PX0).later hb)
  replace PX1 := hide ((unhide PX1).later hb)
  replace HB := hide (below_on (unhide HB) hb)
  replace HV := hide (below_on (unhide HV) hb)
  have Dy1 := hide dy1
  have Oy1 := hide oy1
  clear hb dy1 oy1
  go_wp2_with fail
  refine (eqPQ _ _ n1 _ _ lx1 ly1 _ (unhide PX1).sl (unhide Oy1).arg.sl (unhide PX1).len ((unhide Dx1).trans (unhide Dy1).symm) (unhide PX1).max (unhide PX1).lens).mono ?_
  rintro e w32_1 ⟨rfl, hb⟩
  have sz32_1 := hb.size
  replace OG := hide ((unhide OG).later hb)
  replace PX0 := hide ((unhide PX0).later hb)
  replace PX1 := hide ((unhide PX1).later hb)
  replace HB := hide (below_on (unhide HB) hb)
  replace HV := hide (below_on (unhide HV) hb)
  clear hb Oy1 Dy1 zy1
  have gz := (unhide HB).size
  have gv := (unhide HV).size
  have LX : Hid ((1 : Int) + 2 * (n0 : Int) + (lenPQ lx0 : Int) + 2 * (n1 : Int) + (lenPQ lx1 : Int) ≤ 3900000) := hide (by have q0 := unhide ZL0; have q1 := unhide ZL1; have := unhide e0; have := unhide e1; omega)
  have NX : Hid (lx0.length = n0 ∧ lx1.length = n1) := hide ⟨(unhide PX0).len, (unhide PX1).len⟩
  go_wp2_with fail
  refine (markRk (1) _ _ _ n0 n0 lx0 _ (unhide PX0) (by omega) (by omega) (by have := unhide LX; have := unhide NX; omega)).mono ?_
  rintro e wm0 ⟨rfl, hbt, _⟩
  have szm0 := hbt.size
  replace OG := hide ((unhide OG).but hbt (.inr (by omega)))
  replace HB := hide (hbt.below (unhide HB) (by omega) (unhide HB).size)
  replace HV := hide (hbt.below (unhide HV) (by omega) (unhide HV).size)
  replace PX1 := hide ((unhide PX1).but hbt (.inr (by omega)))
  clear hbt PX0
  go_wp2_with fail
  refine (markRk (enK 1 lx0) _ _ _ n1 n1 lx1 _ (unhide PX1) (by omega) (by rw [enK_eq]; omega) (by have := unhide LX; have := unhide NX; rw [enK_eq]; omega)).mono ?_
  rintro e wm1 ⟨rfl, hbt, _⟩
  have szm1 := hbt.size
  replace OG := hide ((unhide OG).but hbt (.inr (by omega)))
  replace HB := hide (hbt.below (unhide HB) (by omega) (unhide HB).size)
  replace HV := hide (hbt.below (unhide HV) (by omega) (unhide HV).size)
  clear hbt PX1
  have hk0 : decide (enK (enK 1 lx0) lx1 < 0) = false := decide_eq_false (by rw [enK_eq, enK_eq]; omega)
  go_wp2_with fail
  refine (eqPQ _ _ _ _ _ lg lv _ (unhide OG).sl ((unhide SV).later (unhide HV)) (unhide OG).len ((unhide DG).symm) (unhide OG).max (unhide OG).lens).mono ?_
  rintro e w41 ⟨rfl, hb⟩
  have sz41 := hb.size
  replace OG := hide ((unhide OG).later hb)
  replace HB := hide (below_on (unhide HB) hb)
  replace HV := hide (below_on (unhide HV) hb)
  clear hb
  clear hk0
  have G41 : Hid (wg.heap.size ≤ w41.heap.size) := hide (by omega)
  go_wp2_with fail
  refine (markR _ _ _ _ _ lg _ (unhide OG) (unhide G41)).mono ?_
  rintro e wm1 ⟨rfl, hbt, om⟩
  have LG := hide (And.intro (unhide OG).sz (unhide OG).ml)
  have nk : ¬ (enK 1 lg < 0) := by rw [enK_eq]; omega
  replace HB := hide (hbt.below (unhide HB) (by omega) (unhide HB).size)
  replace HV := hide (hbt.below (unhide HV) (by omega) (unhide HV).size)
  replace OG := hide om
  clear hbt om
  go_wp2_with fail
  refine (heldR _ _ _ _ _ lg _ (unhide OG) (unhide LG).1 (unhide LG).2).mono ?_
  rintro e wh1 ⟨rfl, rfl⟩
  go_wp2_with fail
  refine (unhide TT0 _ ((unhide HS0).later (unhide HB))).mono ?_
  rintro e wh0 ⟨lh0, rfl, hb, zh0, dh0, oh0⟩
  have szh0 := hb.size
  replace OG := hide ((unhide OG).later hb)
  replace HB := hide (below_on (unhide HB) hb)
  replace HV := hide (below_on (unhide HV) hb)
  have Dh0 := hide dh0
  have Oh0 := hide oh0
  clear hb dh0 oh0
  go_wp2_with fail
  refine (unhide TT1 _ ((unhide HS1).later (unhide HB))).mono ?_
  rintro e wh1 ⟨lh1, rfl, hb, zh1, dh1, oh1⟩
  have szh1 := hb.size
  replace OG := hide ((unhide OG).later hb)
  replace Oh0 := hide ((unhide Oh0).later hb)
  replace HB := hide (below_on (unhide HB) hb)
  replace HV := hide (below_on (unhide HV) hb)
  have Dh1 := hide dh1
  have Oh1 := hide oh1
  clear hb dh1 oh1
  go_wp2_with fail
  refine (unhide CI _ _ _ _ _ _ _ _ _ (unhide Oh0).arg (unhide Dh0) (unhide Oh1).arg (unhide Dh1)).mono ?_
  rintro e wh ⟨ah, nh, ch, lh, okh, rfl, hb, oh, uh⟩
  obtain ⟨e1, e2⟩ := unhide US _ _ _ _ (unhide UV) uh
  subst e2
  replace OG := hide ((unhide OG).later hb)
  replace HB := hide (below_on (unhide HB) hb)
  replace HV := hide (below_on (unhide HV) hb)
  have DH := hide e1
  have OH := hide oh
  clear hb oh uh e1 Oh0 Dh0 Oh1 Dh1
  have hnh : Hid (nh = ng) := hide (by rw [← (unhide OH).len, ← unhide LV]; have h := congrArg List.length (unhide DH); simpa using h.symm)
  obtain rfl := unhide hnh
  clear hnh
  go_wp2_with fail
  refine (eqPQ _ _ _ _ _ lh lv _ (unhide OH).sl ((unhide SV).later (unhide HV)) (unhide OH).len ((unhide DH).symm) (unhide OH).max (unhide OH).lens).mono ?_
  rintro e w51 ⟨rfl, hb⟩
  replace OG := hide ((unhide OG).later hb)
  replace OH := hide ((unhide OH).later hb)
  replace HB := hide (below_on (unhide HB) hb)
  replace HV := hide (below_on (unhide HV) hb)
  clear hb
  go_wp2_with fail
  refine (heldR _ _ _ _ _ lg _ (unhide OG) (unhide LG).1 (unhide LG).2).mono ?_
  rintro e wh2 ⟨rfl, rfl⟩
  go_wp2
  go_ret
  exact ⟨rfl, unhide HB⟩
end Go.Proofs.Ytlmeokeanihhoaa
